import PyProof.Rows.All
import Wide.All
import OpenK.AllK
import Wide.FinOn
import KE.KStateDown
import HandS.ForMost
import HandS.Codes
import HandS.Defaults
import HandS.Flow
import HandS.Walk
import HandS.Wide
import HandS.IsInst
import HandS.Iter
import KE.GoesMore
import KE.GoesEnum
import KE.LtData
import KE.DataCmp
import HandS.WideBits
import HandS.RevRange
import HandS.TupLe
import HandS.TupAny
import HandS.Style
import HandS.Dict
import HandS.More
import KE.KDictPairs
import KE.OsGo
import HandS.ForSpec
import HandS.ExcIs
import KE.KExcIs
import HandS.Head0
import HandS.Head1
import HandS.Head2
import HandS.HeadEnd
import HandS.HeadHook1
import HandS.HeadHook2
import HandS.OwnEq
import HandS.MakeKw
import KE.DataEq
import HandS.DictTup
import HandS.Deep
import KE.KDictWalk
import HandS.Gcd
import HandS.Text
import HandS.StrMore
import HandS.SortKw
import KE.DataMinKey
import HandS.FStr
import PyProof.NeKinds
import HandS.DictComp
import HandS.SetKeys
import KE.KEqDict
import HandS.SetFor
import HandS.Strs
import KE.DataFind
import HandS.Zip
import KE.KDictZip
import PyProof.InstNe
import HandS.HotCalls
import KE.GoesRaise
import HandS.CallSlots
import HandS.TryOnly
import PyProof.TupleOfSeq
import HandS.SortRule
import KE.DataMinMax
import KE.SortData
import HandS.TupMul
import HandS.Ends
import PyProof.Rows.ReprR
import PyProof.ReprReads
import PyProof.ReprRoads
import PyProof.Rows.StrJoinMade
import HandS.FStrTup
import Lean
import PySem.Challenge.RW_folderkin_k81_least_shares
set_option Elab.async false
set_option linter.all false
set_option maxRecDepth 100000
set_option maxHeartbeats 4000000
namespace Vf
open PySem L2 PySem.Spec PyProof.Rows

/-- what is left of a loop, of a comprehension, behind what it walks -/
def ForB (J : It) (g : TG) (t : TS) (D : Ends) (σ : L2.St) (H1 : Hp) : Prop := ∃ W : Nat → Nat → L2.St → Hp → Prop, (∃ m, W 0 m σ H1) ∧ ∀ i m σ H, W i m σ H →
  (J.stop i H ∧ D.nx σ H) ∨ (J.go i H ∧ ∃ N : L2.St → Hp → Prop, (∀ σ' H', N σ' H' → ∃ m', m' < m ∧ W (i + 1) m' σ' H') ∧ ∀ x H', J.yld i H x H' → g x σ H' fun σ2 H2 => t { D with nx := N, ct := N, bk := D.nx } σ2 H2)
def LcB (J : It) (g : TG) (tt : TT) (te : TE) (vs : List Nat) (σ : L2.St) (D : Addr) (H1 : Hp) (Q : VK) : Prop := ∃ W : Nat → Nat → Hp → Prop, (∃ m, W 0 m (upd H1 D (.lst []))) ∧ ∀ i m H, W i m H →
  (J.stop i H ∧ Q (.ref D) H) ∨ (J.go i H ∧
    ∃ Nx : Hp → Prop, (∀ H', Nx H' → ∃ m', m' < m ∧ W (i + 1) m' H') ∧
    ∀ x H', J.yld i H x H' → g x (wipe σ vs) H' fun σ2 H2 => wipe σ2 vs = wipe σ vs ∧ tt σ2 H2 fun b H3 =>
    if b = true then te σ2 H3 fun y H4 => 
      ∃ acc, H4 D = some (.lst acc) ∧ acc.length < sizeLine ∧
      Nx (upd H4 D (.lst (acc ++ [y]))) else Nx H3)
section
variable {K : PySem.W.Frag} {g : TG} {t : TS} {D : Ends} {σ : L2.St} {H : Hp} {tt : TT} {te : TE} {vs : List Nat} {Q : VK} {Da : Addr}
/-- for c in z, a text: Pv by the signs gone -/
theorem for_str {z : Str} (Pv : List Nat → L2.St → Hp → Prop) (h0 : Pv [] σ H)
    (hs : ∀ (pre : List Nat) (c : Nat) (post : List Nat) σ H, z.cps.toList = pre ++ c :: post → Pv pre σ H → g (.str ⟨#[c]⟩) σ H fun σ2 H2 => t { D with nx := Pv (pre ++ [c]), ct := Pv (pre ++ [c]), bk := D.nx } σ2 H2)
    (hd : ∀ σ H, Pv z.cps.toList σ H → D.nx σ H) : ForB (Its z) g t D σ H := by
  refine for_it walk_str (fun i => Pv (z.cps.toList.take i)) (by simpa using h0) (fun _ _ _ _ _ => trivial) (fun i x σ H H' hi p y => ?_) (fun σ H p => ?_)
  · obtain ⟨e, c, hc, hx⟩ := y
    subst e hx
    have hc' : z.cps.toList[i]? = some c := by simpa using hc
    have hi' : i < z.cps.toList.length := by simpa using hi
    have e1 : z.cps.toList = z.cps.toList.take i ++ c :: z.cps.toList.drop (i + 1) := by
      have e2 := (List.getElem?_eq_some_iff.mp hc').2
      rw [← e2, List.getElem_cons_drop, List.take_append_drop]
    have e3 : z.cps.toList.take (i + 1) = z.cps.toList.take i ++ [c] := by
      rw [List.take_add_one, hc']; rfl
    rw [e3]
    exact hs _ c _ σ _ e1 p
  · refine hd σ H ?_
    have e : z.cps.toList.take z.cps.size = z.cps.toList := List.take_of_length_le (by simp)
    rw [← e]
    exact p
theorem lc_str {z : Str} (Pv : List Nat → Hp → Prop) (h0 : Pv [] (upd H Da (.lst [])))
    (hs : ∀ (pre : List Nat) (c : Nat) (post : List Nat) H, z.cps.toList = pre ++ c :: post → Pv pre H → g (.str ⟨#[c]⟩) (wipe σ vs) H fun σ2 H2 => wipe σ2 vs = wipe σ vs ∧ tt σ2 H2 fun b H3 =>
      if b = true then te σ2 H3 fun y H4 => ∃ acc, H4 Da = some (.lst acc) ∧ acc.length < sizeLine ∧ Pv (pre ++ [c]) (upd H4 Da (.lst (acc ++ [y]))) else Pv (pre ++ [c]) H3)
    (hd : ∀ H, Pv z.cps.toList H → Q (.ref Da) H) : LcB (Its z) g tt te vs σ Da H Q := by
  refine lc_it walk_str (fun i => Pv (z.cps.toList.take i)) (by simpa using h0) (fun _ _ _ _ => trivial) (fun i x H H' hi p y => ?_) (fun H p => ?_)
  · obtain ⟨e, c, hc, hx⟩ := y
    subst e hx
    have hc' : z.cps.toList[i]? = some c := by simpa using hc
    have e1 : z.cps.toList = z.cps.toList.take i ++ c :: z.cps.toList.drop (i + 1) := by
      have e2 := (List.getElem?_eq_some_iff.mp hc').2
      rw [← e2, List.getElem_cons_drop, List.take_append_drop]
    have e3 : z.cps.toList.take (i + 1) = z.cps.toList.take i ++ [c] := by
      rw [List.take_add_one, hc']; rfl
    rw [e3]
    exact hs _ c _ _ e1 p
  · refine hd H ?_
    have e : z.cps.toList.take z.cps.size = z.cps.toList := List.take_of_length_le (by simp)
    rw [← e]
    exact p
theorem for_rng {lo : Int} {n : Nat} (Pv : Nat → L2.St → Hp → Prop) (h0 : Pv 0 σ H)
    (hs : ∀ i σ H, i < n → Pv i σ H → g (.int (lo + i)) σ H fun σ2 H2 => t { D with nx := Pv (i + 1), ct := Pv (i + 1), bk := D.nx } σ2 H2) (hd : ∀ σ H, Pv n σ H → D.nx σ H) : ForB (Itr lo n) g t D σ H := for_range Pv h0 hs hd
theorem lc_rng {lo : Int} {n : Nat} (Pv : Nat → Hp → Prop) (h0 : Pv 0 (upd H Da (.lst [])))
    (hs : ∀ i H, i < n → Pv i H → g (.int (lo + i)) (wipe σ vs) H 
      fun σ2 H2 => wipe σ2 vs = wipe σ vs ∧ tt σ2 H2 fun b H3 =>
      if b = true then te σ2 H3 fun y H4 => ∃ acc, H4 Da = some (.lst acc) ∧ acc.length < sizeLine ∧ Pv (i + 1) (upd H4 Da (.lst (acc ++ [y]))) else Pv (i + 1) H3) (hd : ∀ H, Pv n H → Q (.ref Da) H) :
    LcB (Itr lo n) g tt te vs σ Da H Q := lc_range Pv h0 hs hd
/-- for x in xs, a list: Pv by what was taken -/
theorem for_lst {a : Addr} {xs : List V} (Pv : List V → L2.St → Hp → Prop) (h0 : Pv [] σ H) (hl : ∀ pre σ H, Pv pre σ H → SqL K H a xs)
    (hs : ∀ (pre : List V) (x : V) (post : List V) σ H, xs = pre ++ x :: post → Pv pre σ H → g x σ H fun σ2 H2 => t { D with nx := Pv (pre ++ [x]), ct := Pv (pre ++ [x]), bk := D.nx } σ2 H2)
    (hd : ∀ σ H, Pv xs σ H → D.nx σ H) : ForB (Itl K a) g t D σ H := by
  refine for_list (xs := xs) (fun i => Pv (xs.take i)) (by simpa using h0) (fun i σ H _ p => hl _ σ H p) (fun i x σ H hx p => ?_) (fun σ H p => ?_)
  · have e1 : xs = xs.take i ++ x :: xs.drop (i + 1) := by
      have e2 := (List.getElem?_eq_some_iff.mp hx).2
      rw [← e2, List.getElem_cons_drop, List.take_append_drop]
    have e3 : xs.take (i + 1) = xs.take i ++ [x] := by
      rw [List.take_add_one, hx]; rfl
    rw [e3]
    exact hs _ x _ σ H e1 p
  · rw [List.take_length] at p
    exact hd σ H p
theorem lc_lst {a : Addr} {xs : List V} (Pv : List V → Hp → Prop) (h0 : Pv [] (upd H Da (.lst []))) (hl : ∀ pre H, Pv pre H → SqL K H a xs)
    (hs : ∀ (pre : List V) (x : V) (post : List V) H, xs = pre ++ x :: post → Pv pre H → g x (wipe σ vs) H fun σ2 H2 => wipe σ2 vs = wipe σ vs ∧ tt σ2 H2 fun b H3 =>
      if b = true then te σ2 H3 fun y H4 => ∃ acc, H4 Da = some (.lst acc) ∧ acc.length < sizeLine ∧ Pv (pre ++ [x]) (upd H4 Da (.lst (acc ++ [y]))) else Pv (pre ++ [x]) H3)
    (hd : ∀ H, Pv xs H → Q (.ref Da) H) : LcB (Itl K a) g tt te vs σ Da H Q := by
  refine lc_list (xs := xs) (fun i => Pv (xs.take i)) (by simpa using h0) (fun i H _ p => hl _ H p) (fun i x H hx p => ?_) (fun H p => ?_)
  · have e1 : xs = xs.take i ++ x :: xs.drop (i + 1) := by
      have e2 := (List.getElem?_eq_some_iff.mp hx).2
      rw [← e2, List.getElem_cons_drop, List.take_append_drop]
    have e3 : xs.take (i + 1) = xs.take i ++ [x] := by
      rw [List.take_add_one, hx]; rfl
    rw [e3]
    exact hs _ x _ H e1 p
  · rw [List.take_length] at p
    exact hd H p
theorem for_tpl {a : Addr} {xs : List V} (Pv : List V → L2.St → Hp → Prop) (h0 : Pv [] σ H) (hl : ∀ pre σ H, Pv pre σ H → SqT K H a xs)
    (hs : ∀ (pre : List V) (x : V) (post : List V) σ H, xs = pre ++ x :: post → Pv pre σ H → g x σ H fun σ2 H2 => t { D with nx := Pv (pre ++ [x]), ct := Pv (pre ++ [x]), bk := D.nx } σ2 H2)
    (hd : ∀ σ H, Pv xs σ H → D.nx σ H) : ForB (Itt K a) g t D σ H := by
  refine for_tup (xs := xs) (fun i => Pv (xs.take i)) (by simpa using h0) (fun i σ H _ p => hl _ σ H p) (fun i x σ H hx p => ?_) (fun σ H p => ?_)
  · have e1 : xs = xs.take i ++ x :: xs.drop (i + 1) := by
      have e2 := (List.getElem?_eq_some_iff.mp hx).2
      rw [← e2, List.getElem_cons_drop, List.take_append_drop]
    have e3 : xs.take (i + 1) = xs.take i ++ [x] := by
      rw [List.take_add_one, hx]; rfl
    rw [e3]
    exact hs _ x _ σ H e1 p
  · rw [List.take_length] at p
    exact hd σ H p
end

/-! ### readings, one lemma a head -/
section
variable {σ : L2.St} {H : Hp} {Q : VK} {D : Ends} {te ta tb tx : TE} {tt tu : TT} {t u : TS} {as : TA} {r r' : R2} {x y v : V} {K : PySem.W.Frag}
theorem e_var {i : Nat} (h : σ[i]? = some (some v)) (q : Q v H) : tVar i σ H Q := ⟨v, h, q⟩
theorem e_c (q : Q v H) : tC v σ H Q := q
theorem e_op (q : ta σ H fun x H1 => tb σ H1 fun y H2 => r x y H2 Q) : tOp r ta tb σ H Q := q
theorem e_un {r : V → Hp → VK → Prop} (q : ta σ H fun x H1 => r x H1 Q) : tUn r ta σ H Q := q
theorem e_I0 {g : Int → Int → V} {i j : Int} (q : Q (g i j) H) : rI0 g (.int i) (.int j) H Q := ⟨i, j, rfl, rfl, q⟩
theorem e_I {C : Int → Int → Prop} {g : Int → Int → V} {i j : Int} (c : C i j) (q : Q (g i j) H) : rI C g (.int i) (.int j) H Q := ⟨i, j, rfl, rfl, c, q⟩
theorem e_U {g : Int → V} {i : Int} (q : Q (g i) H) : rU g (.int i) H Q := ⟨i, rfl, q⟩
theorem e_eq (s : scal x y = true) (q : Q (.bl (decide (x = y))) H) : rEq x y H Q := ⟨s, q⟩
theorem e_ne (s : scal x y = true) (q : Q (.bl (!decide (x = y))) H) : rNe x y H Q := ⟨s, q⟩
theorem e_eqI {i j : Int} (q : Q (.bl (decide (i = j))) H) : rEq (.int i) (.int j) H Q := ⟨rfl, by
  have e : decide (V.int i = V.int j) = decide (i = j) := by
    by_cases h : i = j
    · rw [h]; simp
    · rw [decide_eq_false h, decide_eq_false (fun z => h (V.int.inj z))]
  rw [e]; exact q⟩
theorem e_neI {i j : Int} (q : Q (.bl (!decide (i = j))) H) : rNe (.int i) (.int j) H Q := ⟨rfl, by
  have e : decide (V.int i = V.int j) = decide (i = j) := by
    by_cases h : i = j
    · rw [h]; simp
    · rw [decide_eq_false h, decide_eq_false (fun z => h (V.int.inj z))]
  rw [e]; exact q⟩
theorem e_eqS {i j : Str} (q : Q (.bl (decide (i = j))) H) : rEq (.str i) (.str j) H Q := ⟨rfl, by
  have e : decide (V.str i = V.str j) = decide (i = j) := by
    by_cases h : i = j
    · rw [h]; simp
    · rw [decide_eq_false h, decide_eq_false (fun z => h (V.str.inj z))]
  rw [e]; exact q⟩
theorem e_neS {i j : Str} (q : Q (.bl (!decide (i = j))) H) : rNe (.str i) (.str j) H Q := ⟨rfl, by
  have e : decide (V.str i = V.str j) = decide (i = j) := by
    by_cases h : i = j
    · rw [h]; simp
    · rw [decide_eq_false h, decide_eq_false (fun z => h (V.str.inj z))]
  rw [e]; exact q⟩
theorem e_eqB {i j : Bool} (q : Q (.bl (i == j)) H) : rEq (.bl i) (.bl j) H Q := ⟨rfl, by
  have e : decide (V.bl i = V.bl j) = (i == j) := by cases i <;> cases j <;> rfl
  rw [e]; exact q⟩
theorem e_neB {i j : Bool} (q : Q (.bl (i != j)) H) : rNe (.bl i) (.bl j) H Q := ⟨rfl, by
  have e : (!decide (V.bl i = V.bl j)) = (i != j) := by cases i <;> cases j <;> rfl
  rw [e]; exact q⟩
theorem e_test {Q : Bool → Hp → Prop} (q : te σ H fun x H' => ∃ k, x = .bl k ∧ Q k H') : tTest te σ H Q := q
theorem e_B {Q : Bool → Hp → Prop} (q : te σ H fun x H' => ∃ k, x = .bl k ∧ Q k H') : tB te σ H Q := q
theorem e_ex {b : Bool} {P : Bool → Prop} (q : P b) : ∃ k, V.bl b = .bl k ∧ P k := ⟨b, rfl, q⟩
theorem e_and {Q : Bool → Hp → Prop} (q : tt σ H fun c H1 => if c = true then tu σ H1 Q else Q false H1) : tAnd tt tu σ H Q := q
theorem e_or {Q : Bool → Hp → Prop} (q : tt σ H fun c H1 => if c = true then Q true H1 else tu σ H1 Q) : tOr tt tu σ H Q := q
theorem e_not {Q : Bool → Hp → Prop} (q : tt σ H fun c H1 => Q (!c) H1) : tNot tt σ H Q := q
theorem e_yes {Q : Bool → Hp → Prop} (q : Q true H) : tYes σ H Q := q
theorem e_andV (q : ta σ H fun x H1 => ∃ c, x = .bl c ∧ if c = true then tb σ H1 Q else Q (.bl false) H1) : tAndV ta tb σ H Q := q
theorem e_orV (q : ta σ H fun x H1 => ∃ c, x = .bl c ∧ if c = true then Q (.bl true) H1 else tb σ H1 Q) : tOrV ta tb σ H Q := q
theorem e_notV (q : ta σ H fun x H1 => ∃ c, x = .bl c ∧ Q (.bl (!c)) H1) : tNotV ta σ H Q := q
theorem e_if (q : tt σ H fun c H1 => if c = true then ta σ H1 Q else tb σ H1 Q) : tIf tt ta tb σ H Q := q
theorem e_chain (q : ta σ H fun x H1 => tb σ H1 fun y H2 => r x y H2 fun z H3 => ∃ k, z = .bl k ∧ (if k = true then tx σ H3 fun w' H4 => r' y w' H4 Q else Q (.bl false) H3)) : tChain r r' ta tb tx σ H Q := q
theorem e_seq (q : t { D with nx := u D } σ H) : tSeq t u D σ H := q
theorem e_next (q : D.nx σ H) : tNext D σ H := q
theorem e_break (q : D.bk σ H) : tBreak D σ H := q
theorem e_cont (q : D.ct σ H) : tCont D σ H := q
theorem e_drop (q : te σ H fun _ H1 => D.nx σ H1) : tDrop te D σ H := q
theorem e_ret (q : te σ H D.rt) : tRet te D σ H := q
theorem e_retN (q : D.rt .non H) : tRetN D σ H := q
theorem e_ifS (q : tt σ H fun b H1 => if b = true then t D σ H1 else u D σ H1) : tIfS tt t u D σ H := q
theorem e_asg {g : TG} (q : te σ H fun x H1 => g x σ H1 D.nx) : tAsg te g D σ H := q
theorem e_name {i : Nat} {Q : L2.St → Hp → Prop} (q : Q (σ.set i (some v)) H) : gName i v σ H Q := q
theorem e_sub {to ti : TE} {st : TSet} {Q : L2.St → Hp → Prop} (q : to σ H fun o H1 => ti σ H1 fun i H2 => st o i v H2 fun H3 => Q σ H3) : gSub to ti st v σ H Q := q
theorem e_aug {i : Nat} {ti : TIp} (h : σ[i]? = some (some x)) (q : te σ H fun y H1 => ti x y H1 fun z H2 => D.nx (σ.set i (some z)) H2) : tAug i te ti D σ H := ⟨x, h, q⟩
theorem e_nil {Q : List V → Hp → Prop} (q : Q [] H) : tNil σ H Q := q
theorem e_cons {Q : List V → Hp → Prop} (q : ta σ H fun x H1 => as σ H1 fun xs H2 => Q (x :: xs) H2) : tCons ta as σ H Q := q
theorem e_call {sp : Sp} {dvs : List V} {E : XK} (q : as σ H fun vs H1 => sp (vs ++ dvs) H1 Q E) : tCall sp dvs E as σ H Q := q
theorem e_CB {r : List V → Hp → VK → Prop} (q : as σ H fun vs H1 => r vs H1 Q) : tCB r as σ H Q := q
theorem e_tup (q : as σ H fun xs H1 => xs.length ≤ sizeLine ∧ ∀ p, H1 p = none → Q (.ref p) (upd H1 p (.tup xs))) : tTup as σ H Q := q
theorem e_lst (q : as σ H fun xs H1 => xs.length ≤ sizeLine ∧ ∀ p, H1 p = none → Q (.ref p) (upd H1 p (.lst xs))) : tLst as σ H Q := q
theorem e_sl {r : V → Option Int → Option Int → Hp → VK → Prop} {tl th : TO} (q : te σ H fun x H1 => tl σ H1 fun l H2 => th σ H2 fun u H3 => r x l u H3 Q) : tSl r te tl th σ H Q := q
theorem e_noP {Q : Option Int → Hp → Prop} (q : Q none H) : tNoPart σ H Q := q
theorem e_part {Q : Option Int → Hp → Prop} (q : te σ H fun x H1 => ∃ i, x = .int i ∧ Q (some i) H1) : tPart te σ H Q := q
theorem e_exI {i : Int} {P : Int → Prop} (q : P i) : ∃ k, V.int i = .int k ∧ P k := ⟨i, rfl, q⟩
theorem e_bm {T : String} {r : V → List V → Hp → VK → Prop} {to : TE} (q : to σ H fun x H1 => tyV K T x H1 ∧ as σ H1 fun xs H2 => r x xs H2 Q) : tBM K T r to as σ H Q := q
theorem e_for {wi : TI} {g : TG} (q : wi σ H fun J H1 => ForB J g t D σ H1) : tFor wi g t D σ H := q
theorem e_lc {wi : TI} {g : TG} {vs : List Nat} (q : wi σ H fun J H1 => ∀ D, H1 D = none → LcB J g tt te vs σ D H1 Q) : tLc wi g tt te vs σ H Q := q
theorem e_exS {i : Str} {P : Str → Prop} (q : P i) : ∃ k, V.str i = .str k ∧ P k := ⟨i, rfl, q⟩
theorem e_exR {a : Addr} {xs : List V} {P : Addr → Prop} (h : SqL K H a xs) (q : P a) : ∃ k, V.ref a = .ref k ∧ (∃ xs, SqL K H k xs) ∧ P k := ⟨a, rfl, ⟨xs, h⟩, q⟩
theorem e_exRT {a : Addr} {xs : List V} {P : Addr → Prop} (h : SqT K H a xs) (q : P a) : ∃ k, V.ref a = .ref k ∧ (∃ xs, SqT K H k xs) ∧ P k := ⟨a, rfl, ⟨xs, h⟩, q⟩
theorem e_rng1 {n : Int} {P : Int → Prop} (h1 : -(2 ^ 62) ≤ n) (h2 : n < 2 ^ 62) (q : P n) : ∃ j : Int, [V.int n] = [.int j] ∧ -(2 ^ 62) ≤ j ∧ j < 2 ^ 62 ∧ P j := ⟨n, rfl, h1, h2, q⟩
theorem e_rng2 {m n : Int} {P : Int → Int → Prop} (h : -(2 ^ 62) ≤ m ∧ m < 2 ^ 62 ∧ -(2 ^ 62) ≤ n ∧ n < 2 ^ 62) (q : P m n) : ∃ i j : Int, [V.int m, V.int n] = [.int i, .int j] ∧ (-(2 ^ 62) ≤ i ∧ i < 2 ^ 62 ∧ -(2 ^ 62) ≤ j ∧ j < 2 ^ 62) ∧ P i j := ⟨m, n, rfl, h, q⟩
theorem e_m0 {r : V → List V → Hp → VK → Prop} {to : TE} (q : to σ H fun x H1 => (∃ a, x = .str a) ∧ r x [] H1 Q) : tM0 r to σ H Q := q
theorem e_m1 {r : V → List V → Hp → VK → Prop} {to : TE} (q : to σ H fun x H1 => (∃ a, x = .str a) ∧ te σ H1 fun y H2 => r x [y] H2 Q) : tM1 r to te σ H Q := q
theorem e_slS {z : Str} {lo hi : Option Int} (h : z.length ≤ sizeLine) (q : Q (.str (cutS z lo hi)) H) : rSlS (.str z) lo hi H Q := ⟨z, rfl, h, q⟩
theorem e_iList {R : It → Hp → Prop} {tl : TE} (q : tl σ H fun x H1 => ∃ a, x = .ref a ∧ (∃ xs, SqL K H1 a xs) ∧ R (Itl K a) H1) : iList K tl σ H R := q
theorem e_iTup {R : It → Hp → Prop} {tl : TE} (q : tl σ H fun x H1 => ∃ a, x = .ref a ∧ (∃ xs, SqT K H1 a xs) ∧ R (Itt K a) H1) : iTup K tl σ H R := q
theorem e_iStr {R : It → Hp → Prop} {tl : TE} (q : tl σ H fun v H1 => ∃ x, v = .str x ∧ R (Its x) H1) : iStr tl σ H R := q
theorem e_iRng1 {R : It → Hp → Prop} (q : as σ H fun vs H1 => ∃ j : Int, vs = [.int j] ∧ -(2 ^ 62) ≤ j ∧ j < 2 ^ 62 ∧ R (Itr 0 j.toNat) H1) : iRng1 as σ H R := q
theorem e_iRng2 {R : It → Hp → Prop} (q : as σ H fun vs H1 => ∃ i j : Int, vs = [.int i, .int j] ∧ (-(2 ^ 62) ≤ i ∧ i < 2 ^ 62 ∧ -(2 ^ 62) ≤ j ∧ j < 2 ^ 62) ∧ R (Itr i (j - i).toNat) H1) : iRng2 as σ H R := q
theorem e_ixL {p : Addr} {xs : List V} {i : Int} (h : SqL K H p xs) (ha : atI xs i = some v) (q : Q v H) : rIxL K (.ref p) (.int i) H Q := ⟨p, xs, i, v, rfl, rfl, h, ha, q⟩
theorem e_ixT {p : Addr} {xs : List V} {i : Int} (h : SqT K H p xs) (ha : atI xs i = some v) (q : Q v H) : rIxT K (.ref p) (.int i) H Q := ⟨p, xs, i, v, rfl, rfl, h, ha, q⟩
theorem e_ixS {z : Str} {i : Int} {c : Nat} (hz : z.length ≤ sizeLine) (ha : atI z.cps.toList i = some c) (q : Q (.str ⟨#[c]⟩) H) : rIxS (.str z) (.int i) H Q := ⟨z, i, c, rfl, rfl, hz, ha, q⟩
theorem e_len {p : Addr} {ys : List V} (h : SqL K H p ys) (q : Q (.int ys.length) H) : ∃ p' ys', [V.ref p] = [V.ref p'] ∧ (SqL K H p' ys' ∨ SqT K H p' ys') ∧ Q (.int (ys'.length : Nat)) H := ⟨p, ys, rfl, .inl h, q⟩
theorem e_lenT {p : Addr} {ys : List V} (h : SqT K H p ys) (q : Q (.int ys.length) H) : ∃ p' ys', [V.ref p] = [V.ref p'] ∧ (SqL K H p' ys' ∨ SqT K H p' ys') ∧ Q (.int (ys'.length : Nat)) H := ⟨p, ys, rfl, .inr h, q⟩
theorem e_lenS {z : Str} (h : z.length ≤ sizeLine) (q : Q (.int z.length) H) : ∃ z', [V.str z] = [V.str z'] ∧ z'.length ≤ sizeLine ∧ Q (.int (z'.length : Nat)) H := ⟨z, rfl, h, q⟩
theorem e_int1 {i : Int} (q : Q (.int i) H) : (∃ i', [V.int i] = [V.int i'] ∧ Q (.int i') H) ∨ ∃ k, [V.int i] = [V.bl k] ∧ Q (.int (if k = true then 1 else 0)) H := .inl ⟨i, rfl, q⟩
theorem e_setL {p : Addr} {xs : List V} {k : Int} {j : Nat} {Q : Hp → Prop} (h : H p = some (.lst xs)) (hj : ixN xs.length k = some j) (q : Q (upd H p (.lst (xs.set j v)))) : rSetL (.ref p) (.int k) v H Q := ⟨p, xs, k, j, rfl, rfl, h, hj, q⟩
theorem e_cut {Mid : L2.St → Hp → Prop} (h1 : t { D with nx := Mid } σ H) (h2 : ∀ σ' H', Mid σ' H' → u D σ' H') : C8.tCut t u D σ H := ⟨Mid, h1, h2⟩
/-- a test that is known, or open -/
theorem i_T {A B : Prop} (h : A) : if true = true then A else B := by rw [if_pos rfl]; exact h
theorem i_F {A B : Prop} (h : B) : if false = true then A else B := by rw [if_neg Bool.false_ne_true]; exact h
theorem i_d {p : Prop} [Decidable p] {A B : Prop} (h1 : p → A) (h2 : ¬ p → B) : if decide p = true then A else B := by
  by_cases h : p
  · rw [decide_eq_true h]; exact i_T (h1 h)
  · rw [decide_eq_false h]; exact i_F (h2 h)
theorem i_nd {p : Prop} [Decidable p] {A B : Prop} (h1 : ¬ p → A) (h2 : p → B) : if (!decide p) = true then A else B := by
  by_cases h : p
  · rw [decide_eq_true h]; exact i_F (h2 h)
  · rw [decide_eq_false h]; exact i_T (h1 h)
theorem i_b {b : Bool} {A B : Prop} (h1 : b = true → A) (h2 : b = false → B) : if b = true then A else B := by
  cases b
  · exact i_F (h2 rfl)
  · exact i_T (h1 rfl)
theorem i_nself {b : Bool} {A B : Prop} (h : B) : if (!(b == b)) = true then A else B := by
  rw [beq_self_eq_true]; exact i_F h
theorem i_self {α : Type} [DecidableEq α] {x : α} {A B : Prop} (h : A) : if decide (x = x) = true then A else B := by
  rw [decide_eq_true rfl]; exact i_T h
theorem i_neself {α : Type} [DecidableEq α] {x : α} {A B : Prop} (h : B) : if (!decide (x = x)) = true then A else B := by
  rw [decide_eq_true rfl]; exact i_F h
theorem i_nb {b : Bool} {A B : Prop} (h1 : b = false → A) (h2 : b = true → B) : if (!b) = true then A else B := by
  cases b
  · exact i_T (h1 rfl)
  · exact i_F (h2 rfl)
end

section
variable {K : PySem.W.Frag} {H : Hp} {Q : VK}
theorem isi_ty {x : V} {t n : String} {b : Bool} (ty : TyX K H x (.type t)) (e : PySem.W.kitOne K (.type t) (.type n) = some b) (q : Q (.bl b) H) : rIsi K [x, .ty n] H Q := ⟨x, .ty n, _, _, b, rfl, .ty n, ty, e, q⟩
theorem isi_bb {x : Bool} (q : Q (.bl true) H) : rIsi K [.bl x, .ty "bool"] H Q := isi_ty (.base (.bl x)) (kit_ty (by decide +kernel)) q
theorem isi_ib {x : Int} (q : Q (.bl false) H) : rIsi K [.int x, .ty "bool"] H Q := isi_ty (.base (.int x)) (kit_ty (by decide +kernel)) q
theorem isi_bi {x : Bool} (q : Q (.bl true) H) : rIsi K [.bl x, .ty "int"] H Q := isi_ty (.base (.bl x)) (kit_ty (by decide +kernel)) q
theorem isi_ii {x : Int} (q : Q (.bl true) H) : rIsi K [.int x, .ty "int"] H Q := isi_ty (.base (.int x)) (kit_ty (by decide +kernel)) q
theorem isi_si {x : Str} (q : Q (.bl false) H) : rIsi K [.str x, .ty "int"] H Q := isi_ty (.base (.str x)) (kit_ty (by decide +kernel)) q
theorem isi_ni (q : Q (.bl false) H) : rIsi K [.non, .ty "int"] H Q := isi_ty (.base .non) (kit_ty (by decide +kernel)) q
theorem isi_tt {p : Addr} {xs : List V} (h : H p = some (.tup xs)) (q : Q (.bl true) H) : rIsi K [.ref p, .ty "tuple"] H Q := isi_ty (.base (.tup h)) (kit_ty (by decide +kernel)) q
theorem isi_ll {p : Addr} {xs : List V} (h : H p = some (.lst xs)) (q : Q (.bl true) H) : rIsi K [.ref p, .ty "list"] H Q := isi_ty (.base (.lst h)) (kit_ty (by decide +kernel)) q
theorem isi_lt {p : Addr} {xs : List V} (h : H p = some (.lst xs)) (q : Q (.bl false) H) : rIsi K [.ref p, .ty "tuple"] H Q := isi_ty (.base (.lst h)) (kit_ty (by decide +kernel)) q
end
/-! ### defs that are called by their names -/
structure Cal (P : Program) (w : World) (K : PySem.W.Frag) (mg : Str → Option Value) (base : Heap) (k : Nat) (x : Str) (sp : Sp) : Prop where
  ex : ∃ (f : Addr) (fd : FuncData) (ps : List Str), FnOk P w K mg base CX0 k f fd ps sp ∧ mg x = some (.ref f) ∧ PySem.W.keepIn K (.ref f) = true ∧ Binds K fd ps []
theorem pe_c {X : Cx} {k j : Nat} {x : Str} {sp : Sp} {p pos : Pos} {e : Expr} {es : List Expr} {t : TA} (c : Cal X.prog X.w X.K X.mg X.base k x sp) (hr : Room j X.A) (hk : k ≤ j) (hg : Gl X x) (ha : PA X (e :: es) t)
    (hdb : (x == ("__debug__" : Str)) = false := by decide) 
    (he : starEach (e :: es) X.env = (false, eval e X.env) :: starEach es X.env := by rfl) 
    (hpl : (backTo pos (starEach es X.env)).any (·.1) = false := by rfl) :
    PE X (.Call (.Name x p) (e :: es) [] pos) (tCall sp [] E0 t) := by
  obtain ⟨f, fd, ps, F, hm, kp, b⟩ := c.ex
  exact pe_call F (hr.mono hk) hg hm kp b .nil pass0 ha hdb he hpl
theorem pe_c0 {X : Cx} {k j : Nat} {x : Str} {sp : Sp} {p pos : Pos} (c : Cal X.prog X.w X.K X.mg X.base k x sp) (hr : Room j X.A) (hk : k ≤ j) (hg : Gl X x)
    (hdb : (x == ("__debug__" : Str)) = false := by decide) :
    PE X (.Call (.Name x p) [] [] pos) (tCall sp [] E0 tNil) := by
  obtain ⟨f, fd, ps, F, hm, kp, b⟩ := c.ex
  exact pe_call0 F (hr.mono hk) hg hm kp b .nil pass0 hdb

/-- promises by arity -/
abbrev sp0 (R : Hp → VK → Prop) : Sp := fun vs H Q _ => vs = [] ∧ R H Q
abbrev sp1 (R : V → Hp → VK → Prop) : Sp := fun vs H Q _ => ∃ a, vs = [a] ∧ R a H Q
abbrev sp2 (R : V → V → Hp → VK → Prop) : Sp := fun vs H Q _ => ∃ a b, vs = [a, b] ∧ R a b H Q
abbrev sp3 (R : V → V → V → Hp → VK → Prop) : Sp := fun vs H Q _ => ∃ a b c, vs = [a, b, c] ∧ R a b c H Q
abbrev sp4 (R : V → V → V → V → Hp → VK → Prop) : Sp := fun vs H Q _ => ∃ a b c d, vs = [a, b, c, d] ∧ R a b c d H Q


theorem sz_of {n : Nat} (h : n ≤ 1000000) : n ≤ sizeLine := Nat.le_trans h (by decide)
/-! ### heaps: all but one address as it was -/
def Kp (st : Addr) (H H' : Hp) : Prop := ∀ b o, b ≠ st → H b = some o → H' b = some o
theorem Kp.refl (st : Addr) (H : Hp) : Kp st H H := fun _ _ _ h => h
theorem Kp.trans {st : Addr} {H H1 H2 : Hp} (a : Kp st H H1) (b : Kp st H1 H2) : Kp st H H2 := fun c o n h => b c o n (a c o n h)
theorem Kp.of {st : Addr} {H H' : Hp} (a : Same H H') : Kp st H H' := fun c o _ h => a c o h
theorem same_new {H : Hp} {p : Addr} {o : HO} (h : H p = none) : Same H (upd H p o) := fun b x e => by
  rw [upd_ne (ne_of_none e h)]
  exact e
theorem Kp.new {st p : Addr} {H : Hp} {o : HO} (h : H p = none) : Kp st H (upd H p o) := Kp.of (same_new h)
/-- an object that was not there at first may change -/
theorem Kp.mut {st p : Addr} {H H' : Hp} {o : HO} (a : Kp st H H') (h : H p = none) : Kp st H (upd H' p o) := fun b x n e => by
  rw [upd_ne (ne_of_none e h)]
  exact a b x n e
theorem Kp.put {st : Addr} {H H' : Hp} {o : HO} (a : Kp st H H') : Kp st H (upd H' st o) := fun b x n e => by
  rw [upd_ne n]
  exact a b x n e
theorem Same.mut {p : Addr} {H H' : Hp} {o : HO} (a : Same H H') (h : H p = none) : Same H (upd H' p o) := fun b x e => by
  rw [upd_ne (ne_of_none e h)]
  exact a b x e
theorem Kp.free {st p : Addr} {H H' : Hp} (a : Kp st H H') (hs : ∃ o, H' st = some o) (h : H' p = none) : H p = none := by
  cases q : H p with
  | none => rfl
  | some o =>
    by_cases e : p = st
    · obtain ⟨o', h'⟩ := hs
      rw [e, h'] at h
      cases h
    · rw [a p o e q] at h
      cases h

/-- the state of the draws and the script: two ints at st, the script at sc whatever is drawn -/
structure Dr (K : PySem.W.Frag) (st sc : Addr) (ns : List Int) (H : Hp) : Prop where
  s : ∃ a b : Int, 0 ≤ a ∧ 0 ≤ b ∧ H st = some (.lst [.int a, .int b])
  sc : ∀ H', Kp st H H' → SqL K H' sc (ns.map V.int)
  len : ns.length ≤ 63
theorem Dr.kp {K : PySem.W.Frag} {st sc : Addr} {ns : List Int} {H H' : Hp} (d : Dr K st sc ns H) (k : Kp st H H') (s : ∃ a b : Int, 0 ≤ a ∧ 0 ≤ b ∧ H' st = some (.lst [.int a, .int b])) : Dr K st sc ns H' :=
  ⟨s, fun H2 k2 => d.sc H2 (k.trans k2), d.len⟩
theorem Dr.same {K : PySem.W.Frag} {st sc : Addr} {ns : List Int} {H H' : Hp} (d : Dr K st sc ns H) (k : Same H H') : Dr K st sc ns H' := by
  obtain ⟨a, b, h1, h2, h3⟩ := d.s
  exact d.kp (Kp.of k) ⟨a, b, h1, h2, k _ _ h3⟩
theorem Dr.seq {K : PySem.W.Frag} {st sc : Addr} {ns : List Int} {H : Hp} (d : Dr K st sc ns H) : SqL K H sc (ns.map V.int) := d.sc H (Kp.refl st H)
theorem sq_keep {K : PySem.W.Frag} {H H' : Hp} {a p : Addr} {xs : List V} (h : SqL K H a xs) (hp : H p = none) (k : Kp p H H') : SqL K H' a xs := by
  rcases h with (h | ⟨c9, h⟩) | h
  · exact .inl (.inl (k _ _ (ne_of_none h hp) h))
  · exact .inl (.inr ⟨c9, k _ _ (ne_of_none h hp) h⟩)
  · exact .inr h
theorem Dr.start {K : PySem.W.Frag} {st sc : Addr} {ns : List Int} {H : Hp} (h : SqL K H sc (ns.map V.int)) (hp : H st = none) (hl : ns.length ≤ 63) : Dr K st sc ns (upd H st (.lst [.int 0, .int 0])) :=
  ⟨⟨0, 0, by decide, by decide, upd_same⟩, fun H' k => sq_keep h hp fun b o n e => k b o n (by rw [upd_ne n]; exact e), hl⟩
theorem Dr.ne {K : PySem.W.Frag} {st sc p : Addr} {ns : List Int} {H : Hp} (d : Dr K st sc ns H) (h : H p = none) : p ≠ st := by
  obtain ⟨a, b, _, _, h3⟩ := d.s
  intro e
  rw [e, h3] at h
  cases h
theorem pick_int {l : List Int} {d : Int} (h0 : 0 ≤ d) (h1 : d < l.length) : ∃ n, n ∈ l ∧ atI (l.map V.int) d = some (.int n) := by
  have h : d.toNat < l.length := by omega
  exact ⟨l[d.toNat], List.getElem_mem h, at_of (j := d.toNat) (by omega) (by rw [List.getElem?_map, List.getElem?_eq_getElem h]; rfl)⟩
theorem pick_nat {l : List Nat} {d : Int} (h0 : 0 ≤ d) (h1 : d < l.length) : ∃ n, n ∈ l ∧ atI l d = some n := by
  have h : d.toNat < l.length := by omega
  obtain ⟨j, hj⟩ : ∃ j : Nat, d = (j : Int) := ⟨d.toNat, by omega⟩
  have h2 : j < l.length := by omega
  subst hj
  exact ⟨l[j], List.getElem_mem h2, atI_nat (List.getElem?_eq_getElem h2)⟩
theorem at_last {ns : List Int} (h : 0 < ns.length) : ∃ x, atI (ns.map V.int) (-1) = some (.int x) := by
  have e : ns = ns.dropLast ++ [ns.getLast (by intro q; rw [q] at h; cases h)] := (List.dropLast_concat_getLast _).symm
  rw [e, List.map_append]
  exact ⟨_, atI_last _ _⟩
theorem pick_sign {z : Str} {d : Int} (h0 : 0 ≤ d) (h1 : d < (z.length : Int)) : ∃ c, c ∈ z.cps.toList ∧ atI z.cps.toList d = some c :=
  pick_nat h0 (by simpa [Str.length] using h1)
theorem len_app (a b : Str) : (a ++ b).length = a.length + b.length := PySem.Str.length_append a b
/-- what a call behind which only the draws' state has changed hands on -/
def RDraw (K : PySem.W.Frag) (st sc : Addr) (ns : List Int) (H : Hp) (G : Hp → Prop) : Prop := Dr K st sc ns H ∧ ∀ H', Kp st H H' → Dr K st sc ns H' → G H'
theorem Dr.mut {K : PySem.W.Frag} {st sc p : Addr} {ns : List Int} {H0 H1 : Hp} {o : HO} (d0 : Dr K st sc ns H0) (d : Dr K st sc ns H1) (hp : H0 p = none) (k : Kp st H0 H1) : Dr K st sc ns (upd H1 p o) := by
  obtain ⟨a, b, h1, h2, h3⟩ := d.s
  exact d0.kp (k.mut hp) ⟨a, b, h1, h2, by rw [upd_ne (d0.ne hp).symm]; exact h3⟩
section
variable {K : PySem.W.Frag} {g : TG} {σ : L2.St} {te : TE} {vs : List Nat} {Q : VK} {Da st sc : Addr} {ns : List Int} {H0 : Hp}
/-- [e for k in range(..)], e with draws -/
theorem lc_dr {lo : Int} {n : Nat} (d0 : Dr K st sc ns H0) (hD : H0 Da = none) (hn : n ≤ 1000000) (Pe : V → Prop)
    (hs : ∀ (i : Nat) (H2 : Hp) (C : VK) (E : Hp → Prop), i < n → Kp st H0 H2 → Dr K st sc ns H2 → (∀ y H3, Kp st H2 H3 → Dr K st sc ns H3 → Pe y → C y H3) →
      g (.int (lo + i)) (wipe σ vs) H2 fun σ2 H2 => wipe σ2 vs = wipe σ vs ∧ tYes σ2 H2 fun b H3 => if b = true then te σ2 H3 C else E H3)
    (hd : ∀ (H : Hp) (xs : List V), Kp st H0 H → Dr K st sc ns H → H Da = some (.lst xs) → xs.length = n → (∀ x ∈ xs, Pe x) → Q (.ref Da) H) : LcB (Itr lo n) g tYes te vs σ Da H0 Q := by
  have nD := d0.ne hD
  refine lc_rng (fun i H2 => Kp st H0 H2 ∧ Dr K st sc ns H2 ∧ ∃ xs : List V, H2 Da = some (.lst xs) ∧ xs.length = i ∧ ∀ x ∈ xs, Pe x) ⟨Kp.new hD, d0.same (same_new hD), [], upd_same, rfl, fun _ hy => by cases hy⟩ (fun i H2 hi p => ?_) (fun H2 p => ?_)
  · obtain ⟨k4, d4, xs, e4, l4, o4⟩ := p
    refine hs i H2 _ _ hi k4 d4 fun y H3 k5 d5 hy => ?_
    refine ⟨xs, k5 _ _ nD e4, Nat.lt_of_le_of_lt (Nat.le_of_lt (by omega : xs.length < 1000001)) (by decide), (k4.trans k5).mut hD, Dr.mut d0 d5 hD (k4.trans k5), xs ++ [y], upd_same, by simp [l4], fun z hz => ?_⟩
    rcases List.mem_append.mp hz with h | h
    · exact o4 z h
    · rw [List.mem_singleton.mp h]; exact hy
  · obtain ⟨k4, d4, xs, e4, l4, o4⟩ := p
    exact hd H2 xs k4 d4 e4 l4 o4
/-- [e for k in range(..)], e a function of k -/
theorem lc_map_rng {lo : Int} {n : Nat} (hD : H0 Da = none) (hn : n ≤ 1000000) (f : Nat → V)
    (hs : ∀ (i : Nat) (H2 : Hp) (C : VK) (E : Hp → Prop), i < n → Same H0 H2 → (∀ H3, Same H2 H3 → C (f i) H3) →
      g (.int (lo + i)) (wipe σ vs) H2 fun σ2 H2 => wipe σ2 vs = wipe σ vs ∧ tYes σ2 H2 fun b H3 => if b = true then te σ2 H3 C else E H3)
    (hd : ∀ (H : Hp), Same H0 H → H Da = some (.lst ((List.range n).map f)) → Q (.ref Da) H) : LcB (Itr lo n) g tYes te vs σ Da H0 Q := by
  refine lc_rng (fun i H2 => Same H0 H2 ∧ H2 Da = some (.lst ((List.range i).map f))) ⟨same_new hD, upd_same⟩ (fun i H2 hi p => ?_) (fun H2 p => hd H2 p.1 p.2)
  obtain ⟨k4, e4⟩ := p
  refine hs i H2 _ _ hi k4 fun H3 k5 => ?_
  refine ⟨_, k5 _ _ e4, Nat.lt_of_le_of_lt (by simp; omega : _ ≤ 1000000) (by decide), Same.mut (k4.trans k5) hD, ?_⟩
  rw [upd_same, List.range_succ, List.map_append]
  rfl
/-- [e for x in xs], a list, e a function of x -/
theorem lc_map_lst {a : Addr} {xs : List V} (hS : SqL K H0 a xs) (hD : H0 Da = none) (hn : xs.length ≤ 1000000) (f : V → V)
    (hs : ∀ (x : V) (H2 : Hp) (C : VK) (E : Hp → Prop), x ∈ xs → Same H0 H2 → (∀ H3, Same H2 H3 → C (f x) H3) →
      g x (wipe σ vs) H2 fun σ2 H2 => wipe σ2 vs = wipe σ vs ∧ tYes σ2 H2 fun b H3 => if b = true then te σ2 H3 C else E H3)
    (hd : ∀ (H : Hp), Same H0 H → H Da = some (.lst (xs.map f)) → Q (.ref Da) H) : LcB (Itl K a) g tYes te vs σ Da H0 Q := by
  refine lc_lst (xs := xs) (fun pre H2 => Same H0 H2 ∧ H2 Da = some (.lst (pre.map f)) ∧ pre.length ≤ xs.length) ⟨same_new hD, upd_same, Nat.zero_le _⟩ (fun pre H2 p => p.1.seq hS) (fun pre x post H2 e p => ?_) (fun H2 p => hd H2 p.1 p.2.1)
  obtain ⟨k4, e4, l4⟩ := p
  refine hs x H2 _ _ (by rw [e]; simp) k4 fun H3 k5 => ?_
  refine ⟨_, k5 _ _ e4, Nat.lt_of_le_of_lt (by simp; omega : _ ≤ 1000000) (by decide), Same.mut (k4.trans k5) hD, ?_, by rw [e]; simp⟩
  rw [upd_same, List.map_append]
  rfl
end
/-- a draw: any number below the size -/
def spDraw (K : PySem.W.Frag) : Sp := sp3 fun a b c H Q => ∃ (st sc : Addr) (ns : List Int) (n : Int), a = .ref st ∧ b = .ref sc ∧ c = .int n ∧ Dr K st sc ns H ∧ 0 < n ∧ n < 2 ^ 60 ∧
  ∀ (d : Int) (H' : Hp), 0 ≤ d → d < n → Kp st H H' → Dr K st sc ns H' → Q (.int d) H'

abbrev FnP (K : PySem.W.Frag) (x : Str) (st : Stmt) (f : Addr) (fd : FuncData) : Prop :=
  FunD K x x (defArgs st) (defBody st) (defScope st) [] [] f fd
end Vf

namespace PySem
open Sem (wp)
theorem meets_enumerate_newTup (l : Addr) (row : Array Value) (ob : Obj) (cap : Nat) :
    Meets (Builtin.«enumerate.__new__» ⟨[.type "enumerate", .ref l], []⟩) (fun _ R s => (s.heap.get? l = some ob ∧ ob.cls = .type "tuple" ∧ ob.data = .seq row cap) ∧
      R (.ok (.ret (.ref (s.heap.push { cls := .type "tuple_iterator", data := .fields #[.ref l, .int 0 0] }).objs.size)))
        { s with heap := (s.heap.push { cls := .type "tuple_iterator", data := .fields #[.ref l, .int 0 0] }).push { cls := .type "enumerate", data := .fields #[.none, .bool false, .ref s.heap.objs.size, rawInt 0, .none, .none] } }) :=
  .of_wp fun prg w A R s h => by
    obtain ⟨hp, g, d, tk, os⟩ := s; obtain ⟨⟨hl9, wc, wd⟩, h⟩ := h
    have hsub := sub_enumerate
    have isT : Heap.IsTuple (Shared.heap ⟨hp, g, d, tk, os⟩) l row := ⟨_, hl9, wc, cap, wd⟩
    have q1 : ∀ {A' : Around} {E : Value → Shared → Prop} {Q : Value → Shared → Prop}, Q (.ref hp.objs.size) ⟨hp.push { cls := .type "tuple_iterator", data := .fields #[.ref l, .int 0 0] }, g, d, tk, os⟩ → wpAny (model prg w) A' (pyIter (.ref l)) Q E ⟨hp, g, d, tk, os⟩ :=
      fun q => wpAny_pyIter_tuple isT q
    wp_walk using q1
    refine wpAny_stack_any fun here => wpAny_pure ?_
    split
    · rename_i cls9 _ _ _ _ _
      cases (cls9 == Value.type "enumerate")
      · wp_walk using q1
        exact ⟨_, rfl, h⟩
      · wp_walk using q1
        exact ⟨_, rfl, h⟩
    · wp_walk using q1
      exact ⟨_, rfl, h⟩
section
variable {prg : Program} {w : World} {A : Around} {E : Value → Shared → Prop} {s : Shared}
/-- the object that enumerate makes, and the turning over a tuple -/
abbrev enOf (it : Addr) : Obj := { data := .fields #[.none, .bool false, .ref it, rawInt 0, .none, .none], cls := .type "enumerate" }
abbrev tiOf (l : Addr) : Obj := { data := .fields #[.ref l, .int 0 0], cls := .type "tuple_iterator" }
theorem call_enumerate_tup {l : Addr} {row : Array Value} {Q : Value → Shared → Prop} (isT : s.heap.IsTuple l row)
    (h : ∀ h', IsEnum h' (s.heap.objs.size + 1) s.heap.objs.size 0 .none → h'.IsTupleIter s.heap.objs.size l 0 → h'.objs.size = s.heap.objs.size + 2 →
      (∀ bb ob, s.heap.get? bb = some ob → h'.get? bb = some ob) → Q (.ref (s.heap.objs.size + 1)) { s with heap := h' }) :
    wpAny (model prg w) A
      (call (.type "enumerate") [.ref l]) Q E s := by
  obtain ⟨ob, hl9, wc, cap, wd⟩ := isT
  refine callType_new F.called_enumerate (by decide) (F.typeCall_enumerate_1 _)
    (F.newCall_enumerate_1 _) (fun it => F.args_object_init_2 it _) F.entry_enumerate_new (meets_enumerate_newTup l row ob cap) ⟨⟨hl9, wc, wd⟩, ?_⟩
  have szz : (s.heap.push (tiOf l)).objs.size = s.heap.objs.size + 1 := Heap.size_push ..
  show _ ∧ _
  rw [szz]
  have qe : IsEnum ((s.heap.push (tiOf l)).push
      (enOf s.heap.objs.size)) (s.heap.objs.size + 1) s.heap.objs.size 0 .none := by
    have := Heap.get?_push_size (s.heap.push (tiOf l))
      (o := enOf s.heap.objs.size) rfl
    rw [szz] at this; exact this
  refine ⟨⟨_, qe, rfl⟩, h _ qe ⟨_, Heap.get?_push_of_some _ (Heap.get?_push_size _ rfl), rfl, rfl⟩ (by rw [Heap.size_push, szz]) fun bb ob x => Heap.get?_push_of_some _ (Heap.get?_push_of_some _ x)⟩
theorem enumT_end {e it t : Addr} {i : Nat} {row : Array Value} {prev : Value} {Q : Option Value → Shared → Prop} (hh : A.handled = none)
    (qe : IsEnum s.heap e it i prev) (qi : s.heap.IsTupleIter it t i) (hl9 : s.heap.IsTuple t row) (ne2 : t ≠ it) (atx : row[i]? = none)
    (hQ : ∀ h', Heap.ExtBut it s.heap h' → Q none { s with heap := h' }) : wpAny (model prg w) A (pyNext (.ref e)) Q E s := by
  have ty1 : s.TypeIs (.ref e) "enumerate" := ⟨_, qe, rfl⟩
  unfold pyNext
  refine wpAny_bind (wpAny_attempt (wpAny_callSpecial?_slot (name := Str.ofString "__next__") ty1 F.slot_enumerate_next
    (wpAny_call_entry F.slot_enumerate_next ty1 F.entry_enumerate_next ?_ (F.args_enumerate_next_1 _))))
  show wpAny (model prg w) A.in1
    (field (.ref e) 2 >>= _) _ _ s
  refine wpAny_bind (wpAny_field qe rfl (x := .ref it) rfl ?_)
  refine wpAny_bind (wpAny_nextOf_tuple_end hh qi hl9 atx fun h' x he' hx' => ?_)
  obtain ⟨ob, wo, wc⟩ := hx'
  refine wpAny_bind (wpAny_isInstance (T := "StopIteration") (b := true) ⟨ob, wo, wc⟩ isSubtype_stop ?_)
  exact wpAny_pure (hQ _ he')
end
end PySem
namespace Vf
open PySem L2 PySem.Spec PyProof.Rows
/-- enumerate(t), t a tuple -/
def IteT (K : PySem.W.Frag) (a : Addr) : It :=
  ⟨fun i H => ∃ (xs : List V) (x : V), SqT K H a xs ∧ xs[i]? = some x, fun i H v H' => ∃ T x, v = .ref T ∧ H T = none ∧ H' = upd H T (.tup [.int (i : Nat), x]) ∧ ∀ xs, SqT K H a xs → xs[i]? = some x, fun i H => ∃ xs : List V, SqT K H a xs ∧ xs.length ≤ i⟩
theorem turn_enumT {P : Program} {w : World} {K : PySem.W.Frag} {elts : List Expr} {kk : Nat} {tpos : Pos} (a e it : Addr) :
    Turn P w K (.Tuple elts kk tpos) (IteT K a) [e, it] e (fun i h => (∃ prev, IsEnum h e it ((i : Nat) : Int) prev) ∧ h.IsTupleIter it a i ∧ e ≠ it) where
  mem := by simp
  obj := fun i h here bb mb => by
    obtain ⟨⟨prev, qe⟩, ⟨ob, wo, wc, wd⟩, _⟩ := here
    have e' : bb = e ∨ bb = it := by simpa using mb
    rcases e' with z | z
    · rw [z]; exact ⟨_, qe, fun v q => nomatch q⟩
    · rw [z]; exact ⟨ob, wo, fun v q => by rw [wd] at q; cases q⟩
  keep := fun i h h' here k => let ⟨⟨prev, qe⟩, hi9, qn⟩ := here; ⟨⟨prev, k e (by simp) _ qe⟩, hi9.at fun ob q => k it (by simp) ob q, qn⟩
  item := by
    intro X hP hw hK wc i pins s σ H E I fp here got
    subst hP hw hK
    obtain ⟨⟨prev, qe⟩, qi, qn⟩ := here
    obtain ⟨xs, x, wq, atx⟩ := got
    obtain ⟨cells, rds, p, szz⟩ := I.tuple wq
    obtain ⟨u, mu, rdu⟩ := rds.get atx
    have le1 : e < s.heap.objs.size := Heap.lt_size qe
    have le2 : it < s.heap.objs.size := by obtain ⟨_, q, _⟩ := qi; exact Heap.lt_size q
    have ne1 : a ≠ e := by
      intro z
      obtain ⟨ob, wo, hc2, _⟩ := p
      rw [z, qe] at wo
      cases wo
      injection hc2 with q
      exact absurd q (by decide)
    have ne2 : a ≠ it := by
      intro z
      obtain ⟨ob, wo, hc2, _⟩ := p
      obtain ⟨o2, ho2, hc3, _⟩ := qi
      rw [z, ho2] at wo
      cases wo
      rw [hc3] at hc2
      injection hc2 with q
      exact absurd q (by decide)
    have hlt : i < cells.toArray.size := by
      have := (List.getElem?_eq_some_iff.mp mu).1
      simpa using this
    refine wpAny_pyNext_enum_itemD (Draws.tuple (A := X.A.in1) (show X.A.in1.handled = none from I.ok.hd wc) it a ne2 cells.toArray) qe ⟨qi, p⟩ hlt qn (by simp [qn, Ne.symm ne1]) fun x' h' tk hP wo hst' ty1 hsz keep1 => ?_
    have ex : x' = u := by
      have q1 : cells[i]? = some x' := by simpa using hP
      exact Option.some.inj (q1.symm.trans mu)
    subst ex
    refine ⟨_, rfl, wpAny_letOwnedTupleGo_enum (s := { s with heap := h', toks := tk + 1 }) wo fun h'' he' only1 => ?_⟩
    have ty2 : h''.get? s.heap.objs.size = some { cls := .type "tuple", data := .seq #[.int i tk, x'] } := (only1.2 _ (Nat.ne_of_gt le1)).trans ty1
    have fresh1 : ObjOk X.prog X.w (upd H s.heap.objs.size (.tup [.int (i : Nat), x])) h'' s.heap.objs.size (.tup [.int (i : Nat), x]) :=
      ⟨by show 2 ≤ sizeLine; decide, [.int i tk, x'], .cons ⟨_, rfl⟩ (.cons rdu .nil), ⟨_, ty2, rfl, _, rfl⟩⟩
    have J1 : Inv X pins σ (upd H s.heap.objs.size (.tup [.int (i : Nat), x])) { s with heap := h'', toks := tk + 1 } :=
      I.turnedNew (ch := [e, it]) (fun bb ob mb q => (only1.2 bb (fun z => mb (by simp [z]))).trans (keep1 bb ob (fun z => mb (by simp [z])) (fun z => mb (by simp [z])) q)) fp (Nat.le_refl _) fresh1
    refine ⟨.ref s.heap.objs.size, _, J1, rfl, ⟨_, x, rfl, I.hok.fresh (Nat.le_refl _), rfl, fun ys hy => by rw [I.tuple_inj hy wq]; exact atx⟩, ⟨⟨x', ?_⟩, hst'.1.at fun ob q => (only1.2 it (Ne.symm qn)).trans q, qn⟩, fun bb mb => ?_⟩
    · have up1 : ((i + 1 : Nat) : Int) = (i : Int) + 1 := by
        omega
      rw [up1]; exact he'
    · have below : bb < s.heap.objs.size := by
        have two : bb = e ∨ bb = it := by simpa using mb
        rcases two with rfl | rfl
        · exact le1
        · exact le2
      rw [upd_ne (Nat.ne_of_lt below)]
      exact (fp bb mb).1
  done := by
    intro X hP hw hK wc i pins s σ H E I fp here got
    subst hP hw hK
    obtain ⟨⟨prev, qe⟩, qi, qn⟩ := here
    obtain ⟨xs, wq, atx⟩ := got
    obtain ⟨cells, rds, p, szz⟩ := I.tuple wq
    obtain ⟨f0, f1, f2, f3, f4, f5⟩ := fp it (by simp)
    have hl := rds.length
    have ne2 : a ≠ it := by
      intro z
      obtain ⟨ob, wo, hc2, _⟩ := p
      obtain ⟨o2, ho2, hc3, _⟩ := qi
      rw [z, ho2] at wo
      cases wo
      rw [hc3] at hc2
      injection hc2 with q
      exact absurd q (by decide)
    refine enumT_end (I.ok.hd wc) qe qi p ne2 (by simp; omega) fun h' eb => ⟨rfl, I.turned (t' := s.toks) (fun bb ob mb q => eb bb ob mb q) f0 f1 f3 f4 f5⟩
  self := fun A i s Q E here h => let ⟨⟨_, qe⟩, _⟩ := here; wpAny_pyIter_enum qe h
def iEnumT (K : PySem.W.Frag) (ta : TA) : TI := fun σ H R => ta σ H fun vs H1 => ∃ a xs, vs = [.ref a] ∧ SqT K H1 a xs ∧ R (IteT K a) H1
theorem pi_enumT {X : Cx} {e : Expr} {ta : TA} {p pos tpos : Pos} {elts : List Expr} {kk : Nat} (got : Gl X "enumerate") (hm : X.mg "enumerate" = none) (ha : PA X [e] ta) (hs : starEach [e] X.env = [(false, eval e X.env)] := by rfl) :
    PI X (.Tuple elts kk tpos) (.Call (.Name "enumerate" p) [e] [] pos) (iEnumT X.K ta) := by
  constructor
  intro pins s σ H R I h
  refine Call_ (ld_blt I got hm boot_enumerate (PyProof.Rows.callWith_type1 (thn (ha.run pos pins s σ H _ I h) fun us s1 ⟨vs, H1, J1, r1, q1⟩ => ?_) hs rfl))
  obtain ⟨a, xs, ex, wq, q⟩ := q1
  subst ex
  cases r1 with
  | cons r rr =>
    cases rr
    cases r
    obtain ⟨cells, rds, p', szz⟩ := J1.tuple wq
    refine call_enumerate_tup p' fun h' qe qi hsz keep1 => wpAny_pyIter_enum qe ?_
    have J2 : Inv X pins σ H1 { s1 with heap := h' } := J1.kept (t' := s1.toks) keep1
    refine ⟨s1.heap.objs.size + 1, [s1.heap.objs.size + 1, s1.heap.objs.size], _, _, H1, rfl, J2, turn_enumT a (s1.heap.objs.size + 1) s1.heap.objs.size, ⟨⟨.none, qe⟩, qi, Nat.succ_ne_self _⟩, fun bb mb => ?_, q⟩
    have e' : bb = s1.heap.objs.size + 1 ∨ bb = s1.heap.objs.size := by simpa using mb
    have above : bb ≥ s1.heap.objs.size := by
      rcases e' with w9 | w9 <;> rw [w9]
      · exact Nat.le_succ _
      · exact Nat.le.refl
    exact J1.fpOk above (J1.hok.fresh above)
/-- enumerate of a list or of a tuple -/
theorem pi_or {X : Cx} {tg l : Expr} {w1 w2 : TI} (h1 : PI X tg l w1) (h2 : PI X tg l w2) : PI X tg l (fun σ H R => w1 σ H R ∨ w2 σ H R) := ⟨fun pins s σ H R I h => by
  rcases h with h | h
  · exact h1.run pins s σ H R I h
  · exact h2.run pins s σ H R I h⟩
end Vf

namespace Vf
open PySem L2 PySem.Spec PyProof.Rows
/-! ### rules with the written part named (inside a comprehension nothing may lean on its block) -/
section
variable {X : Cx} (K : PySem.W.Frag) {pos : Pos}
theorem ixL (hK : X.K = K := by rfl) : IxR X (rIxL K) := hK ▸ ix_list
theorem ixT (hK : X.K = K := by rfl) : IxR X (rIxT K) := hK ▸ ix_tup
theorem slL (hK : X.K = K := by rfl) : SlR X (rSlL K) := hK ▸ sl_list
theorem slT (hK : X.K = K := by rfl) : SlR X (rSlA K) := hK ▸ sl_tupA
theorem eqDK (hu : X.A.units + 64 < cLine) (hK : X.K = K := by rfl) : OpR X (compareOp .Eq) (rEqD K) := hK ▸ op_eqD hu
theorem neDK (hu : X.A.units + 64 < cLine) (hK : X.K = K := by rfl) : OpR X (compareOp .NotEq) (rNeD K) := hK ▸ op_neD hu
theorem inSK (hK : X.K = K := by rfl) : OpR X (compareOp .In) (rIn K false) := hK ▸ op_in_seq
theorem niSK (hK : X.K = K := by rfl) : OpR X (compareOp .NotIn) (rIn K true) := hK ▸ op_notIn_seq
theorem lenSK (hK : X.K = K := by rfl) : CallR X (.builtin "len") (fun xs H Q => ∃ p ys, xs = [.ref p] ∧ (SqL K H p ys ∨ SqT K H p ys) ∧ Q (.int (ys.length : Nat)) H) := hK ▸ call_len_seq
theorem lstOK (hK : X.K = K := by rfl) : CallR X (.type "list") (fun xs H Q => ∃ p ys, xs = [.ref p] ∧ (SqL K H p ys ∨ SqT K H p ys) ∧ ∀ l, H l = none → Q (.ref l) (upd H l (.lst ys))) := hK ▸ call_list_of
theorem isiK (hK : X.K = K := by rfl) : CallR X (.builtin "isinstance") (rIsi K) := hK ▸ call_isi
theorem pe_fldK {e : Expr} {f : Str} {ta : TE} (ha : PE X e ta) (hb : attributeBase e f X.env (eval e X.env) = eval e X.env := by rfl) (hK : X.K = K := by rfl) : PE X (.Attribute e f pos) (tFld K ta f) := hK ▸ pe_fld ha hb
theorem pg_tupK {es : List Expr} {k : Nat} {t : TGs} {n : Nat} (hc : X.calm = true) (h : PGs X es t)
    (hn : (assignEach es X.env).length = n := by rfl) (hst : (assignEach es X.env).findIdx? (·.1) = none := by rfl) (hK : X.K = K := by rfl) : PG X (.Tuple es k pos) (gTup K n t) := hK ▸ pg_tup hc h hn hst
end
/-! ### readings of these -/
section
variable {σ : L2.St} {H : Hp} {K : PySem.W.Frag} {ta tb : TE} {as : TA}
theorem e_iRevR {tr : L2.St → Hp → (Int → Int → Hp → Prop) → Prop} {R : It → Hp → Prop} (q : tr σ H fun a b H1 => -(2 ^ 62) ≤ a ∧ a < 2 ^ 62 ∧ -(2 ^ 62) ≤ b ∧ b < 2 ^ 62 ∧ R (Itc (a + (((b - a).toNat : Nat) : Int) - 1) (-1) (b - a).toNat) H1) : iRevR tr σ H R := q
theorem e_rg1 {Q : Int → Int → Hp → Prop} (q : ta σ H fun x H1 => ∃ n, x = .int n ∧ Q 0 n H1) : tRg1 ta σ H Q := q
theorem e_rg2 {Q : Int → Int → Hp → Prop} (q : ta σ H fun x H1 => tb σ H1 fun y H2 => ∃ i j, x = .int i ∧ y = .int j ∧ Q i j H2) : tRg2 ta tb σ H Q := q
theorem e_iEnum {R : It → Hp → Prop} (q : as σ H fun vs H1 => ∃ a xs, vs = [.ref a] ∧ SqL K H1 a xs ∧ R (Ite K a) H1) : iEnum K as σ H R := q
theorem e_iEnumT {R : It → Hp → Prop} (q : as σ H fun vs H1 => ∃ a xs, vs = [.ref a] ∧ SqT K H1 a xs ∧ R (IteT K a) H1) : iEnumT K as σ H R := q
theorem e_iRng3 {R : It → Hp → Prop} (q : as σ H fun vs H1 => ∃ (i j c : Int) (n : Nat), vs = [.int i, .int j, .int c] ∧ RgC i j c n ∧ R (Itc i c n) H1) : iRng3 as σ H R := q
theorem e_slL {Q : VK} {p : Addr} {xs : List V} {lo hi : Option Int} (h : SqL K H p xs) (q : ∀ r, H r = none → Q (.ref r) (upd H r (.lst (cutV xs lo hi)))) : rSlL K (.ref p) lo hi H Q := ⟨p, xs, rfl, h, q⟩
theorem e_app {Q : VK} {l : Addr} {xs : List V} {y : V} (h : H l = some (.lst xs)) (hz : xs.length < sizeLine) (q : Q .non (upd H l (.lst (xs ++ [y])))) : rAppend (.ref l) [y] H Q := ⟨l, xs, y, rfl, rfl, h, hz, q⟩
theorem e_ext {Q : VK} {l b : Addr} {xs zs : List V} (h : H l = some (.lst xs)) (hb : H b = some (.lst zs)) (hz : xs.length + zs.length ≤ sizeLine) (q : Q .non (upd H l (.lst (xs ++ zs)))) : rExtend (.ref l) [.ref b] H Q := ⟨l, b, xs, zs, rfl, rfl, h, hb, hz, q⟩
end
/-! ### rows of ints as data -/
abbrev Di (l : List Int) : List PyData := l.map PyData.int
theorem dpAll_ints {K : PySem.W.Frag} {H : Hp} : ∀ xs : List Int, DpAll K H (xs.map V.int) (Di xs)
  | [] => .nil
  | x :: r => .cons (.int x) (dpAll_ints r)
theorem eqvAll_ints : ∀ xs ys : List Int, PyData.eqvAll (Di xs) (Di ys) = decide (xs = ys)
  | [], [] => by
      simp [PyData.eqvAll]
  | [], _ :: _ => by
      simp [PyData.eqvAll]
  | _ :: _, [] => by
      simp [PyData.eqvAll]
  | x :: xs, y :: ys => by
    have ih := eqvAll_ints xs ys
    show (PyData.eqv (.int x) (.int y) && PyData.eqvAll (Di xs) (Di ys)) = _
    rw [ih]
    show ((x == y) && decide (xs = ys)) = decide (x :: xs = y :: ys)
    by_cases h : x = y
    · subst h; simp
    · simp [h]
theorem canAll_ints : ∀ xs : List Int, PyData.canLayAll0 (Di xs) = true
  | [] => rfl
  | x :: r => by
    show (PyData.canLay0 (.int x) && PyData.canLayAll0 (Di r)) = true
    rw [canAll_ints r]; rfl
theorem depthAll_ints : ∀ xs : List Int, PyData.depthAll (Di xs) = 0
  | [] => rfl
  | x :: r => by
    show max 0 (PyData.depthAll (Di r)) = 0
    rw [depthAll_ints r]; rfl
theorem shaped_list {ds : List PyData} (h1 : PyData.canLayAll0 ds = true) (h2 : PyData.depthAll ds ≤ 60) : SeqAt.shaped (.list ds) = true := by
  unfold SeqAt.shaped
  rw [show PyData.canLay0 (.list ds) = PyData.canLayAll0 ds from rfl, h1, show PyData.depth (.list ds) = PyData.depthAll ds + 1 from rfl]
  simp
  omega
theorem shaped_tuple {ds : List PyData} (h1 : PyData.canLayAll0 ds = true) (h2 : PyData.depthAll ds ≤ 60) : SeqAt.shaped (.tuple ds) = true := by
  unfold SeqAt.shaped
  rw [show PyData.canLay0 (.tuple ds) = PyData.canLayAll0 ds from rfl, h1, show PyData.depth (.tuple ds) = PyData.depthAll ds + 1 from rfl]
  simp
  omega
theorem shaped_li (xs : List Int) : SeqAt.shaped (.list (Di xs)) = true := shaped_list (canAll_ints xs) (by rw [depthAll_ints]; decide)
theorem shaped_ti (xs : List Int) : SeqAt.shaped (.tuple (Di xs)) = true := shaped_tuple (canAll_ints xs) (by rw [depthAll_ints]; decide)
section
variable {K : PySem.W.Frag} {H : Hp} {Q : VK} {a b : Addr} {xs ys : List Int}
theorem e_eqLL (h1 : SqL K H a (xs.map V.int)) (h2 : SqL K H b (ys.map V.int)) (q : Q (.bl (decide (xs = ys))) H) : rEqD K (.ref a) (.ref b) H Q :=
  ⟨_, _, .lst h1 (dpAll_ints xs), .lst h2 (dpAll_ints ys), shaped_li xs, shaped_li ys, by rw [show PyData.eqv (.list (Di xs)) (.list (Di ys)) = PyData.eqvAll (Di xs) (Di ys) from rfl, eqvAll_ints]; exact q⟩
theorem e_neLL (h1 : SqL K H a (xs.map V.int)) (h2 : SqL K H b (ys.map V.int)) (q : Q (.bl (!decide (xs = ys))) H) : rNeD K (.ref a) (.ref b) H Q :=
  ⟨_, _, .lst h1 (dpAll_ints xs), .lst h2 (dpAll_ints ys), shaped_li xs, shaped_li ys, by rw [show PyData.eqv (.list (Di xs)) (.list (Di ys)) = PyData.eqvAll (Di xs) (Di ys) from rfl, eqvAll_ints]; exact q⟩
theorem e_eqTT (h1 : SqT K H a (xs.map V.int)) (h2 : SqT K H b (ys.map V.int)) (q : Q (.bl (decide (xs = ys))) H) : rEqD K (.ref a) (.ref b) H Q :=
  ⟨_, _, .tup h1 (dpAll_ints xs), .tup h2 (dpAll_ints ys), shaped_ti xs, shaped_ti ys, by rw [show PyData.eqv (.tuple (Di xs)) (.tuple (Di ys)) = PyData.eqvAll (Di xs) (Di ys) from rfl, eqvAll_ints]; exact q⟩
theorem e_neTT (h1 : SqT K H a (xs.map V.int)) (h2 : SqT K H b (ys.map V.int)) (q : Q (.bl (!decide (xs = ys))) H) : rNeD K (.ref a) (.ref b) H Q :=
  ⟨_, _, .tup h1 (dpAll_ints xs), .tup h2 (dpAll_ints ys), shaped_ti xs, shaped_ti ys, by rw [show PyData.eqv (.tuple (Di xs)) (.tuple (Di ys)) = PyData.eqvAll (Di xs) (Di ys) from rfl, eqvAll_ints]; exact q⟩
end
/-! ### the order of alike data -/
def rLtD (K : PySem.W.Frag) : R2 := fun x y H Q => ∃ d e, Dp K H x d ∧ Dp K H y e ∧ PySem.W.alike d e = true ∧ d ≠ .none ∧ d.depth ≤ 60 ∧ Q (.bl (PySem.W.dataLt d e)) H
def rGtD (K : PySem.W.Frag) : R2 := fun x y H Q => ∃ d e, Dp K H x d ∧ Dp K H y e ∧ PySem.W.alike d e = true ∧ d ≠ .none ∧ d.depth ≤ 60 ∧ Q (.bl (PySem.W.dataLt e d)) H
theorem op_ltD {X : Cx} (hu : X.A.units + 64 < cLine) : OpR X (compareOp .Lt) (rLtD X.K) := by
  intro pins s σ H x y v u C I rx ry hq
  obtain ⟨d, e, hd, he, sd, se, hp, q⟩ := hq
  obtain ⟨toks1, r1⟩ := Dp.reads I d x v hd rx
  obtain ⟨toks2, r2⟩ := Dp.reads I e y u he ry
  exact PySem.W.lt_data r1 r2 sd se (by have := Nat.min_le_left d.depth e.depth; omega) ⟨.bl _, H, I, rfl, q⟩
theorem op_gtD {X : Cx} (hu : X.A.units + 64 < cLine) : OpR X (compareOp .Gt) (rGtD X.K) := by
  intro pins s σ H x y v u C I rx ry hq
  obtain ⟨d, e, hd, he, sd, se, hp, q⟩ := hq
  obtain ⟨toks1, r1⟩ := Dp.reads I d x v hd rx
  obtain ⟨toks2, r2⟩ := Dp.reads I e y u he ry
  exact PySem.W.gt_data r1 r2 sd se (by have := Nat.min_le_left d.depth e.depth; omega) ⟨.bl _, H, I, rfl, q⟩
theorem alikeAll_ints : ∀ xs ys : List Int, PySem.W.alikeAll (Di xs) (Di ys) = true
  | [], _ => by simp [PySem.W.alikeAll]
  | _ :: _, [] => by simp [PySem.W.alikeAll]
  | x :: xs, y :: ys => by
    show (PySem.W.alike (.int x) (.int y) && PySem.W.alikeAll (Di xs) (Di ys)) = true
    rw [alikeAll_ints xs ys]; rfl
theorem lt_ints : ∀ xs ys : List Int, PyProof.Rows.lexLt PyProof.Rows.itemOrd (PySem.W.keyToksAll (Di xs)) (PySem.W.keyToksAll (Di ys)) = HT.lexLt xs ys
  | [], [] => by decide
  | [], y :: ys => by
    show PyProof.Rows.lexLt PyProof.Rows.itemOrd [.inl 0] (.inl 1 :: _) = true
    rw [PySem.W.lex_atom (by decide)]
    decide
  | x :: xs, [] => by
    show PyProof.Rows.lexLt PyProof.Rows.itemOrd (.inl 1 :: _) [.inl 0] = false
    rw [PySem.W.lex_atom (by decide)]
    decide
  | x :: xs, y :: ys => by
    have ih := lt_ints xs ys
    show _ = if x = y then HT.lexLt xs ys else decide (x < y)
    by_cases h : x = y
    · subst h
      rw [if_pos rfl, ← ih]
      exact PySem.W.dataLt_all_yes (x := .int x) (y := .int x) rfl (by simp [PyData.eqv])
    · rw [if_neg h, ← PySem.W.dataLt_int x y]
      exact PySem.W.dataLt_all_no (x := .int x) (y := .int y) rfl (by simpa [PyData.eqv] using h)
theorem e_ltLL {K : PySem.W.Frag} {H : Hp} {Q : VK} {a b : Addr} {xs ys : List Int} (h1 : SqL K H a (xs.map V.int)) (h2 : SqL K H b (ys.map V.int)) (q : Q (.bl (HT.lexLt xs ys)) H) : rLtD K (.ref a) (.ref b) H Q :=
  ⟨_, _, .lst h1 (dpAll_ints xs), .lst h2 (dpAll_ints ys), alikeAll_ints xs ys, by simp, by show PyData.depthAll (Di xs) + 1 ≤ 60; rw [depthAll_ints]; decide, by
    rw [PySem.W.dataLt_list, lt_ints]; exact q⟩
/-! ### loops over rows of ints -/
theorem at_split {ns : List Int} {i : Nat} {x : V} (hx : (ns.map V.int)[i]? = some x) : ∃ y, x = .int y ∧ ns = ns.take i ++ y :: ns.drop (i + 1) ∧ ns.take (i + 1) = ns.take i ++ [y] := by
  rw [List.getElem?_map] at hx
  cases e : ns[i]? with
  | none => rw [e] at hx; cases hx
  | some y =>
    rw [e] at hx
    have e2 := (List.getElem?_eq_some_iff.mp e).2
    refine ⟨y, (Option.some.inj hx).symm, ?_, by rw [List.take_add_one, e]; rfl⟩
    rw [← e2, List.getElem_cons_drop, List.take_append_drop]
section
variable {K : PySem.W.Frag} {g : TG} {t : TS} {D : Ends} {σ : L2.St} {H : Hp} {tt : TT} {te : TE} {vs : List Nat} {Q : VK} {Da a : Addr} {ns : List Int}
theorem for_ints (Pv : List Int → L2.St → Hp → Prop) (h0 : Pv [] σ H) (hl : ∀ pre σ H, Pv pre σ H → SqL K H a (ns.map V.int))
    (hs : ∀ (pre : List Int) (x : Int) (post : List Int) σ H, ns = pre ++ x :: post → Pv pre σ H → g (.int x) σ H fun σ2 H2 => t { D with nx := Pv (pre ++ [x]), ct := Pv (pre ++ [x]), bk := D.nx } σ2 H2)
    (hd : ∀ σ H, Pv ns σ H → D.nx σ H) : ForB (Itl K a) g t D σ H := by
  refine for_list (xs := ns.map V.int) (fun i => Pv (ns.take i)) (by simpa using h0) (fun i σ H _ p => hl _ σ H p) (fun i x σ H hx p => ?_) (fun σ H p => ?_)
  · obtain ⟨y, rfl, e1, e2⟩ := at_split hx
    rw [e2]
    exact hs _ y _ σ H e1 p
  · rw [List.length_map, List.take_length] at p
    exact hd σ H p
theorem for_intsT (Pv : List Int → L2.St → Hp → Prop) (h0 : Pv [] σ H) (hl : ∀ pre σ H, Pv pre σ H → SqT K H a (ns.map V.int))
    (hs : ∀ (pre : List Int) (x : Int) (post : List Int) σ H, ns = pre ++ x :: post → Pv pre σ H → g (.int x) σ H fun σ2 H2 => t { D with nx := Pv (pre ++ [x]), ct := Pv (pre ++ [x]), bk := D.nx } σ2 H2)
    (hd : ∀ σ H, Pv ns σ H → D.nx σ H) : ForB (Itt K a) g t D σ H := by
  refine for_tup (xs := ns.map V.int) (fun i => Pv (ns.take i)) (by simpa using h0) (fun i σ H _ p => hl _ σ H p) (fun i x σ H hx p => ?_) (fun σ H p => ?_)
  · obtain ⟨y, rfl, e1, e2⟩ := at_split hx
    rw [e2]
    exact hs _ y _ σ H e1 p
  · rw [List.length_map, List.take_length] at p
    exact hd σ H p
theorem walk_enumT {xs : List V} : Walk (IteT K a) xs.length (fun H => SqT K H a xs) (YPair (fun i => some (.int (i : Nat))) (fun i => xs[i]?)) := by
  refine ⟨fun i _ hi q => ⟨xs, xs[i], q, by simp [hi]⟩,
    fun _ q => ⟨xs, q, Nat.le_refl _⟩, fun i H v H' _ q y => ?_⟩
  obtain ⟨T, x, g1, g2, g3, g4⟩ := y
  exact ⟨T, .int (i : Nat), x, g1, g2, g3, rfl, g4 xs q⟩
theorem for_enumI (Pv : List Int → L2.St → Hp → Prop) (h0 : Pv [] σ H) (hl : ∀ pre σ H, Pv pre σ H → SqL K H a (ns.map V.int))
    (hs : ∀ (pre : List Int) (x : Int) (post : List Int) (T : Addr) σ H, ns = pre ++ x :: post → Pv pre σ H → H T = none → g (.ref T) σ (upd H T (.tup [.int (pre.length : Nat), .int x])) fun σ2 H2 => t { D with nx := Pv (pre ++ [x]), ct := Pv (pre ++ [x]), bk := D.nx } σ2 H2)
    (hd : ∀ σ H, Pv ns σ H → D.nx σ H) : ForB (Ite K a) g t D σ H := by
  refine for_it (walk_enum (xs := ns.map V.int)) (fun i => Pv (ns.take i)) (by simpa using h0) (fun i σ H _ p => hl _ σ H p) (fun i x σ H H' hi p y => ?_) (fun σ H p => ?_)
  · obtain ⟨T, u, v, rfl, hT, rfl, hu, hv⟩ := y
    obtain ⟨z, rfl, e1, e2⟩ := at_split hv
    cases (Option.some.inj hu)
    rw [e2]
    have hl : (ns.take i).length = i := by rw [List.length_map] at hi; rw [List.length_take]; omega
    have q := hs (ns.take i) z _ T σ H e1 p hT
    rw [hl] at q
    exact q
  · rw [List.length_map, List.take_length] at p
    exact hd σ H p
theorem for_enumIT (Pv : List Int → L2.St → Hp → Prop) (h0 : Pv [] σ H) (hl : ∀ pre σ H, Pv pre σ H → SqT K H a (ns.map V.int))
    (hs : ∀ (pre : List Int) (x : Int) (post : List Int) (T : Addr) σ H, ns = pre ++ x :: post → Pv pre σ H → H T = none → g (.ref T) σ (upd H T (.tup [.int (pre.length : Nat), .int x])) fun σ2 H2 => t { D with nx := Pv (pre ++ [x]), ct := Pv (pre ++ [x]), bk := D.nx } σ2 H2)
    (hd : ∀ σ H, Pv ns σ H → D.nx σ H) : ForB (IteT K a) g t D σ H := by
  refine for_it (walk_enumT (xs := ns.map V.int)) (fun i => Pv (ns.take i)) (by simpa using h0) (fun i σ H _ p => hl _ σ H p) (fun i x σ H H' hi p y => ?_) (fun σ H p => ?_)
  · obtain ⟨T, u, v, rfl, hT, rfl, hu, hv⟩ := y
    obtain ⟨z, rfl, e1, e2⟩ := at_split hv
    cases (Option.some.inj hu)
    rw [e2]
    have hl : (ns.take i).length = i := by rw [List.length_map] at hi; rw [List.length_take]; omega
    have q := hs (ns.take i) z _ T σ H e1 p hT
    rw [hl] at q
    exact q
  · rw [List.length_map, List.take_length] at p
    exact hd σ H p
/-- [e for k in range(a, b, c)], e a function of the turn -/
theorem lc_map_rngC {lo c : Int} {n : Nat} {H0 : Hp} (hD : H0 Da = none) (hn : n ≤ 1000000) (f : Nat → V)
    (hs : ∀ (i : Nat) (H2 : Hp) (C : VK) (E : Hp → Prop), i < n → Same H0 H2 → (∀ H3, Same H2 H3 → C (f i) H3) →
      g (.int (lo + (i : Nat) * c)) (wipe σ vs) H2 fun σ2 H2 => wipe σ2 vs = wipe σ vs ∧ tYes σ2 H2 fun b H3 => if b = true then te σ2 H3 C else E H3)
    (hd : ∀ (H : Hp), Same H0 H → H Da = some (.lst ((List.range n).map f)) → Q (.ref Da) H) : LcB (Itc lo c n) g tYes te vs σ Da H0 Q := by
  refine lc_it walk_rangeC (fun i H2 => Same H0 H2 ∧ H2 Da = some (.lst ((List.range i).map f))) ⟨same_new hD, upd_same⟩ (fun _ _ _ _ => trivial) (fun i x H2 H' hi p y => ?_) (fun H2 p => hd H2 p.1 p.2)
  obtain ⟨rfl, rfl⟩ := y
  obtain ⟨k4, e4⟩ := p
  refine hs i _ _ _ hi k4 fun H3 k5 => ?_
  refine ⟨_, k5 _ _ e4, Nat.lt_of_le_of_lt (by simp; omega : _ ≤ 1000000) (by decide), Same.mut (k4.trans k5) hD, ?_⟩
  rw [upd_same, List.range_succ, List.map_append]
  rfl
end
theorem i_bneself {b : Bool} {A B : Prop} (h : B) : if (b != b) = true then A else B := by
  have e : (b != b) = false := by cases b <;> rfl
  rw [e]; exact i_F h
theorem i_beself {b : Bool} {A B : Prop} (h : A) : if (b == b) = true then A else B := by
  rw [beq_self_eq_true]; exact i_T h
/-! ### a list or a tuple -/
/-- a row of values, a list's or a tuple's -/
abbrev SqE (K : PySem.W.Frag) (H : Hp) (p : Addr) (xs : List V) : Prop := SqL K H p xs ∨ SqT K H p xs
theorem Same.seqE {K : PySem.W.Frag} {H H' : Hp} {a : Addr} {xs : List V} (e : Same H H') (h : SqE K H a xs) : SqE K H' a xs := by
  rcases h with h | h
  · exact .inl (e.seq h)
  · refine .inr ?_
    rcases h with (h | ⟨c9, h⟩) | h
    · exact .inl (.inl (e _ _ h))
    · exact .inl (.inr ⟨c9, e _ _ h⟩)
    · exact .inr h
theorem e_ixE {K : PySem.W.Frag} {H : Hp} {Q : VK} {p : Addr} {xs : List V} {i : Int} {v : V} (h : SqE K H p xs) (ha : atI xs i = some v) (q : Q v H) : rIxL K (.ref p) (.int i) H Q ∨ rIxT K (.ref p) (.int i) H Q := by
  rcases h with h | h
  · exact .inl (e_ixL h ha q)
  · exact .inr (e_ixT h ha q)
/-- a list of the turn's values, over a list -/
theorem lc_map_lstI {K : PySem.W.Frag} {g : TG} {te : TE} {vs : List Nat} {σ : L2.St} {Da a : Addr} {H0 : Hp} {Q : VK} {xs : List V} (hS : SqL K H0 a xs) (hD : H0 Da = none) (hn : xs.length ≤ 1000000) (f : Nat → V)
    (hs : ∀ (i : Nat) (x : V) (H2 : Hp) (C : VK) (E : Hp → Prop), xs[i]? = some x → Same H0 H2 → (∀ H3, Same H2 H3 → C (f i) H3) →
      g x (wipe σ vs) H2 fun σ2 H2 => wipe σ2 vs = wipe σ vs ∧ tYes σ2 H2 fun b H3 => if b = true then te σ2 H3 C else E H3)
    (hd : ∀ (H : Hp), Same H0 H → H Da = some (.lst ((List.range xs.length).map f)) → Q (.ref Da) H) : LcB (Itl K a) g tYes te vs σ Da H0 Q := by
  refine lc_list (xs := xs) (fun i H2 => Same H0 H2 ∧ H2 Da = some (.lst ((List.range i).map f))) ⟨same_new hD, upd_same⟩ (fun i H2 _ p => p.1.seq hS) (fun i x H2 hx p => ?_) (fun H2 p => hd H2 p.1 p.2)
  obtain ⟨k4, e4⟩ := p
  have hi := (List.getElem?_eq_some_iff.mp hx).1
  refine hs i x H2 _ _ hx k4 fun H3 k5 => ?_
  refine ⟨_, k5 _ _ e4, Nat.lt_of_le_of_lt (by rw [List.length_map, List.length_range]; omega : _ ≤ 1000000) (by decide), Same.mut (k4.trans k5) hD, ?_⟩
  rw [upd_same, List.range_succ, List.map_append]
  rfl
end Vf

namespace Vf
open PySem L2 PySem.Spec PyProof.Rows
/-- a plain tuple of pairs: made by tuple(list), or by an update -/
def PlT (H : Hp) (a : Addr) (xs : List V) : Prop := ∃ o : Obj, o.dict = none ∧ H a = some (.frz o (.tup xs))
theorem PlT.seq {K : PySem.W.Frag} {H : Hp} {a : Addr} {xs : List V} (h : PlT H a xs) : SqT K H a xs := by
  obtain ⟨o, _, e⟩ := h
  exact .inl (.inr ⟨o, e⟩)
theorem PlT.same {H H' : Hp} {a : Addr} {xs : List V} (h : PlT H a xs) (e : Same H H') : PlT H' a xs := by
  obtain ⟨o, d, q⟩ := h
  exact ⟨o, d, e _ _ q⟩
theorem uvs_of {X : Cx} {pins : List (Addr × Obj)} {σ : L2.St} {H : Hp} {s : Shared} (I : Inv X pins σ H s) : ∀ {ps : List Addr} {kvs : List (Key × V)}, Paired (fun p kv => SqT X.K H p [kV kv.1, kv.2]) ps kvs →
    ∃ (prs : List (Key × Value)) (uvs : List (Value × Value)), KV kvs prs ∧ prs.length = ps.length ∧ uvs.length = ps.length ∧
      ∀ (j : Nat) (u y : Value), uvs[j]? = some (u, y) → ∃ (b : Addr) (k : Key), ps[j]? = some b ∧ PairAt s.heap b u y ∧ prs[j]? = some (k, y) ∧ keyIs k u = true
  | _, _, .nil => ⟨[], [], .nil, rfl, rfl, fun j u y e => by simp at e⟩
  | _, _, .cons (a := p) (b := kv) h t => by
    obtain ⟨prs, uvs, r, l1, l2, q⟩ := uvs_of I t
    obtain ⟨its, rv, ht, _⟩ := I.tuple h
    obtain ⟨u, y, rfl, ru, ry⟩ := vals2 rv
    refine ⟨(kv.1, y) :: prs, (u, y) :: uvs, .cons ⟨rfl, ry⟩ r, by simp [l1], by simp [l2], fun j u' y' e => ?_⟩
    cases j with
    | zero =>
      cases (Option.some.inj e)
      exact ⟨p, kv.1, rfl, .inl ht, rfl, kV_is (P := X.prog) (w := X.w) ru⟩
    | succ j =>
      obtain ⟨b, k, e1, e2, e3, e4⟩ := q j u' y' (by simpa using e)
      exact ⟨b, k, by simpa using e1, e2, by simpa using e3, e4⟩
theorem refs_of : ∀ {ps : List Addr} {us : List Value}, Vals (ps.map V.ref) us → us = ps.map Value.ref
  | [], _, .nil => rfl
  | p :: ps, _, .cons h t => by
    cases h
    rw [refs_of t]
    rfl
/-- dict(t), t a plain tuple of pairs -/
theorem call_dictPT {X : Cx} (hcalm : X.calm = true) : CallR X (.type "dict") (fun xs H Q => ∃ (a : Addr) (ps : List Addr) (kvs : List (Key × V)), xs = [.ref a] ∧ PlT H a (ps.map V.ref) ∧ Paired (fun p kv => SqT X.K H p [kV kv.1, kv.2]) ps kvs ∧
    ∀ p, H p = none → Q (.ref p) (upd H p (.dK (mergeK [] kvs)))) := by
  intro pins s σ H xs us Q I r q
  obtain ⟨a, ps, kvs, rfl, ⟨o, hd, ea⟩, hp, q⟩ := q
  obtain ⟨u, rfl, rx⟩ := vals1 r
  cases rx
  obtain ⟨ho, hz, its, rv, o2, ho2, hc, n, hdat⟩ := (show ObjOk X.prog X.w H s.heap a (.frz o (.tup (ps.map V.ref))) from I.hok a _ ea)
  rw [ho] at ho2
  cases (Option.some.inj ho2)
  have ei := refs_of rv
  subst ei
  rw [List.length_map] at hz
  obtain ⟨prs, uvs, rel, l1, l2, hq⟩ := uvs_of I hp
  have ok : PlainSeq "tuple" s.heap a (ps.map Value.ref).toArray ∧ PairItems s.heap (ps.map Value.ref).toArray (fun j => ps.getD j 0) uvs := by
    refine ⟨⟨o, n, ho, hc, hd, hdat⟩, by simp [l2], fun j k v hj => ?_⟩
    obtain ⟨b, key, e1, e2, _, _⟩ := hq j k v hj
    have e5 : ps.getD j 0 = b := by rw [List.getD_eq_getElem?_getD, e1]; rfl
    show _ ∧ PairAt s.heap (ps.getD j 0) k v
    rw [e5]
    exact ⟨by simp [e1], e2⟩
  refine PySem.call_dict_pairs (knd := mixKind X.prog X.w) (kvs := prs) (PairArg.tuple a (ps.map Value.ref).toArray (fun j => ps.getD j 0) uvs) (I.ok.hd hcalm) ok ⟨by rw [l1, l2], fun i key v hr => ?_⟩ (by rw [l2]; exact hz) fun h' tk hd' k => ?_
  · obtain ⟨b, k, _, _, e3, e4⟩ := hq i key v hr
    exact ⟨k, e3, e4⟩
  · have hm : (s.heap.objs.size == sysModules) = false := beq_eq_false_iff_ne.mpr (Nat.ne_of_gt I.big)
    have hlen : (mergeK [] kvs).length ≤ sizeLine := by
      have h1 := length_mergeK kvs []
      have h2 := rel.length
      rw [List.length_nil] at h1
      omega
    exact ⟨.ref s.heap.objs.size, upd H s.heap.objs.size (.dK (mergeK [] kvs)), I.laid (t' := tk) (fun b ob e => k b ob (by simp) e) (Nat.le_refl _) (show ObjOk X.prog X.w _ _ _ (.dK (mergeK [] kvs)) from ⟨hlen, hm, merged [] prs, KV.merge rel .nil, hd'⟩), rfl, q _ (I.hok.fresh (Nat.le_refl _))⟩
/-- tuple(l), l a list: a plain tuple -/
theorem call_tupleF {X : Cx} : CallR X (.type "tuple") (fun xs H Q => ∃ p ys, xs = [.ref p] ∧ SqL X.K H p ys ∧ ∀ l H', H l = none → Same H H' → PlT H' l ys → (∀ b, b ≠ l → H' b = H b) → Q (.ref l) H') := by
  intro pins s σ H xs us Q I r q
  obtain ⟨p, ys, rfl, hq, q⟩ := q
  obtain ⟨u, rfl, rx⟩ := vals1 r
  cases rx
  obtain ⟨its, rv, pl, hz⟩ := I.list hq
  have hlen := rv.length
  refine call_tuple_list pl.isList (fun h' kp => ?_) (by simp only [List.size_toArray] <;> omega)
  have J1 : Inv X pins σ H { s with heap := h' } := I.kept (t' := s.toks) kp
  have hfr := J1.hok.fresh (Nat.le_refl _)
  have J2 : Inv X pins σ (upd H h'.objs.size (.frz { cls := .type "tuple", data := .seq its.toArray } (.tup ys))) { s with heap := h'.push { cls := .type "tuple", data := .seq its.toArray } } :=
    J1.laid (t' := s.toks) (fun b ob e => Heap.get?_push_of_some _ e) (Nat.le_refl _) ⟨Heap.get?_push_size _ rfl, hz, its, rv, IsTup.new _ _⟩
  exact ⟨.ref h'.objs.size, _, J2, rfl, q _ _ hfr (same_new hfr) ⟨_, rfl, upd_same⟩ fun b hb => upd_ne hb⟩
theorem tupFK (K : PySem.W.Frag) {X : Cx} (hK : X.K = K := by rfl) : CallR X (.type "tuple") (fun xs H Q => ∃ p ys, xs = [.ref p] ∧ SqL K H p ys ∧ ∀ l H', H l = none → Same H H' → PlT H' l ys → (∀ b, b ≠ l → H' b = H b) → Q (.ref l) H') := hK ▸ call_tupleF
end Vf

namespace PySem
namespace ErrX
open PySem.W PySem.Calls PyProof.Rows PySem.HandSPX
/-! ### the text of __init__ -/
def iA (p1 p2 : Pos) : Arguments := { posonlyargs := [], args := [{ arg := "self", annotation := none, pos := p1 }, { arg := "place", annotation := none, pos := p2 }], vararg := none, kwonlyargs := [], kw_defaults := [], kwarg := none, defaults := [] }
def iB (q1 q2 q3 q4 : Pos) : List Stmt := [.Assign [.Attribute (.Name "self" q1) "place" q2] (.Name "place" q3) q4]
def iS : Scope := { kind := .function, names := [(PySem.Str.ofString "self", .local), (PySem.Str.ofString "place", .local)], isGenerator := false, isCoroutine := false, more := [] }
/-- what the written part says of Low, at C, and of its __init__, at fI -/
structure ErrTxt (K : Frag) (mg : Str → Option Value) (x : Str) (C fI : Addr) : Prop where
  gC : mg x = some (.ref C)
  cls : ∃ nm q N bs bm sn sub ab col dd k0 k1 k2 k3 k5, K.lookup C = some (excClassObj nm q C N bs bm true sn sub ab col dd k0 k1 k2 k3 k5 "ValueError.__new__") ∧ refsVE bm = true
  sa : findIn K (.ref C) "__setattr__" = some (some (.builtin "object.__setattr__"))
  ga : findIn K (.ref C) "__getattribute__" = some (some (.builtin "BaseException.__getattribute__"))
  gg : findIn K (.ref C) "__getattr__" = some none
  noN : findIn K (.ref C) "place" = some none
  iC : findIn K (.ref C) "__init__" = some (some (.ref fI))
  tC : typeIn K (.ref fI) = some (.type "function")
  kC : keepIn K (.ref C) = true
  exC : subIn K (.ref C) (.type "BaseException") = some true
  tyC : typeIn K (.ref C) = some (.type "type")
  hdC : hasDictIn K C = true
  te : exmOne K (.ref C) (.ref C) = some true
  fn : ∃ (oc : Value) (od : Option Addr) (kV doc pm : Value) (an : Option Addr) (cdv ct : Value) (osl : Array (Option Value)) (p1 p2 q1 q2 q3 q4 : Pos),
    K.lookup fI = some ⟨oc, od, .func (fnOf "__init__" "FolderkinError.__init__" (iA p1 p2) (iB q1 q2 q3 q4) iS .none kV doc pm an cdv ct), osl⟩ ∧ codeIn K cdv "FolderkinError.__init__" = true
theorem one_size (v : Value) : [v].length ≤ sizeLine := by
  rw [sizeLine_eq]
  exact (by decide : 1 ≤ 16777216)
theorem kept_but {K : Frag} {h h' : Heap} {x : Addr} (X : K.In h) (hx : K.lookup x = none) (k : ∀ b o, b ≠ x → h.get? b = some o → h'.get? b = some o) : K.In h' := fun a o e =>
  k a o (fun z => by rw [z, hx] at e; cases e) (X a o e)
theorem ldC {M : Model} {s : Shared} {name : Str} {scope : Scope} {L a : Addr} {cd : Value} {m : Str → Option Value} {x : Str} {pos : Pos} {v : Value} {Q : Value → Shared → Prop} {A : Around} {E : Value → Shared → Prop} (hn : s.heap.Ns L m) (hv : m x = some v) (h : Q v s)
    (hk : scope.kind = .function := by rfl) (hl : (envOfC name scope L a cd).kindOf x = some .local := by rfl) (hd : (x == ("__debug__" : Str)) = false := by decide) :
    wpAny M A (eval (.Name x pos) (envOfC name scope L a cd)) Q E s := wpAny_Name (wpAny_loadName_local hk hl hn hv h) hd
/-- what __init__ leaves of a fresh exception at x -/
structure InitEnd (h h' : Heap) (x C dx t1 : Addr) (v : Value) : Prop where
  keep : ∀ b o, b ≠ x → h.get? b = some o → h'.get? b = some o
  obj : h'.get? x = some { cls := .ref C, dict := some dx, data := .fields #[.ref t1, .none, .none, .none, .bool false, .none] }
  dbig : h.objs.size ≤ dx
  dne : dx ≠ x
  ns : h'.Ns1 dx (fun y => if y = "place" then some v else none)
/-- a made Low -/
structure OwnMade (h h' : Heap) (e C d : Addr) (v : Value) : Prop where
  keep : ∀ b o, h.get? b = some o → h'.get? b = some o
  new : h.objs.size ≤ e
  obj : ∃ oe vs, h'.get? e = some oe ∧ oe.cls = .ref C ∧ oe.dict = some d ∧ oe.data = .fields vs ∧ vs[1]? = some .none
  dbig : h.objs.size ≤ d
  dne : d ≠ e
  ns : h'.Ns1 d (fun y => if y = "place" then some v else none)
section
variable {prog : Program} {w : World} {A : Around} {E : Value → Shared → Prop} {R : Result → Shared → Prop} {s : Shared} {K : Frag} {mg : Str → Option Value} {C fI : Addr}
theorem err_init (T : ErrTxt K mg nmx C fI) {x t0 : Addr} {v : Value} (X : K.In s.heap) (hlim : s.heap.NoLimit) (hx : s.heap.get? x = some (excO C t0)) (hnx : K.lookup x = none) (hroom : A.depth < recursionLimit)
    (hq : ∀ h' tk dx, InitEnd s.heap h' x C dx t0 v → R (.ok (.ret .none)) { s with heap := h', toks := tk }) :
    codeAny (model prog w) A (.call (.ref fI) ⟨[.ref x, v], []⟩) R s := by
  obtain ⟨oc, od, kV, doc, pm, an, cdv, ct, osl, p1, p2, q1, q2, q3, q4, ho, hcd⟩ := T.fn
  obtain ⟨nm, q, N, bs, bm, sn, sub, ab, col, dd, k0, k1, k2, k3, k5, hC, hbm⟩ := T.cls
  have hcl : clsIn K C = some { name := nm, bases := bs, mro := .ref C :: bm, ns := N, qualname := q, hasDict := true, slotNames := sn, subclasses := sub, abstract := ab, collection := col, hasDel := false } := by unfold clsIn; rw [hC] <;> rfl
  refine Att.call_fn (binds := [("self", .ref x), ("place", v)]) X hlim ho hcd hroom (BindsTo.of_eq (by first | rfl | with_unfolding_all rfl)) (by first | rfl | decide | with_unfolding_all rfl) (fun s₁ IC => ?_) rfl rfl rfl
  obtain ⟨h₁, tk₁, rfl⟩ := IC.toInCall.same
  have k : ∀ b o, s.heap.get? b = some o → h₁.get? b = some o := IC.toInCall.keep
  have hn := IC.toInCall.ns
  have hxL : s.heap.objs.size ≠ x := Nat.ne_of_gt (Heap.lt_size hx)
  have X₁ : K.In h₁ := X.keeps k
  have hx₁ := k _ _ hx
  -- self.by = by
  show wpAny _ _ (execs _ _) _ _ _
  refine wpAny_execs_cons (plainObj_wpAny_Assign_Attribute ?_)
  refine ldC (v := v) hn (by first | rfl | with_unfolding_all rfl | kernel_rfl) (ldC (v := .ref x) hn (by first | rfl | with_unfolding_all rfl | kernel_rfl) ?_)
  refine set_plain X₁ (ox := excO C t0) (od := none) ⟨hx₁, rfl, rfl, trivial⟩ T.sa ?_
  refine exc_osa X₁ hx₁ hcl (show refsVE (.ref C :: bm) = true from hbm) rfl T.noN (fun h₃ tk₃ dx k₃ dn dne hx₃ hn₃ => ?_)
  show wpAny _ _ (execs _ _) _ _ _
  have z : s.heap.objs.size < h₁.objs.size := hn.lt
  exact wpAny_execs_nil (hq h₃ tk₃ dx ⟨fun b o hb e => k₃ b o hb (k b o e), hx₃, Nat.le_of_lt (Nat.lt_of_lt_of_le z dn), dne, hn₃⟩)
theorem err_made (T : ErrTxt K mg nmx C fI) {v : Value} (X : K.In s.heap) (hlim : s.heap.NoLimit) (hroom : A.depth + 1 < recursionLimit)
    (hq : ∀ h' tk e d, OwnMade s.heap h' e C d v → R (.ok (.ret (.ref e))) { s with heap := h', toks := tk }) :
    codeAny (model prog w) A (.call (.ref C) ⟨[v], []⟩) R s := by
  obtain ⟨nm, q, N, bs, bm, sn, sub, ab, col, dd, k0, k1, k2, k3, k5, hC, hbm⟩ := T.cls
  obtain ⟨hp, g, dr, tk, os⟩ := s
  have k : ∀ b o, hp.get? b = some o → ((hp.push (kdv_tup [v])).push (excO C hp.objs.size)).get? b = some o := fun b o e => Heap.get?_push_of_some _ (Heap.get?_push_of_some _ e)
  have hget : ((hp.push (kdv_tup [v])).push (excO C hp.objs.size)).get? (hp.objs.size + 1) = some (excO C hp.objs.size) := by heap_get
  have hnx : K.lookup (hp.objs.size + 1) = none := by
    cases e : K.lookup (hp.objs.size + 1) with
    | none => rfl
    | some o =>
      have z : hp.get? (hp.objs.size + 1) = some o := X _ _ e
      exact absurd (Nat.lt_of_succ_lt (Heap.lt_size z)) (Nat.lt_irrefl _)
  refine call_own F.excBase_ValueError (fun X => refsVE_contains X bm hbm) (X _ _ hC) (looks_findIn X T.iC) (fun self => bind_fn X self T.tC) (one_size v) ?_
  refine err_init (s := ⟨(hp.push (kdv_tup [v])).push (excO C hp.objs.size), g, dr, tk, os⟩) T (X.keeps k) (hlim.keeps k) hget hnx ?_ fun h' tk' dx ⟨k', hx, dn, dne, hns⟩ => ?_
  · show A.depth + 1 < recursionLimit
    exact hroom
  · have old : ∀ b o, hp.get? b = some o → h'.get? b = some o := fun b o e => k' b o (Nat.ne_of_lt (Nat.lt_succ_of_lt (Heap.lt_size e))) (k b o e)
    have z : hp.objs.size + 1 + 1 ≤ dx := by
      first
        | (simpa only [Heap.size_push] using dn)
        | exact dn
        | (have q := dn; rw [Heap.size_push, Heap.size_push] at q; exact q)
    exact ⟨rfl, hq h' tk' (hp.objs.size + 1) dx ⟨old, Nat.le_succ _, ⟨_, _, hx, rfl, rfl, rfl, rfl⟩, Nat.le_trans (Nat.le_trans (Nat.le_succ _) (Nat.le_succ _)) z, dne, hns⟩⟩
end
end ErrX
end PySem
namespace L2
open PySem PySem.Spec PyProof.Rows
theorem relO_plc {v : V} {v' : Value} (r : RelV v v') (f : Str) : RelO (List.lookup f [(("place" : Str), v)]) (if f = "place" then some v' else none) := by
  by_cases hw : f = "place"
  · subst hw
    rw [if_pos rfl]
    have q : List.lookup ("place" : Str) [(("place" : Str), v)] = some v := by simp [List.lookup]
    rw [q]
    exact r
  · rw [if_neg hw]
    have qw : (f == ("place" : Str)) = false := by simpa using hw
    have q2 : List.lookup f [(("place" : Str), v)] = none := by simp [List.lookup, qw]
    rw [q2]
    trivial
section
variable {X : Cx} {C fI : Addr}
/-- Low(e) -/
def tMkErr (C : Addr) (ta : TA) : St → Hp → XK → Prop := fun σ H Q => ta σ H fun vs H1 => ∃ v, vs = [v] ∧ ∀ d, H1 d = none → Q (.ref C) (some d) (upd H1 d (.xd [(("place" : Str), v)]))
theorem pmk_err {a : Expr} {ta : TA} {p pos : Pos} {k : Nat} (T : PySem.ErrX.ErrTxt X.K X.mg nmx C fI) (hr : Room k X.A) (ha : PA X [a] ta) (hg : Gl X nmx := by rfl)
    (he : starEach (a :: []) X.env = (false, eval a X.env) :: starEach [] X.env := by rfl) (hpl : (backTo pos (starEach [] X.env)).any (·.1) = false := by rfl) (hdb : (nmx == ("__debug__" : Str)) = false := by decide) :
    PMk X (.Call (.Name nmx p) [a] [] pos) (tMkErr C ta) := by
  intro pins s σ H Q I h
  refine wpAny_Call_Name_kw (ld_glob I hg T.gC ?_ hdb)
  refine PySem.W.callWith_K (h₀ := X.base) I.ok.mod.kin T.kC (thn (ha.run pos pins s σ H _ I h) fun us s1 hh => ?_) he hpl
  obtain ⟨vs, H1, I1, r1, v, ev, q1⟩ := hh
  subst ev
  refine ⟨I1.kIn, ?_⟩
  cases r1 with
  | cons rv rn =>
    rename_i v' us'
    cases rn
    show wpAny _ _ (call (.ref C) [v']) _ _ _
    have hlim := I1.nolimit
    obtain ⟨hp, g, dr, tk, os⟩ := s1
    refine wpAny_call (PySem.ErrX.err_made T I1.kIn hlim (by have := hr.dp; omega) fun h' tk' e d M => ?_)
    show MkP X pins σ Q (.ref e) ⟨h', g, dr, tk', os⟩
    obtain ⟨oe, fv, hoe, hc, hd, hdat, h1⟩ := M.obj
    have hns := M.ns
    obtain ⟨G', g1, g2⟩ := restrict h' fun b => decide (b ≠ e)
    have gk : ∀ b, b ≠ e → G'.get? b = h'.get? b := fun b hb => g1 b (decide_eq_true hb)
    have ge : G'.get? e = none := g2 e (by simp)
    have old : ∀ b o, hp.get? b = some o → G'.get? b = some o := fun b o q => (gk b (Nat.ne_of_lt (Nat.lt_of_lt_of_le (Heap.lt_size q) M.new))).trans (M.keep b o q)
    have ob : ObjOk X.prog X.w (upd H1 d (.xd [(("place" : Str), v)])) G' d (.xd [(("place" : Str), v)]) :=
      ⟨_, hns.at (fun o q => (gk d M.dne).trans q), fun f => relO_plc rv f⟩
    have J : Inv X pins σ (upd H1 d (.xd [(("place" : Str), v)])) ⟨G', g, dr, tk', os⟩ := I1.laid (t' := tk') old M.dbig ob
    refine ⟨e, oe, fv, ⟨G', g, dr, tk', os⟩, _, .ref C, some d, rfl, J, fun b o q => ?_, ge, hoe, ⟨hc, hd⟩, hdat, h1, ?_, rfl, I1.bare, raises_own T.exC T.tyC, q1 d (I1.hok.fresh M.dbig)⟩
    · by_cases hb : b = e
      · have q' : G'.get? b = some o := q
        rw [hb, ge] at q'; cases q'
      · exact (gk b hb).symm.trans q
    · rw [upd_ne (Ne.symm M.dne)]
      exact I1.hok.fresh M.new
/-- raise Low(e) -/
def tRaiseErr (C : Addr) (W : WX) (ta : TA) : TS := fun _ σ H => tMkErr C ta σ H fun cls d H' => W cls d σ H'
theorem ps_raiseErr {a : Expr} {ta : TA} {W : WX} {p pos pos2 : Pos} {k : Nat} (hc : X.calm = true) (T : PySem.ErrX.ErrTxt X.K X.mg nmx C fI) (hr : Room k X.A) (tk : Takes X W) (ha : PA X [a] ta) (hg : Gl X nmx := by rfl)
    (he : starEach (a :: []) X.env = (false, eval a X.env) :: starEach [] X.env := by rfl) (hpl : (backTo pos (starEach [] X.env)).any (·.1) = false := by rfl) (hdb : (nmx == ("__debug__" : Str)) = false := by decide) :
    PS X (.Raise (some (.Call (.Name nmx p) [a] [] pos)) none pos2) (tRaiseErr C W ta) := ps_raise hc tk (pmk_err T hr ha hg he hpl hdb)
/-- low.by, low the exception that the suite holds (at a; its class cls, its dict d) -/
def tPlcErr (C : Addr) (a : Addr) (cls : Value) (d : Option Addr) (te : TE) : TE := fun σ H Q => te σ H fun x H1 => x = .ref a ∧ cls = .ref C ∧ ∃ (dd : Addr) (v : V), d = some dd ∧ H1 dd = some (.xd [(("place" : Str), v)]) ∧ Q v H1
theorem pe_plcErr {a : Addr} {oe : Obj} {cls : Value} {d : Option Addr} {pn : List (Addr × Obj)} {e : Expr} {te : TE} {pos : Pos} (T : PySem.ErrX.ErrTxt X.K X.mg nmx C fI) (hz : Zc cls d oe) (hf : ∃ vs, oe.data = .fields vs) (he : PE (X.suite a ((a, oe) :: pn)) e te)
    (hb : attributeBase e "place" X.env (eval e X.env) = eval e X.env := by rfl) :
    PE (X.suite a ((a, oe) :: pn)) (.Attribute e "place" pos) (tPlcErr C a cls d te) := by
  refine ⟨fun pins s σ H Q I h => ?_⟩
  refine attr_of hb (thn (he.run pins s σ H _ I h) fun u s1 hh => ?_)
  obtain ⟨x, H1, I1, rx, ex, ec, dd, v, ed, ea, q⟩ := hh
  subst ex
  obtain rfl : u = Value.ref a := rx
  subst ec
  subst ed
  obtain ⟨ha, _⟩ := I1.pin (a, oe) (List.mem_append_left _ List.mem_cons_self)
  obtain ⟨vs, hd⟩ := hf
  have hx : ObjOk X.prog X.w H1 s1.heap dd (.xd [(("place" : Str), v)]) := I1.hok dd _ ea
  obtain ⟨mA, hns, hr⟩ := hx
  obtain ⟨od, ho, hl⟩ := lookIn_ns hns
  have l : List.lookup ("place" : Str) [(("place" : Str), v)] = some v := by simp [List.lookup]
  obtain ⟨u, hu, ru⟩ := RelO.some_of (v := v) (o := mA "place") (by rw [← l]; exact hr "place")
  have J : PySem.W.InstAt s1.heap a oe C (some od) := ⟨ha, hz.1, by unfold PySem.W.notCls; rw [hd] <;> rfl, by rw [hz.2]; exact ho⟩
  exact HandSPX.exc_get I1.kIn J T.ga T.gg T.exC (PySem.W.findObj_own T.hdC T.noN rfl (by rw [hl, hu])) (handed_of ru) ⟨v, H1, I1.tok _, ru, q⟩
end
end L2

namespace Vf
open PySem L2 PySem.Spec PyProof.Rows
/-- isinstance(e, c), e the error that the suite holds (at a; its class cls, its own dict d) -/
def rIsP (K : PySem.W.Frag) (D a : Addr) (cls : Value) (d : Option Addr) : List V → Hp → VK → Prop := fun xs H Q => cls = .ref D ∧ ∃ (dd : Addr) (pl c : V) (cv : Value) (b : Bool),
  d = some dd ∧ H dd = some (.xd [(("place" : Str), pl)]) ∧ xs = [.ref a, c] ∧ (∀ u, RelV c u → u = cv) ∧ PySem.W.kitOne K (.ref D) cv = some b ∧ Q (.bl b) H
theorem call_isP {X : Cx} {a D : Addr} {oe : Obj} {cls : Value} {d : Option Addr} {pn : List (Addr × Obj)} (C : ExcC X.K D) (hz : Zc cls d oe) (hf : ∃ vs, oe.data = .fields vs) : CallR (X.suite a ((a, oe) :: pn)) (.builtin "isinstance") (rIsP X.K D a cls d) := by
  intro pins s σ H xs us Q I r h
  obtain ⟨rfl, dd, pl, c, cv, b, rfl, ea, rfl, hcv, e, q⟩ := h
  obtain ⟨u1, u2, rfl, r1, r2⟩ := vals2 r
  cases (show u1 = Value.ref a from r1)
  have e2 := hcv _ r2
  subst e2
  obtain ⟨ha, _⟩ := I.pin (a, oe) (List.mem_append_left _ List.mem_cons_self)
  obtain ⟨vs, hd⟩ := hf
  obtain ⟨mA, hns, _⟩ := (show ObjOk X.prog X.w H s.heap dd (.xd [(("place" : Str), pl)]) from I.hok dd _ ea)
  obtain ⟨od, ho, _⟩ := lookIn_ns hns
  have J : PySem.W.InstAt s.heap a oe D (some od) := ⟨ha, hz.1, by unfold PySem.W.notCls; rw [hd] <;> rfl, by rw [hz.2]; exact ho⟩
  have hcl : (PySem.W.clsIn X.K D).isSome = true := by
    have h1 := C.hd
    unfold PySem.W.hasDictIn at h1
    cases h2 : PySem.W.clsIn X.K D with
    | none => rw [h2] at h1; cases h1
    | some cd => rfl
  exact PySem.W.kia_one (PySem.W.kitx_exc hcl C.hg C.hk C.hs C.ha C.hn C.ht C.hm) I.kIn J e (fun z => nomatch z) fun tk => ⟨.bl b, H, I.kept (t' := tk) fun _ _ z => z, rfl, q⟩
end Vf

namespace Vf
open PySem L2 PySem.Spec PyProof.Rows He
/-! ### the head's facts, and further ones that are yes or no -/
abbrev AlX : Type := AlD × Bool
def obsX (fa : List Fa) (fn : List DefD) (ex : List (PySem.W.Frag → Bool)) (K : PySem.W.Frag) : AlX := (obsD fa fn K, ex.all fun p => p K)
def obsXG (n : Nat) (fa : List Fa) (fn : List DefD) (ex : List (PySem.W.Frag → Bool)) (g : Addr → Option Obj) : AlX := obsX fa fn ex (frG g (asD g n))
def SaysX (fa : List Fa) (fn : List DefD) (ex : List (PySem.W.Frag → Bool)) (K : PySem.W.Frag) : Prop := SaysD fa fn K ∧ (ex.all fun p => p K) = true
def hookX (n : Nat) (fa : List Fa) (fn : List DefD) (ex : List (PySem.W.Frag → Bool)) : PySem.W.Hook where
  α := AlX
  obs := fun s => obsXG n fa fn ex s.heap.get?
  val := fun _ => (valD fn, true)
  says := fun _ h => ∃ K : PySem.W.Frag, K.In h ∧ SaysX fa fn ex K
  of := fun _ _ e => ⟨_, frG_in, congrArg (fun z : AlX => z.1) e, congrArg (fun z : AlX => z.2) e⟩
  keeps := fun _ _ _ ⟨K, hK, c⟩ k => ⟨K, PySem.W.Frag.In.keeps hK k, c⟩
theorem obsXG_eq {n : Nat} {fa : List Fa} {fn : List DefD} {ex : List (PySem.W.Frag → Bool)} {g : Addr → Option Obj} {s : Shared} (h : ∀ a, g a = s.heap.get? a) : obsXG n fa fn ex g = (hookX n fa fn ex).obs s := by
  have e : g = s.heap.get? := funext h
  rw [e] <;> rfl
theorem SaysX.more {fa : List Fa} {fn : List DefD} {ex : List (PySem.W.Frag → Bool)} {K : PySem.W.Frag} (c : SaysX fa fn ex K) (i : Nat) {p : PySem.W.Frag → Bool} (h : ex[i]? = some p := by rfl) : p K = true :=
  List.all_eq_true.mp c.2 p (List.mem_of_getElem? h)
/-! ### an own error, over ValueError through own classes, with __init__ from one of them -/
def errB (K : PySem.W.Frag) (C : Addr) : Bool := match K.lookup C with
  | some ⟨.type "type", _, .cls cd, sl⟩ => (match cd.mro, sl.toList with
    | .ref D :: bm, [_, _, _, _, some (.builtin n), _] => D == C && (n == "ValueError.__new__" && (!cd.hasDel && (cd.hasDict && PySem.HandSPX.refsVE bm)))
    | _, _ => false)
  | _ => false
theorem errB_ok {K : PySem.W.Frag} {C : Addr} (q : errB K C = true) : ∃ nm qn N bs bm sn sub ab col dd k0 k1 k2 k3 k5, K.lookup C = some (excClassObj nm qn C N bs bm true sn sub ab col dd k0 k1 k2 k3 k5 "ValueError.__new__") ∧ PySem.HandSPX.refsVE bm = true := by
  unfold errB at q
  split at q
  · rename_i dd cd sl ho
    split at q
    · rename_i D bm k0 k1 k2 k3 n k5 hm hs
      simp only [Bool.and_eq_true, beq_iff_eq, Bool.not_eq_true'] at q
      obtain ⟨rfl, rfl, hdel, hdi, hv⟩ := q
      obtain ⟨nm, bs, mro, ns, qn, hd, sn, sub, ab, col, del⟩ := cd
      dsimp only at hm hdel hdi
      subst hm hdel hdi
      obtain ⟨l⟩ := sl
      simp only at hs
      subst hs
      exact ⟨nm, qn, ns, bs, bm, sn, sub, ab, col, dd, k0, k1, k2, k3, k5, ho, hv⟩
    · cases q
  · cases q
def errAll (x bx : Str) (K : PySem.W.Frag) : Bool :=
  errB K (ga K x) && (eqO (PySem.W.findIn K (.ref (ga K x)) "__setattr__") (some (some (.builtin "object.__setattr__"))) && (eqO (PySem.W.findIn K (.ref (ga K x)) "__getattribute__") (some (some (.builtin "BaseException.__getattribute__"))) &&
  (eqO (PySem.W.findIn K (.ref (ga K x)) "__getattr__") (some none) && (eqO (PySem.W.findIn K (.ref (ga K x)) "place") (some none) && (eqO (PySem.W.findIn K (.ref (ga K x)) "__init__") (some (some (.ref (ma K (ga K bx) "__init__")))) &&
  (decide (PySem.W.typeIn K (.ref (ma K (ga K bx) "__init__")) = some (.type "function")) && (PySem.W.keepIn K (.ref (ga K x)) && (decide (PySem.W.subIn K (.ref (ga K x)) (.type "BaseException") = some true) && (decide (PySem.W.typeIn K (.ref (ga K x)) = some (.type "type")) &&
  (PySem.W.hasDictIn K (ga K x) && (decide (PySem.W.exmOne K (.ref (ga K x)) (.ref (ga K x)) = some true) && (decide (PySem.W.exmOne K (.ref (ga K x)) (.ref (ga K bx)) = some true) && (eqO (PySem.W.findIn K (.ref (ga K x)) "__class__") (some (some (.builtin "object.__class__"))) &&
  (eqO (PySem.W.specialIn K (.builtin "object.__class__") "__get__") (some (some (.builtin "getset_descriptor.__get__"))) && (decide (PySem.W.takesIn K (.builtin "object.__class__") = some true) && (decide (PySem.W.mroIn K (ga K x) (.type "object") = some true) &&
  (decide (PySem.W.kitOne K (.ref (ga K x)) (.ref (ga K x)) = some true) && (decide (PySem.W.kitOne K (.ref (ga K x)) (.ref (ga K bx)) = some true) && decide (PySem.W.kitOne K (.ref (ga K x)) (.type "ValueError") = some true)))))))))))))))))))
structure ErrAll (K : PySem.W.Frag) (mg : Str → Option Value) (x bx : Str) : Prop where
  er : PySem.ErrX.ErrTxt K mg x (ga K x) (ma K (ga K bx) "__init__")
  gB : mg bx = some (.ref (ga K bx))
  ec : ExcC K (ga K x)
  xb : PySem.W.exmOne K (.ref (ga K x)) (.ref (ga K bx)) = some true
  ii : PySem.W.kitOne K (.ref (ga K x)) (.ref (ga K x)) = some true
  ib : PySem.W.kitOne K (.ref (ga K x)) (.ref (ga K bx)) = some true
  iv : PySem.W.kitOne K (.ref (ga K x)) (.type "ValueError") = some true
theorem errAll_ok {K : PySem.W.Frag} {h : Heap} {mg : Str → Option Value} {x bx : Str} {fd : FuncData} {p1 p2 q1 q2 q3 q4 : Pos} (X : K.In h) (G : h.Ns mainGlobals mg) (c1 : (Fa.glo x).ok K = true) (c2 : (Fa.glo bx).ok K = true) (ce : errAll x bx K = true)
    (F : FunD K "__init__" "FolderkinError.__init__" (PySem.ErrX.iA p1 p2) (PySem.ErrX.iB q1 q2 q3 q4) PySem.ErrX.iS [] [] (ma K (ga K bx) "__init__") fd) : ErrAll K mg x bx := by
  obtain ⟨e1, ce⟩ := ba ce
  obtain ⟨e2, ce⟩ := ba ce
  obtain ⟨e3, ce⟩ := ba ce
  obtain ⟨e4, ce⟩ := ba ce
  obtain ⟨e5, ce⟩ := ba ce
  obtain ⟨e6, ce⟩ := ba ce
  obtain ⟨e7, ce⟩ := ba ce
  obtain ⟨e8, ce⟩ := ba ce
  obtain ⟨e9, ce⟩ := ba ce
  obtain ⟨e10, ce⟩ := ba ce
  obtain ⟨e11, ce⟩ := ba ce
  obtain ⟨e12, ce⟩ := ba ce
  obtain ⟨e13, ce⟩ := ba ce
  obtain ⟨e14, ce⟩ := ba ce
  obtain ⟨e15, ce⟩ := ba ce
  obtain ⟨e16, ce⟩ := ba ce
  obtain ⟨e17, ce⟩ := ba ce
  obtain ⟨e18, ce⟩ := ba ce
  obtain ⟨e19, e20⟩ := ba ce
  obtain ⟨oc, od, dV, kV, doc, pm, an, cdv, ct, osl, rfl, lk, hcd, dfl, _⟩ := F.ex
  have ed : dV = .none := by
    rcases dfl with ⟨_, h⟩ | ⟨h, _⟩
    · exact h
    · exact absurd rfl h
  subst ed
  exact { er := { gC := glo_ok X G c1, cls := errB_ok e1, sa := eqO_ok e2, ga := eqO_ok e3, gg := eqO_ok e4, noN := eqO_ok e5, iC := eqO_ok e6, tC := of_decide_eq_true e7, kC := e8, exC := of_decide_eq_true e9, tyC := of_decide_eq_true e10, hdC := e11, te := of_decide_eq_true e12,
                  fn := ⟨oc, od, kV, doc, pm, an, cdv, ct, osl, p1, p2, q1, q2, q3, q4, lk, hcd⟩ },
          gB := glo_ok X G c2, ec := ⟨eqO_ok e3, eqO_ok e4, of_decide_eq_true e9, e11, eqO_ok e14, eqO_ok e15, of_decide_eq_true e16, of_decide_eq_true e17⟩,
          xb := of_decide_eq_true e13, ii := of_decide_eq_true e18, ib := of_decide_eq_true e19, iv := of_decide_eq_true e20 }
/-! ### calls of a def that may raise -/
structure CalX (P : Program) (w : World) (K : PySem.W.Frag) (mg : Str → Option Value) (base : Heap) (k : Nat) (x : Str) (sp : Sp) : Prop where
  ex : ∃ (f : Addr) (fd : FuncData) (ps : List Str), FnOk P w K mg base (L2.CX P w) k f fd ps sp ∧ mg x = some (.ref f) ∧ PySem.W.keepIn K (.ref f) = true ∧ Binds K fd ps []
theorem pe_cX {X : Cx} {k j : Nat} {x : Str} {sp : Sp} {p pos : Pos} {e : Expr} {es : List Expr} {t : TA} {W : WX} (c : CalX X.prog X.w X.K X.mg X.base k x sp) (hr : Room j X.A) (hk : k ≤ j) (tk : Takes X W) (hg : Gl X x) (ha : PA X (e :: es) t)
    (hdb : (x == ("__debug__" : Str)) = false := by decide) (he : starEach (e :: es) X.env = (false, eval e X.env) :: starEach es X.env := by rfl)
    (hpl : (backTo pos (starEach es X.env)).any (·.1) = false := by rfl) : PE X (.Call (.Name x p) (e :: es) [] pos) (tCallS sp (WE W) t) := by
  obtain ⟨f, fd, ps, F, hm, kp, b⟩ := c.ex
  exact pe_callS F (hr.mono hk) hg hm kp b (fun σ => passAt tk σ) ha hdb he hpl
/-- promises of a def that may raise, by arity -/
abbrev sp1X (R : V → Hp → VK → XK → Prop) : Sp := fun vs H Q E => ∃ a, vs = [a] ∧ R a H Q E
end Vf

namespace Vf
open PySem L2 PySem.Spec PyProof.Rows
/-- x == y, x an instance of a class with its own __eq__ that answers True or False; y one too, or a tuple -/
def rEqO (K : PySem.W.Frag) (C : Addr) (sp : Sp) (E : XK) : R2 := fun x y H Q => ∃ (a b dx : Addr) (fs : List (Str × V)), x = .ref a ∧ y = .ref b ∧ H a = some (.ins C dx fs) ∧
  ((∃ (dy : Addr) (gs : List (Str × V)), H b = some (.ins C dy gs)) ∨ (PySem.W.notFirst K C (.type "tuple") = true ∧ ∃ ys, SqT K H b ys)) ∧ sp [x, y] H (fun z H' => ∃ t, z = .bl t ∧ Q z H') E
theorem op_eqOwn {X : Cx} {CX : CXT} {C f : Addr} {fd : FuncData} {ps : List Str} {sp : Sp} {E : XK} {n : Nat} (F : FnOk X.prog X.w X.K X.mg X.base CX n f fd ps sp)
    (hs : PySem.W.findIn X.K (.ref C) "__eq__" = some (some (.ref f))) (hf : PySem.W.isFn X.K (.ref f) = true) (hb : Binds X.K fd ps []) (hx : Passes CX X E) (hr : Room n X.A) : OpR X (compareOp .Eq) (rEqO X.K C sp E) := by
  intro pins s σ H x y v u Q I rx ry q
  obtain ⟨a, b, dx, fs, rfl, rfl, ha, hy, hsp⟩ := q
  cases rx
  cases ry
  obtain ⟨mA, J, _⟩ := ins_get I.hok ha
  obtain ⟨od, J, _⟩ := J.look
  obtain ⟨m, hF⟩ := I.fr
  have go : ∀ tb : Value, PySem.W.Looks (model X.prog X.w) s.heap (typeOf (.ref b)) tb → PySem.W.notFirst X.K C tb = true → wpAny (model X.prog X.w) X.A (richCompare .Eq (.ref a) (.ref b)) (EP X pins σ Q) X.xe s := fun tb ht hn => by
    refine PySem.W.cmp_K (op := .Eq) (tb := tb) hr.units0 hF I.ok.mod.kin J ht hn hs hf ?_
    have hl := F.len _ _ _ _ hsp
    have r2 : Vals [V.ref a, V.ref b] [Value.ref a, Value.ref b] := .cons rfl (.cons rfl .nil)
    refine wpAny_call (codeAny_mono (F.run X.A X.stack s H ⟨[.ref a, .ref b], []⟩ [.ref a, .ref b] [.ref a, .ref b] _ E hr I.env0 (by
      have := hb s [.ref a, .ref b] I.kIn (by simpa using hl)
      simpa using this) r2 hsp) fun r s' hq => ?_)
    cases r with
    | error e => exact hx pins σ H s e s' I hq
    | ok fl =>
      cases fl with
      | ret w =>
        obtain ⟨z, H', I', rz, t, ez, hQ⟩ := I.after hq
        subst ez
        cases rz
        exact ⟨.bl t, H', I', rfl, hQ⟩
      | next => exact False.elim hq
      | brk => exact False.elim hq
      | cont => exact False.elim hq
  rcases hy with ⟨dy, gs, hy⟩ | ⟨hn, ys, hy⟩
  · obtain ⟨mB, J', _⟩ := ins_get I.hok hy
    obtain ⟨od', J', _⟩ := J'.look
    exact go (.ref C) J'.type (by simp [PySem.W.notFirst])
  · obtain ⟨its, rv, ⟨o, ho, hc, _⟩, _⟩ := I.tuple hy
    exact go (.type "tuple") (fun A Q E s' k z => wpAny_typeOf (T := "tuple") ⟨o, k _ _ ho, hc⟩ z) hn
end Vf

namespace Vf
open PySem L2 PySem.Spec PyProof.Rows He
/-! ### an own class: all yes-or-no facts of it -/
def clsB (x : Str) (K : PySem.W.Frag) : Bool :=
  eqO (PySem.W.findIn K (.ref (ga K x)) "__class__") (some (some (.builtin "object.__class__"))) &&
  (eqO (PySem.W.specialIn K (.builtin "object.__class__") "__get__") (some (some (.builtin "getset_descriptor.__get__"))) && (decide (PySem.W.takesIn K (.builtin "object.__class__") = some true) &&
  (decide (PySem.W.mroIn K (ga K x) (.type "object") = some true) && (decide (PySem.W.kitOne K (.ref (ga K x)) (.ref (ga K x)) = some true) && (decide (PySem.W.kitOne K (.type "tuple") (.ref (ga K x)) = some false) && PySem.W.notFirst K (ga K x) (.type "tuple"))))))
structure ClsT (K : PySem.W.Frag) (x : Str) : Prop where
  ha : PySem.W.findIn K (.ref (ga K x)) "__class__" = some (some (.builtin "object.__class__"))
  hn : PySem.W.specialIn K (.builtin "object.__class__") "__get__" = some (some (.builtin "getset_descriptor.__get__"))
  htk : PySem.W.takesIn K (.builtin "object.__class__") = some true
  hm : PySem.W.mroIn K (ga K x) (.type "object") = some true
  own : PySem.W.kitOne K (.ref (ga K x)) (.ref (ga K x)) = some true
  tup : PySem.W.kitOne K (.type "tuple") (.ref (ga K x)) = some false
  nf : PySem.W.notFirst K (ga K x) (.type "tuple") = true
theorem clsB_ok {x : Str} {K : PySem.W.Frag} (c : clsB x K = true) : ClsT K x := by
  unfold clsB at c
  obtain ⟨c1, c⟩ := ba c
  obtain ⟨c2, c⟩ := ba c
  obtain ⟨c3, c⟩ := ba c
  obtain ⟨c4, c⟩ := ba c
  obtain ⟨c5, c⟩ := ba c
  obtain ⟨c6, c7⟩ := ba c
  exact ⟨eqO_ok c1, eqO_ok c2, of_decide_eq_true c3, of_decide_eq_true c4, of_decide_eq_true c5, of_decide_eq_true c6, c7⟩
/-- == by its own __eq__ -/
def eqB (x : Str) (K : PySem.W.Frag) : Bool := eqO (PySem.W.findIn K (.ref (ga K x)) "__eq__") (some (some (.ref (ma K (ga K x) "__eq__")))) && PySem.W.isFn K (.ref (ma K (ga K x) "__eq__"))
structure EqC (P : Program) (w : World) (K : PySem.W.Frag) (mg : Str → Option Value) (base : Heap) (k : Nat) (x : Str) (sp : Sp) : Prop where
  ex : ∃ (f : Addr) (fd : FuncData) (ps : List Str), FnOk P w K mg base CX0 k f fd ps sp ∧ PySem.W.findIn K (.ref (ga K x)) "__eq__" = some (some (.ref f)) ∧ PySem.W.isFn K (.ref f) = true ∧ Binds K fd ps []
theorem op_eqC {X : Cx} {k j : Nat} {x : Str} {sp : Sp} (c : EqC X.prog X.w X.K X.mg X.base k x sp) (hr : Room j X.A) (hk : k ≤ j) : OpR X (compareOp .Eq) (rEqO X.K (ga X.K x) sp E0) := by
  obtain ⟨f, fd, ps, F, hs, hf, hb⟩ := c.ex
  exact op_eqOwn F hs hf hb pass0 (hr.mono hk)
/-- C(e, .., k = v) -/
structure MakN (P : Program) (w : World) (K : PySem.W.Frag) (mg : Str → Option Value) (base : Heap) (k : Nat) (x : Str) (C : Addr) (sp : Sp) (n : Nat) (ks : List Str) (gV : List V → List V → List V) : Prop where
  ex : ∃ (f : Addr) (fd : FuncData) (ps : List Str) (g : List Value → List Value → List Value), Mk K C f ∧ FnOk P w K mg base CX0 k f fd ps sp ∧ mg x = some (.ref C) ∧ KBn K fd ps (n + 1) ks g gV
theorem pe_mkN {X : Cx} {k j n : Nat} {C : Addr} {x : Str} {sp : Sp} {p pos : Pos} {e : Expr} {es : List Expr} {kws : List Keyword} {ks : List Str} {t tk : TA} {gV : List V → List V → List V} (c : MakN X.prog X.w X.K X.mg X.base k x C sp n ks gV) (hr : Room j X.A) (hk : k + 1 ≤ j) (hg : Gl X x)
    (ha : PA X (e :: es) t) (hkw : PK X kws tk) (hall : (backToKw pos (keywordEach kws X.env)).all (·.1.isSome) = true := by rfl) (hks : (backToKw pos (keywordEach kws X.env)).filterMap (·.1) = ks := by rfl)
    (hdb : (x == ("__debug__" : Str)) = false := by decide) (he : starEach (e :: es) X.env = (false, eval e X.env) :: starEach es X.env := by rfl)
    (hpl : ((backTo pos (starEach (e :: es) X.env)).any (·.1) || (backToKw pos (keywordEach kws X.env)).any (·.1.isNone)) = false := by rfl) :
    PE X (.Call (.Name x p) (e :: es) kws pos) (tMakeN C n ks.length sp gV E0 t tk) := by
  obtain ⟨f, fd, ps, g, M, F, hm, b⟩ := c.ex
  exact pe_makeN M F (hr.mono hk) hg hm b pass0 ha hkw hall hks hdb he hpl
theorem e_tMake {C : Addr} {sp : Sp} {dvs : List V} {E : XK} {t : TA} {σ : L2.St} {H : Hp} {Q : VK} (q : t σ H fun vs H1 => ∀ x dx, H1 x = none → H1 dx = none → dx ≠ x → sp (.ref x :: (vs ++ dvs)) (upd (upd H1 dx (.own x)) x (.ins C dx [])) (fun v H2 => v = .non ∧ Q (.ref x) H2) E) : tMake C sp dvs E t σ H Q := q
theorem e_tMakeN {C : Addr} {n m : Nat} {sp : Sp} {gV : List V → List V → List V} {E : XK} {t tk : TA} {σ : L2.St} {H : Hp} {Q : VK} (q : t σ H fun vs H1 => tk σ H1 fun zs H2 => vs.length = n ∧ zs.length = m ∧
  ∀ x dx, H2 x = none → H2 dx = none → dx ≠ x → sp (gV (.ref x :: vs) zs) (upd (upd H2 dx (.own x)) x (.ins C dx [])) (fun v H3 => v = .non ∧ Q (.ref x) H3) E) : tMakeN C n m sp gV E t tk σ H Q := q
/-! ### == and != of data with any texts -/
def rEqP (K : PySem.W.Frag) : R2 := fun x y H Q => ∃ d e, Dp K H x d ∧ Dp K H y e ∧ d.plain = true ∧ e.plain = true ∧ d.depth ≤ 60 ∧ Q (.bl (PyData.eqv d e)) H
def rNeP (K : PySem.W.Frag) : R2 := fun x y H Q => ∃ d e, Dp K H x d ∧ Dp K H y e ∧ d.plain = true ∧ e.plain = true ∧ d.depth ≤ 60 ∧ Q (.bl (!PyData.eqv d e)) H
theorem op_eqP {X : Cx} (hu : X.A.units + 64 < cLine) : OpR X (compareOp .Eq) (rEqP X.K) := by
  intro pins s σ H x y v u Q I rx ry h
  obtain ⟨d, e, hd, he, sd, se, hp, q⟩ := h
  obtain ⟨as, r1⟩ := Dp.reads I d x v hd rx
  obtain ⟨bs, r2⟩ := Dp.reads I e y u he ry
  exact PySem.SeqAt.eq_plain r1 r2 sd se (by omega) ⟨.bl _, H, I, rfl, q⟩
theorem op_neP {X : Cx} (hu : X.A.units + 64 < cLine) : OpR X (compareOp .NotEq) (rNeP X.K) := by
  intro pins s σ H x y v u Q I rx ry h
  obtain ⟨d, e, hd, he, sd, se, hp, q⟩ := h
  obtain ⟨as, r1⟩ := Dp.reads I d x v hd rx
  obtain ⟨bs, r2⟩ := Dp.reads I e y u he ry
  exact PySem.SeqAt.ne_plain r1 r2 sd se (by omega) ⟨.bl _, H, I, rfl, q⟩
end Vf

namespace Vf
open PySem L2 PySem.Spec PyProof.Rows He
/-! ### t[::-1] of a pair -/
section
variable {prog : Program} {w : World} {A : Around} {E : Value → Shared → Prop} {s : Shared}
theorem rev2_applied {sl : Addr} {u : Tok} {Q : Int × Int × Nat → Shared → Prop} (hs : s.heap.IsSliceOf sl .none .none (.int (-1) u)) (h : Q (1, -1, 2) s) :
    wpAny (model prog w) A (Builtin.Slice.sliceApplied (.ref sl) (pure ((2 : Nat) : Int))) Q E s := by
  obtain ⟨os, hos, hcs, hds⟩ := id hs
  unfold Builtin.Slice.sliceApplied Builtin.Slice.sliceFields
  refine wpAny_bind (wpAny_bind (wpAny_field hos hds (x := .none) rfl (wpAny_bind (wpAny_field hos hds (x := .none) rfl (wpAny_bind (wpAny_field hos hds (x := .int (-1) u) rfl (wpAny_pure ?_)))))))
  refine wpAny_bind (slicePart_int ?_)
  show wpAny _ _ (if ((-1 : Int) == 0) = true then _ else _) _ _ s
  rw [if_neg (by decide)]
  refine wpAny_bind (slicePart_none (wpAny_bind (slicePart_none (wpAny_bind (wpAny_pure ?_)))))
  show wpAny _ _ (match Builtin.Slice.sliceAdjust none none (-1) ((2 : Nat) : Int) with | (lo, hi) => pure (lo, (-1 : Int), Builtin.Slice.slicePlaces lo hi (-1))) _ _ s
  exact wpAny_pure h
theorem getItem_pair_rev {t sl : Addr} {v0 v1 : Value} {u : Tok} {Q : Value → Shared → Prop} (ht : IsTup s.heap t #[v0, v1]) (hs : s.heap.IsSliceOf sl .none .none (.int (-1) u))
    (h : Q (.ref s.heap.objs.size) { s with heap := s.heap.push { cls := .type "tuple", data := .seq #[v1, v0] } }) : wpAny (model prog w) A (getItem (.ref t) (.ref sl)) Q E s := by
  obtain ⟨os, hos, hcs, hds⟩ := id hs
  have hTs : s.TypeIs (.ref sl) "slice" := ⟨os, hos, hcs⟩
  unfold getItem
  try with_reducible refine wpAny_holding ?_
  first | refine wpAny_bind (wpAny_pure ?_) | skip
  refine wpAny_bind (wpAny_sequenceKey ht.typeIs (by decide) ?_)
  refine wpAny_bind (wpAny_callSpecial?_slot (name := Str.ofString "__getitem__") ht.typeIs PyProof.Rows.slot_tuple_getitem
    (wpAny_call_entry PyProof.Rows.slot_tuple_getitem ht.typeIs entry_tuple_getitem ?_ (args_tuple_getitem _ _)))
  show wpAny _ _ (Builtin.Tuple.tupleItemsOf (.ref t) >>= _) _ _ s
  refine wpAny_bind (tupleItemsOf_ ht ?_)
  refine wpAny_bind (wpAny_typeOf hTs ?_)
  rw [if_pos (by decide)]
  refine wpAny_bind (rev2_applied hs ?_)
  show wpAny _ _ (if (((1 : Int)) == 0 && (-1 : Int) == 1 && ((2 : Nat) == 2)) = true then _ else _) _ _ s
  rw [if_neg (by decide)]
  have hz : sizeOk (.seq #[v1, v0]) := by show (2 : Nat) ≤ sizeLine; decide
  first
    | exact wpAny_bind (m := Builtin.Tuple.tupleExact _) (wpAny_newObj_type (wpAny_pure ⟨_, rfl, wpAny_pure h⟩) hz)
    | exact wpAny_bind (m := Builtin.Tuple.tupleExact _) (wpAny_newObj_type (wpAny_bind (wpAny_pure (wpAny_pure ⟨_, rfl, wpAny_pure h⟩))) hz)
    | exact wpAny_bind (wpAny_bind (m := Builtin.Tuple.tupleExact _) (wpAny_newObj_type (wpAny_pure (wpAny_pure ⟨_, rfl, wpAny_pure h⟩)) hz))
    | exact wpAny_bind (wpAny_bind (m := Builtin.Tuple.tupleExact _) (wpAny_newObj_type (wpAny_pure ⟨_, rfl, wpAny_pure h⟩) hz))
end
section
variable {X : Cx}
def tRevT (K : PySem.W.Frag) (te : TE) : TE := fun σ H Q => te σ H fun x H1 => ∃ a u v, x = .ref a ∧ SqT K H1 a [u, v] ∧ ∀ p, H1 p = none → Q (.ref p) (upd H1 p (.tup [v, u]))
theorem pe_revT {e : Expr} {te : TE} {k : Nat} {p1 p2 p3 pos : Pos} (he : PE X e te) : PE X (.Subscript e (.Slice none none (some (.UnaryOp .USub (.Constant (.int 1) k p1) p2)) p3) pos) (tRevT X.K te) := by
  refine ⟨fun pins s σ H Q I h => ?_⟩
  refine Subscript_ (thn (he.run pins s σ H _ I h) fun v s1 ⟨x, H1, I1, r1, q1⟩ => ?_)
  obtain ⟨a, x0, x1, ex, hx, q⟩ := q1
  subst ex
  cases r1
  have hst : PO X (some (.UnaryOp .USub (.Constant (.int 1) k p1) p2)) (tPart (tUn (rU fun i => .int (-i)) (tC (.int 1)))) := po_some (pe_un un_neg pe_int)
  refine wpAny_Slice (thn (po_none.run pins s1 σ H1 (fun o H2 => o = none ∧ H2 = H1) I1 ⟨rfl, rfl⟩) fun vl s2 ⟨l, H2, I2, pl, el, e2⟩ => ?_)
  subst el e2
  refine thn (po_none.run pins s2 σ H2 (fun o H3 => o = none ∧ H3 = H2) I2 ⟨rfl, rfl⟩) fun vu s3 ⟨u, H3, I3, pu, eu, e3⟩ => ?_
  subst eu e3
  refine thn (hst.run pins s3 σ H3 (fun o H4 => o = some (-1) ∧ H4 = H3) I3 ⟨1, rfl, -1, rfl, rfl, rfl⟩) fun vs s4 ⟨o, H4, I4, ps, eo, e4⟩ => ?_
  subst eo e4
  cases pl
  cases pu
  cases ps with
  | int i tk =>
  have I5 : Inv X pins σ H4 { s4 with heap := s4.heap.push { cls := .type "slice", data := .fields #[.none, .none, .int (-1) tk] } } := I4.kept (t' := s4.toks) fun b ob q => Heap.get?_push_of_some _ q
  obtain ⟨its, r, ht, hz⟩ := I5.tuple hx
  obtain ⟨w0, w1, rfl, rv0, rv1⟩ := vals2 r
  show wpAny (model X.prog X.w) X.A (subscriptTail e (.Slice none none (some (.UnaryOp .USub (.Constant (.int 1) k p1) p2)) p3) (.ref a) (.ref s4.heap.objs.size)) (EP X pins σ Q) X.xe { s4 with heap := s4.heap.push { cls := .type "slice", data := .fields #[.none, .none, .int (-1) tk] } }
  refine tail_any (ops := [.ref a, .ref s4.heap.objs.size]) ht.typeIs PyProof.Rows.slot_tuple_getitem.lookup ?_ (by with_unfolding_all rfl)
  refine getItem_pair_rev ht (Heap.IsSliceOf.new _ _ _ _) ?_
  refine ⟨.ref _, _, I5.laid (t' := s4.toks) (o := .tup [x1, x0]) (fun b ob q => Heap.get?_push_of_some _ q) (Nat.le_refl _) ?_, rfl, q _ (I5.hok.fresh (Nat.le_refl _))⟩
  exact ⟨by show (2 : Nat) ≤ sizeLine; decide, _, .cons rv1 (.cons rv0 .nil), IsTup.new _ _⟩
/-! ### del d[t], the keys tuples -/
def sDDelT (td ty : TE) : TS := fun D σ H => td σ H fun x H1 => ty σ H1 fun y H2 => ∃ a kvs k b, x = .ref a ∧ H2 a = some (.dT kvs) ∧ y = .ref b ∧ H2 b = some (.tup (k.map kV)) ∧ (valV kvs k).isSome = true ∧ D.nx σ (upd H2 a (.dT (dropK kvs k)))
theorem ps_ddelT {o i : Expr} {pos tpos : Pos} {td ty : TE} (hu : X.A.units + 1 < cLine) (ho : PE X o td) (hi : PE X i ty) : PS X (.Delete [.Subscript o i tpos] pos) (sDDelT td ty) := by
  refine ⟨fun pins s σ H D I h => ?_⟩
  refine wpAny_Delete (wpAny_deleteEach_cons (wpAny_delete_Subscript (thn (ho.run pins s σ H _ I h) fun u s1 ⟨x, H1, I1, rx, q1⟩ => thn (hi.run pins s1 σ H1 _ I1 q1) fun iv s2 ⟨y, H2, I2, ry, a, kvs, k, b, ex, e, ey, eb, l, q2⟩ => ?_)))
  subst ex ey
  obtain rfl : u = Value.ref a := rx
  obtain rfl : iv = Value.ref b := ry
  obtain ⟨z, hd, xs, rel, dd⟩ := dt_of I2.hok e
  have hz : xs.length ≤ sizeLine := by rw [← Paired.length rel]; exact z
  obtain ⟨v0, ev⟩ := Option.isSome_iff_exists.mp l
  obtain ⟨w', hw, rw'⟩ := RelO.some_of (v := v0) (o := (atKey xs k).map (·.2)) (by rw [← ev]; exact rel.val k)
  obtain ⟨p, hp, hp2⟩ := Option.map_eq_some_iff.mp hw
  refine wpAny_delItem_heap (hsz := hz) (knd := tupleKind (mixKind X.prog X.w)) (tupleKind_room_in1 hu) (key_of I2.hok eb) hd dd hp fun h' dd' hs => ?_
  obtain ⟨q, es, ep, hq, h2, h3, h4, _, h5⟩ := dd'
  have I3 : Inv X pins σ (upd H2 a (.dT (dropK kvs k))) { s2 with heap := h', toks := s2.toks + (tupleKind (mixKind X.prog X.w)).draws k } :=
    d_write I2 (by rw [e]; exact True.intro) hs ⟨q, hq⟩ ⟨Nat.le_trans (dropK_le kvs k) z, hd, _, (DX.KT_drop k rel).keeps (fun c ys ec => (by rw [upd_ne (ne_of ec e (fun z => nomatch z))]; exact ec)), q, es, ep, hq, h2, h3, h4, h5⟩
  exact wpAny_deleteEach_nil ⟨σ, _, I3, q2⟩
end
end Vf

namespace Vf
open PySem L2 PySem.Spec PyProof.Rows He
theorem un65 {k : Nat} {A : Around} (r : Room k A) : A.units + 65 < cLine := by have := r.un; omega
/-! ### d.values() of a dict whose keys are tuples -/
def Itdt (d : Addr) (o : Obj) (kvs : List (List L2.Key × V)) : It :=
  ⟨fun i H => H d = some (.frz o (.dT kvs)) ∧ i < kvs.length, fun i H x H' => H' = H ∧ ∃ k, kvs[i]? = some (k, x), fun i H => H d = some (.frz o (.dT kvs)) ∧ kvs.length ≤ i⟩
theorem frzTV {X : Cx} {pins : List (Addr × Obj)} {σ : L2.St} {H : Hp} {s : Shared} {d : Addr} {o : Obj} {kvs : List (List L2.Key × V)} (I : Inv X pins σ H s) (h : H d = some (.frz o (.dT kvs))) :
    (d == sysModules) = false ∧ ∃ (es : Array DictEntry) (ep : Nat), o.data = .dict es ep ∧ s.heap.DictRaw d es ep ∧ es.size = kvs.length ∧
      ∀ (i : Nat) (k : List L2.Key) (v : V), kvs[i]? = some (k, v) → ∃ hi : i < es.size, RelV v es[i].val := by
  obtain ⟨hd, z, hs, xs, pr, o', es, ep, ho, hx, hdt, he, _⟩ := I.hok d _ h
  rw [hd] at ho
  cases ho
  have l1 : es.size = xs.length := size_of_entries he
  have l2 : kvs.length = xs.length := Paired.length pr
  refine ⟨hs, es, ep, hdt, ⟨o, hd, hx, hdt⟩, by omega, fun i k v e => ?_⟩
  obtain ⟨b, hb, e1, e2, e3⟩ := L2.paired_get pr e
  have q := entry_at he i
  rw [hb] at q
  obtain ⟨hi, q2⟩ := Array.getElem?_eq_some_iff.mp q
  exact ⟨hi, by rw [q2]; exact e3⟩
section
variable {P : Program} {w : World} {K : PySem.W.Frag} {tg : Expr} {d : Addr} {o : Obj} {es : Array DictEntry} {ep : Nat}
theorem turn_valsT {kvs : List (List L2.Key × V)} (it : Addr) (hod : o.data = .dict es ep) (hz : es.size = kvs.length) : Turn P w K tg (Itdt d o kvs) [it] it (fun i h => h.IsValIter it d i es.size ep) where
  mem := by simp
  obj := fun i h st b hb => by
    have e : b = it := by simpa using hb
    subst e
    obtain ⟨oi, e, c, dd⟩ := st
    exact ⟨oi, e, fun v z => by rw [dd] at z; cases z⟩
  keep := fun i h h' st k => st.at fun oi e => k it (by simp) oi e
  item := by
    intro X hP hw hK hc i pins s σ H E I hf st hg
    subst hP hw hK
    obtain ⟨hd, hi⟩ := hg
    obtain ⟨f0, f1, f2, f3, f4, f5⟩ := hf it (by simp)
    obtain ⟨hs, es', ep', hdt, hm, hsz, ent⟩ := frzTV I hd
    obtain ⟨rfl, rfl⟩ := dict_ep hod hdt
    obtain ⟨⟨k, v⟩, hkv⟩ : ∃ p, kvs[i]? = some p := ⟨kvs[i], List.getElem?_eq_getElem hi⟩
    obtain ⟨hi2, ru⟩ := ent i k v hkv
    refine PySem.wpAny_pyNext_values_item_raw st hm hi2 fun h' st' sb => ?_
    have I1 : Inv X pins σ H { s with heap := h' } := I.turned (t' := s.toks) (fun b ob hb e => (sb.2 b hb).trans e) f0 f1 f3 f4 f5
    obtain ⟨oi, e, c, dd⟩ := id st'
    exact ⟨_, rfl, go_of (s := { s with heap := h' }) e c dd (by decide) ⟨v, H, I1, ru, ⟨rfl, k, hkv⟩, st', fun b hb => (hf b hb).1⟩⟩
  done := by
    intro X hP hw hK hc i pins s σ H E I hf st hg
    subst hP hw hK
    obtain ⟨hd, hi⟩ := hg
    obtain ⟨f0, f1, f2, f3, f4, f5⟩ := hf it (by simp)
    obtain ⟨hs, es', ep', hdt, hm, hsz, ent⟩ := frzTV I hd
    obtain ⟨rfl, rfl⟩ := dict_ep hod hdt
    exact PySem.wpAny_pyNext_values_end_raw (I.ok.hd hc) st hm (by omega) fun h' eb => ⟨rfl, I.turned (t' := s.toks) (fun b ob hb e => eb b ob hb e) f0 f1 f3 f4 f5⟩
  self := fun A i s Q E st h => wpAny_pyIter_valiter st h
end
section
variable {X : Cx} {tg e : Expr} {td : TE} {apos cpos : Pos}
def iValsT (td : TE) : TI := fun σ H R => td σ H fun x H1 => ∃ d o kvs, x = .ref d ∧ H1 d = some (.frz o (.dT kvs)) ∧ R (Itdt d o kvs) H1
theorem pi_valuesT (he : PE X e td) (hbase : attributeBase e "values" X.env (eval e X.env) = eval e X.env := by rfl) (hline : (apos.endLine == cpos.line) = true := by rfl) : PI X tg (.Call (.Attribute e "values" apos) [] [] cpos) (iValsT td) := by
  refine ⟨fun pins s σ H R I h => ?_⟩
  refine wpAny_Call_method (T := "dict") (id := "dict.values") hbase rfl hline F.plainAttrs_dict F.slot_dict_values F.type_dict_values (thn (he.run pins s σ H _ I h) fun u s1 ⟨x, H1, I1, rx, d, o, kvs, ex, hd, q⟩ => ?_)
  subst ex
  obtain rfl : u = Value.ref d := rx
  obtain ⟨hs, es, ep, hdt, hm, hsz, ent⟩ := frzTV I1 hd
  have hnd : ∃ o, s1.heap.get? d = some o ∧ o.ExactDict := by
    obtain ⟨hd2, z, hs2, xs, pr, o', es', ep', ho, hx, _⟩ := I1.hok d _ hd
    exact ⟨o', ho, hx⟩
  obtain ⟨od, hod, hxd⟩ := hnd
  refine ⟨hm.typeIs, fun a ha => (by cases ha; exact ⟨od, hod, hxd.2.1⟩), ?_⟩
  have I2 : Inv X pins σ H1 { s1 with heap := s1.heap.push { cls := .type "dict_values", data := .fields #[.ref d] } } := I1.kept (t' := s1.toks) fun b ob q => Heap.get?_push_of_some _ q
  have fin : wpAny (model X.prog X.w) X.A (pyIter (.ref s1.heap.objs.size)) (PIE X pins σ tg R) X.xe { s1 with heap := s1.heap.push { cls := .type "dict_values", data := .fields #[.ref d] } } := by
    refine PySem.wpAny_pyIter_values_raw (d := d) (es := es) (ep := ep) ⟨_, Heap.get?_push_size _ rfl, rfl, rfl⟩ (hm.at fun _ e => Heap.get?_push_of_some _ e) (pi_one (tk := s1.toks) I2 _ (turn_valsT _ hdt hsz) ⟨_, Heap.get?_push_size _ rfl, rfl, ?_⟩ q)
    rfl
  show wpAny _ _ (callWith cpos (.builtin "dict.values") [.ref d] [] []) _ X.xe s1
  exact method_meetsIn F.slot_dict_values F.entry_dict_values rfl (PySem.evalArgs_none ⟨rfl, hm.typeIs, F.args_dict_values_1 _, _, PySem.meets_dict_values_raw d hs, ⟨es, ep, hm⟩, fin⟩)
theorem walk_valsT {kvs : List (List L2.Key × V)} {d : Addr} {o : Obj} : Walk (Itdt d o kvs) kvs.length (fun H => H d = some (.frz o (.dT kvs))) (fun i H x H' => H' = H ∧ ∃ k, kvs[i]? = some (k, x)) :=
  ⟨fun _ _ hi q => ⟨q, hi⟩, fun _ q => ⟨q, Nat.le_refl _⟩, fun _ _ _ _ _ _ y => y⟩
end
end Vf

namespace Vf
open PySem L2 PySem.Spec PyProof.Rows He
/-- a name that the top imports -/
def bfB (x : Str) (id : String) (K : PySem.W.Frag) : Bool := eqO (PySem.W.nsIn K mainGlobals x) (some (some (.builtin id)))
theorem bfB_ok {K : PySem.W.Frag} {h : Heap} {mg : Str → Option Value} (X : K.In h) (G : h.Ns mainGlobals mg) {x : Str} {id : String} (c : bfB x id K = true) : mg x = some (.builtin id) := PySem.W.mg_of X G (eqO_ok c)
/-- s.index(y), y found -/
theorem mt_idxS {X : Cx} : MtR X "str.index" (fun x xs H Q => ∃ (a b : Str) (k : Nat), x = .str a ∧ xs = [.str b] ∧ Txt.index0 a b = some k ∧ Q (.int (k : Nat)) H) := by
  intro pins s σ H x xs v us Q I rx rs h
  obtain ⟨a, b, k, rfl, rfl, hy, hq⟩ := h
  obtain ⟨t, rfl⟩ := rx
  cases rs with
  | cons r1 rs =>
    cases rs
    obtain ⟨u, rfl⟩ := r1
    cases q : Builtin.Str.occurrences a b 0 a.length 1 with
    | nil =>
      unfold Txt.index0 at hy
      rw [q] at hy
      cases hy
    | cons k' rest =>
      unfold Txt.index0 at hy
      rw [q] at hy
      cases hy
      exact PySem.SC.index q ⟨.int (k : Nat), H, I.tok _, ⟨_, rfl⟩, hq⟩
/-- reversed(range(a, b, c)) -/
def PRg3 (X : Cx) (e : Expr) (t : L2.St → Hp → (Int → Int → Int → Nat → Hp → Prop) → Prop) : Prop :=
  ∀ (pins : List (Addr × Obj)) (s : Shared) (σ : L2.St) (H : Hp) (Q : Int → Int → Int → Nat → Hp → Prop), Inv X pins σ H s → t σ H Q →
    wpAny (model X.prog X.w) X.A (eval e X.env) (fun x s' => ∃ r a b c n t u v H', x = .ref r ∧ IsRange s'.heap r a b c t u v ∧ Builtin.Range.handS_smallRev a b c = true ∧ Builtin.Range.rangeSize a b c = (n : Nat) ∧ Inv X pins σ H' s' ∧ Q a b c n H') X.xe s
def tRg3 (ta : TA) : L2.St → Hp → (Int → Int → Int → Nat → Hp → Prop) → Prop := fun σ H Q => ta σ H fun vs H1 => ∃ i j k n, vs = [.int i, .int j, .int k] ∧ RgC i j k n ∧ Builtin.Range.handS_smallRev i j k = true ∧ Q i j k n H1
theorem prg_3 {X : Cx} {a b c : Expr} {ta : TA} {p pos : Pos} (hg : Gl X "range") (hm : X.mg "range" = none) (ha : PA X [a, b, c] ta)
    (hs : starEach [a, b, c] X.env = (false, eval a X.env) :: starEach [b, c] X.env := by rfl) (hpl : (backTo pos (starEach [b, c] X.env)).any (·.1) = false := by rfl) : PRg3 X (.Call (.Name "range" p) [a, b, c] [] pos) (tRg3 ta) := by
  intro pins s σ H Q I h
  refine Call_ (ld_blt I hg hm boot_range (PyProof.Rows.callWith_type1 (thn (ha.run pos pins s σ H _ I h) fun us s1 ⟨vs, H1, I1, r1, q1⟩ => ?_) hs hpl))
  obtain ⟨i, j, k, n, e, ⟨c0, c1, c2, c3⟩, hr, q⟩ := q1
  subst e
  cases r1 with
  | cons r rr =>
    cases rr with
    | cons r' rr =>
      cases rr with
      | cons r'' rr =>
        cases rr
        obtain ⟨t, rfl⟩ := r
        obtain ⟨t', rfl⟩ := r'
        obtain ⟨t'', rfl⟩ := r''
        exact call_range_3 c0 ⟨_, i, j, k, n, _, _, _, H1, rfl, IsRange.new .., hr, c3, I1.kept fun b u e => Heap.get?_push_of_some _ e, q⟩ (.inl (PyProof.noPylong_small c1))
def iRevR3 (tr : L2.St → Hp → (Int → Int → Int → Nat → Hp → Prop) → Prop) : TI := fun σ H R => tr σ H fun a _ c n H1 => R (Itc (a + ((n : Int) - 1) * c) (-c) n) H1
theorem pi_revR3 {X : Cx} {tg e : Expr} {tr : L2.St → Hp → (Int → Int → Int → Nat → Hp → Prop) → Prop} {p pos : Pos} (hg : Gl X "reversed") (hm : X.mg "reversed" = none) (he : PRg3 X e tr) (hs : starEach [e] X.env = (false, eval e X.env) :: starEach [] X.env := by rfl) :
    PI X tg (.Call (.Name "reversed" p) [e] [] pos) (iRevR3 tr) := by
  refine ⟨fun pins s σ H R I h => ?_⟩
  refine Call_ (ld_blt I hg hm PyProof.Rows.boot_reversed (PyProof.Rows.callWith_type1 (args_cons (thn (he pins s σ H _ I h) fun u s1 hx => args_nil ?_) hs) hs rfl))
  obtain ⟨r, a, b, c, n, t, w1, v, H1, eu, hr, hsm, hn, I1, q⟩ := hx
  subst eu
  refine call_reversed_range hr hsm (wpAny_pyIter_rangeiter (Heap.get?_push_size _ rfl) ?_)
  refine pi_one (tk := s1.toks) I1 _ (turn_rangeC _ (a + ((n : Int) - 1) * c) (-c) n) ?_ q
  have e1 : a + ((n : Int) - 1) * c + ((0 : Nat) : Int) * (-c) = a + (Builtin.Range.rangeSize a b c - 1) * c := by
    rw [hn]
    show _ + (0 : Int) * (-c) = _
    rw [Int.zero_mul, Int.add_zero]
  have e2 : (n : Int) - ((0 : Nat) : Int) = Builtin.Range.rangeSize a b c := by rw [hn]; omega
  show IsRangeIter _ _ (a + ((n : Int) - 1) * c + ((0 : Nat) : Int) * (-c)) ((n : Int) - ((0 : Nat) : Int)) (-c)
  rw [e1, e2]
  exact Heap.get?_push_size _ rfl
theorem pi_tupK {X : Cx} {tg e : Expr} {te : TE} (K : PySem.W.Frag) (h : PE X e te) (hK : X.K = K := by rfl) : PI X tg e (iTup K te) := hK ▸ pi_tup h
theorem pi_listK {X : Cx} {tg e : Expr} {te : TE} (K : PySem.W.Frag) (h : PE X e te) (hK : X.K = K := by rfl) : PI X tg e (iList K te) := hK ▸ pi_list h
end Vf

namespace Vf
open PySem L2 PySem.Spec PyProof.Rows
/-! ### max(xs, key=f): xs a list of references, f an own def whose answers are data of one form -/
theorem run_in {X : Cx} {k : Nat} {f : Addr} {fd : FuncData} {ps : List Str} {sp : Sp} (F : FnOk X.prog X.w X.K X.mg X.base CX0 k f fd ps sp) (hb : Binds X.K fd ps []) {B : Around} (hr : Room k B) (hB : B.frames = X.A.frames)
    {pins : List (Addr × Obj)} {σ : L2.St} {H : Hp} {s : Shared} (I : Inv X pins σ H s) {vs : List V} {us : List Value} (r : Vals vs us) {Q : VK} (h : sp vs H Q E0) {T E : Value → Shared → Prop}
    (hT : ∀ u s', EP X pins σ Q u s' → T u s') : wpAny (model X.prog X.w) B (call (.ref f) us) T E s := by
  have hl : us.length = ps.length := by rw [← r.length]; exact F.len _ _ _ _ h
  have e0 : Env0 X.prog X.w X.K X.mg X.base B X.stack s H := by
    have e := I.env0
    exact ⟨hB.trans e.frames, e.mod, e.bs, e.bsz, e.funs, e.frf, e.hok, e.bare⟩
  have b0 := hb s us I.kIn (by rw [List.append_nil]; exact hl)
  rw [List.append_nil] at b0
  refine wpAny_call (codeAny_mono (F.run B X.stack s H ⟨us, []⟩ us vs Q E0 hr e0 b0 r h) fun r s' hq => ?_)
  cases r with
  | error e => exact False.elim hq
  | ok fl =>
    cases fl with
    | ret u => exact hT u s' (I.after hq)
    | next => exact False.elim hq
    | brk => exact False.elim hq
    | cont => exact False.elim hq
structure MxK (K : PySem.W.Frag) (sp : Sp) (a : Addr) (ps : List Addr) (kd : Nat → PyData) (J : Hp → Prop) : Prop where
  lst : ∀ H, J H → SqL K H a (ps.map V.ref)
  turn : ∀ i p H, ps[i]? = some p → J H → sp [.ref p] H (fun y H' => J H' ∧ (∀ z d, Dp K H z d → Dp K H' z d) ∧ Dp K H' y (kd i)) E0
  alk : ∀ i j, i < ps.length → j < ps.length → PySem.W.alike (kd i) (kd j) = true
  nn : ∀ i, i < ps.length → kd i ≠ .none
  dep : ∀ i, i < ps.length → (kd i).depth ≤ 60
abbrev mxB (kd : Nat → PyData) (i j : Nat) : Bool := PySem.W.dataLt (kd j) (kd i)
theorem argBest_lt (bt : Nat → Nat → Bool) : ∀ j, argBest bt j ≤ j
  | 0 => Nat.le_refl _
  | j + 1 => by
    have ih := argBest_lt bt j
    show (if bt (j + 1) (argBest bt j) = true then j + 1 else argBest bt j) ≤ j + 1
    split <;> omega
def mxS (v : Value) (kb : Value) (c : Nat) : Obj := { cls := .type "list", dict := none, data := .seq #[v, kb] c, slots := #[] }
structure MxSt (X : Cx) (pins : List (Addr × Obj)) (σ : L2.St) (a : Addr) (ps : List Addr) (kd : Nat → PyData) (J : Hp → Prop) (S it : Addr) (j : Nat) (s : Shared) : Prop where
  ex : ∃ (H : Hp) (y : V) (kb : Value) (c : Nat) (p : Addr), Inv X pins σ H s ∧ J H ∧ RelV y kb ∧ Dp X.K H y (kd (argBest (mxB kd) j)) ∧ ps[argBest (mxB kd) j]? = some p ∧ (FpOk X pins H S ∧ FpOk X pins H it) ∧ S ≠ it ∧
    s.heap.get? S = some (mxS (.ref p) kb c) ∧ s.heap.IsListIter it a (j + 1)
section
variable {X : Cx} {k : Nat} {f a : Addr} {fd : FuncData} {nm : List Str} {sp : Sp} {pins : List (Addr × Obj)} {σ : L2.St} {ps : List Addr} {kd : Nat → PyData} {J : Hp → Prop} {S it : Addr} {R : Result → Shared → Prop}
theorem fp_at {H H' : Hp} {b : Addr} (h : FpOk X pins H b) (n : H' b = none) : FpOk X pins H' b := ⟨n, h.2⟩
theorem iter_nocell {h : Heap} {it a : Addr} {i : Nat} (st : h.IsListIter it a i) : ∃ o, h.get? it = some o ∧ ∀ v, o.data ≠ .cell v := by
  obtain ⟨o, e, c, d⟩ := st
  exact ⟨o, e, fun v z => by rw [d] at z; cases z⟩
/-- f at the item, S and the iterator held -/
theorem mx_turn (F : FnOk X.prog X.w X.K X.mg X.base CX0 k f fd nm sp) (hb : Binds X.K fd nm []) (hr : Room (k + 1) X.A) (M : MxK X.K sp a ps kd J) {H : Hp} {s : Shared} {i m : Nat} {p : Addr} {o : Obj} (hp : ps[i]? = some p) (I : Inv X pins σ H s) (hJ : J H)
    (fS : FpOk X pins H S) (fI : FpOk X pins H it) (hS : s.heap.get? S = some o) (hoc : ∀ v, o.data ≠ .cell v) (st : s.heap.IsListIter it a m) {T E : Value → Shared → Prop}
    (hT : ∀ u s' H' y, Inv X pins σ H' s' → J H' → RelV y u → Dp X.K H' y (kd i) → (∀ z d, Dp X.K H z d → Dp X.K H' z d) → FpOk X pins H' S → FpOk X pins H' it → s'.heap.get? S = some o → s'.heap.IsListIter it a m → T u s') :
    wpAny (model X.prog X.w) X.A.in1 (call (.ref f) [.ref p]) T E s := by
  have I' : Inv X (pins ++ pinsAt [S, it] s.heap) σ H s := I.pinned (fp := [S, it]) (fun b hb' => by
      rcases List.mem_cons.mp hb' with e | hb'
      · rw [e]; exact fS
      · rw [List.mem_singleton.mp hb']; exact fI) (fun b hb' => by
      rcases List.mem_cons.mp hb' with e | hb'
      · rw [e]; exact ⟨o, hS, hoc⟩
      · rw [List.mem_singleton.mp hb']; exact iter_nocell st)
  refine run_in F hb hr.in1 rfl I' (vs := [.ref p]) (.cons rfl .nil) (M.turn i p H hp hJ) fun u s' q => ?_
  obtain ⟨y, H', I2, ry, j2, dk, dy⟩ := q
  obtain ⟨oi, hi, ci⟩ := iter_nocell st
  have pS := I2.pin (S, o) (List.mem_append_right _ (List.mem_append_right _ (mem_pinsAt (by simp) hS)))
  have pI := I2.pin (it, oi) (List.mem_append_right _ (List.mem_append_right _ (mem_pinsAt (by simp) hi)))
  refine hT u s' H' y I2.unpinned j2 ry dy dk (fp_at fS pS.2.1) (fp_at fI pI.2.1) pS.1 (st.at fun o' e => ?_)
  rw [hi] at e
  cases e
  exact pI.1
theorem mx_loop (F : FnOk X.prog X.w X.K X.mg X.base CX0 k f fd nm sp) (hb : Binds X.K fd nm []) (hr : Room (k + 1) X.A) (M : MxK X.K sp a ps kd J) (kw : List (Str × Value)) :
    ∀ (m j : Nat) (s : Shared), ps.length - (j + 1) = m → j + 1 ≤ ps.length → MxSt X pins σ a ps kd J S it j s →
    (∀ (H' : Hp) (s' : Shared) (p : Addr), Inv X pins σ H' s' → J H' → ps[argBest (mxB kd) (ps.length - 1)]? = some p → R (.ok (.ret (.ref p))) s') → codeAny (model X.prog X.w) X.A (.builtin "max.loop" ⟨[.ref it, .ref f, .ref S], kw⟩) R s := by
  have hname : (toString "max" ++ toString ".loop" : String) = "max.loop" := by decide
  intro m
  induction m with
  | zero =>
    intro j s hm hj ⟨H, y, kb, c, p, I, hJ, ry, dy, hp, ⟨fS, fI⟩, ne, hS, st⟩ hR
    obtain ⟨its, rv, pl, hz⟩ := I.list (M.lst H hJ)
    have hl := rv.length
    rw [List.length_map] at hl
    refine codeAny_builtin PySem.F.entry_max_loop ?_
    rw [Around.under_plainId PySem.F.plain_max_loop _]
    show wpAny _ X.A.in1 (seqItems? (.ref S) >>= _) _ _ s
    refine wpAny_bind (wpAny_seqItems hS rfl ?_)
    refine wpAny_bind (wpAny_tryCatch ?_)
    refine wpAny_pyNext_list_end hr.hd st pl.isList (by simp; omega) fun h' eb => ?_
    have I1 : Inv X pins σ H { s with heap := h' } := I.turned (t' := s.toks) (fun b o hb e => eb b o hb e) fI.1 fI.2.1 fI.2.2.2.1 fI.2.2.2.2.1 fI.2.2.2.2.2
    have hS' : ({ s with heap := h' } : Shared).heap.get? S = some (mxS (.ref p) kb c) := eb S _ ne hS
    show wpAny _ X.A.in1 (updateSeq S (fun _ => #[]) >>= _) _ _ _
    refine wpAny_bind (wpAny_updateSeq hS' rfl (wpAny_bind (wpAny_letGo (wpAny_pure ?_))))
    have I2 := I1.turned (it := S) (t' := s.toks) (h' := h'.update S (Obj.mapSeq fun _ => #[])) (fun b o hb e => (Heap.get?_update_other _ _ (Ne.symm hb)).trans e) fS.1 fS.2.1 fS.2.2.2.1 fS.2.2.2.2.1 fS.2.2.2.2.2
    refine hR H _ p I2 hJ ?_
    rw [show ps.length - 1 = j from by omega]
    exact hp
  | succ m ih =>
    intro j s hm hj ⟨H, y, kb, c, p, I, hJ, ry, dy, hp, ⟨fS, fI⟩, ne, hS, st⟩ hR
    obtain ⟨its, rv, pl, hz⟩ := I.list (M.lst H hJ)
    have hlt : j + 1 < ps.length := by omega
    have hx : ps[j + 1]? = some ps[j + 1] := List.getElem?_eq_getElem hlt
    obtain ⟨u, hu, ru⟩ := rv.get (i := j + 1) (x := .ref ps[j + 1]) (by rw [List.getElem?_map, hx]; rfl)
    cases ru
    generalize ps[j + 1] = q at hx hu
    refine codeAny_builtin PySem.F.entry_max_loop ?_
    rw [Around.under_plainId PySem.F.plain_max_loop _]
    show wpAny _ X.A.in1 (seqItems? (.ref S) >>= _) _ _ s
    refine wpAny_bind (wpAny_seqItems hS rfl ?_)
    refine wpAny_bind (wpAny_tryCatch ?_)
    refine wpAny_pyNext_list_item st pl.isList (x := .ref q) (by simpa using hu) fun h' st' sb => ?_
    have I1 : Inv X pins σ H { s with heap := h' } := I.turned (t' := s.toks) (fun b o hb e => (sb.2 b hb).trans e) fI.1 fI.2.1 fI.2.2.2.1 fI.2.2.2.2.1 fI.2.2.2.2.2
    have hS' : ({ s with heap := h' } : Shared).heap.get? S = some (mxS (.ref p) kb c) := (sb.2 S ne).trans hS
    refine wpAny_bind (wpAny_tryCatch (wpAny_holding (mx_turn F hb hr M hx I1 hJ fS fI hS' (fun v z => nomatch z) st' fun kx s2 H2 y2 I2 j2 ry2 dy2 dk fS2 fI2 hS2 st2 => ?_)))
    have dy3 := dk _ _ dy
    have hbl := argBest_lt (mxB kd) j
    obtain ⟨as1, r1⟩ := Dp.reads I2 _ _ _ dy2 ry2
    obtain ⟨as2, r2⟩ := Dp.reads I2 _ _ _ dy3 ry
    refine wpAny_bind (wpAny_tryCatch (wpAny_holding (wpAny_bind (PySem.W.gt_data r1 r2 (M.alk _ _ hlt (by omega)) (M.nn _ hlt) (by
      have h1 := Nat.min_le_left (kd (j + 1)).depth (kd (argBest (mxB kd) j)).depth
      have h2 := M.dep _ hlt
      have h3 := hr.un
      show X.A.units + 1 + _ < _
      omega) ?_))))
    refine wpAny_bind (wpAny_holding (wpAny_truthy_bool ?_))
    refine wpAny_bind (wpAny_letGo (wpAny_pure ?_))
    have eB : argBest (mxB kd) (j + 1) = if PySem.W.dataLt (kd (argBest (mxB kd) j)) (kd (j + 1)) = true then j + 1 else argBest (mxB kd) j := rfl
    cases hcmp : PySem.W.dataLt (kd (argBest (mxB kd) j)) (kd (j + 1)) with
    | true =>
      rw [hcmp, if_pos rfl] at eB
      simp only [if_true]
      refine wpAny_bind (wpAny_updateSeq hS2 rfl (wpAny_bind (wpAny_letGo ?_)))
      rw [hname]
      refine wpAny_pure ⟨plainId_quiet PySem.F.plain_max_loop _, ih (j + 1) _ (by omega) hlt ⟨H2, y2, kx, c, q, ?_, j2, ry2, by rw [eB]; exact dy2, by rw [eB]; exact hx, ⟨fS2, fI2⟩, ne, ?_, st2.at fun o e => ?_⟩ hR⟩
      · exact I2.turned (it := S) (t' := s2.toks) (fun b o hb e => (Heap.get?_update_other _ _ (Ne.symm hb)).trans e) fS2.1 fS2.2.1 fS2.2.2.2.1 fS2.2.2.2.2.1 fS2.2.2.2.2.2
      · exact Heap.get?_update_self _ hS2 rfl
      · exact (Heap.get?_update_other _ _ ne).trans e
    | false =>
      rw [hcmp, if_neg Bool.false_ne_true] at eB
      simp only [Bool.false_eq_true, if_false]
      refine wpAny_bind (wpAny_letGo ?_)
      rw [hname]
      exact wpAny_pure ⟨plainId_quiet PySem.F.plain_max_loop _, ih (j + 1) _ (by omega) hlt ⟨H2, y, kb, c, p, I2, j2, ry, by rw [eB]; exact dy3, by rw [eB]; exact hp, ⟨fS2, fI2⟩, ne, hS2, st2⟩ hR⟩
end
section
variable {X : Cx} {k : Nat} {f a : Addr} {fd : FuncData} {nm : List Str} {sp : Sp} {pins : List (Addr × Obj)} {σ : L2.St} {ps : List Addr} {kd : Nat → PyData} {J : Hp → Prop}
theorem mx_start (F : FnOk X.prog X.w X.K X.mg X.base CX0 k f fd nm sp) (hb : Binds X.K fd nm []) (hr : Room (k + 1) X.A) (M : MxK X.K sp a ps kd J) {S it : Addr} {R : Result → Shared → Prop} (kw : List (Str × Value)) (hn : 0 < ps.length) {H : Hp} {s : Shared} {c : Nat} (I : Inv X pins σ H s) (hJ : J H)
    (fS : FpOk X pins H S) (fI : FpOk X pins H it) (ne : S ≠ it) (hS : s.heap.get? S = some { cls := .type "list", dict := none, data := .seq #[] c, slots := #[] }) (st : s.heap.IsListIter it a 0)
    (hR : ∀ (H' : Hp) (s' : Shared) (p : Addr), Inv X pins σ H' s' → J H' → ps[argBest (mxB kd) (ps.length - 1)]? = some p → R (.ok (.ret (.ref p))) s') : codeAny (model X.prog X.w) X.A (.builtin "max.loop" ⟨[.ref it, .ref f, .ref S], kw⟩) R s := by
  have hname : (toString "max" ++ toString ".loop" : String) = "max.loop" := by decide
  obtain ⟨its, rv, pl, hz⟩ := I.list (M.lst H hJ)
  have hx : ps[0]? = some ps[0] := List.getElem?_eq_getElem hn
  obtain ⟨u, hu, ru⟩ := rv.get (i := 0) (x := .ref ps[0]) (by rw [List.getElem?_map, hx]; rfl)
  cases ru
  generalize ps[0] = q at hx hu
  refine codeAny_builtin PySem.F.entry_max_loop ?_
  rw [Around.under_plainId PySem.F.plain_max_loop _]
  show wpAny _ X.A.in1 (seqItems? (.ref S) >>= _) _ _ s
  refine wpAny_bind (wpAny_seqItems hS rfl ?_)
  refine wpAny_bind (wpAny_tryCatch ?_)
  refine wpAny_pyNext_list_item st pl.isList (x := .ref q) (by simpa using hu) fun h' st' sb => ?_
  have I1 : Inv X pins σ H { s with heap := h' } := I.turned (t' := s.toks) (fun b o hb e => (sb.2 b hb).trans e) fI.1 fI.2.1 fI.2.2.2.1 fI.2.2.2.2.1 fI.2.2.2.2.2
  have hS' : ({ s with heap := h' } : Shared).heap.get? S = some { cls := .type "list", dict := none, data := .seq #[] c, slots := #[] } := (sb.2 S ne).trans hS
  refine wpAny_bind (wpAny_tryCatch (wpAny_holding (mx_turn F hb hr M hx I1 hJ fS fI hS' (fun v z => nomatch z) st' fun kx s2 H2 y2 I2 j2 ry2 dy2 dk fS2 fI2 hS2 st2 => ?_)))
  refine wpAny_bind (wpAny_updateSeq hS2 rfl ?_)
  rw [hname]
  refine wpAny_pure ⟨plainId_quiet PySem.F.plain_max_loop _, mx_loop F hb hr M kw _ 0 _ rfl hn ⟨H2, y2, kx, c + 1, q, ?_, j2, ry2, dy2, hx, ⟨fS2, fI2⟩, ne, ?_, st2.at fun o e => ?_⟩ hR⟩
  · exact I2.turned (it := S) (t' := s2.toks) (fun b o hb e => (Heap.get?_update_other _ _ (Ne.symm hb)).trans e) fS2.1 fS2.2.1 fS2.2.2.2.1 fS2.2.2.2.2.1 fS2.2.2.2.2.2
  · exact Heap.get?_update_self _ hS2 rfl
  · exact (Heap.get?_update_other _ _ ne).trans e
/-- the best of a row, the first of equals -/
abbrev mxI (kd : Nat → PyData) (n : Nat) : Nat := argBest (mxB kd) (n - 1)
def rMaxF (K : PySem.W.Frag) (sp : Sp) : List V → Hp → VK → Prop := fun vs H Q => ∃ (a : Addr) (ps : List Addr) (kd : Nat → PyData) (J : Hp → Prop), vs = [.ref a] ∧ 0 < ps.length ∧ J H ∧ MxK K sp a ps kd J ∧
  ∀ H' p, J H' → ps[mxI kd ps.length]? = some p → Q (.ref p) H'
theorem cr_maxF (F : FnOk X.prog X.w X.K X.mg X.base CX0 k f fd nm sp) (hb : Binds X.K fd nm []) (hr : Room (k + 1) X.A) : CallRK X (.builtin "max") [Str.ofString "key"] (fun vs zs H Q => zs = [.ref f] ∧ rMaxF X.K sp vs H Q) := by
  intro pins s σ H vs zs us ws Q I r rz hq
  obtain ⟨rfl, a, ps, kd, J, rfl, hn, hJ, M, q⟩ := hq
  obtain rfl := Vals.ref1 r
  obtain ⟨w1, rfl, e1⟩ := vals1 rz
  obtain rfl : w1 = Value.ref f := e1
  have hname : (toString "max" ++ toString ".loop" : String) = "max.loop" := by decide
  refine PyProof.Rows.kmk_tree PySem.F.kind_max PySem.F.plain_max PySem.F.entry_max (PyProof.Rows.kmk_max_key _ _) ?_
  refine wpAny_bind (wpAny_of_eq (a := [some (.ref f), none]) (by rfl) ?_)
  refine wpAny_bind (wpAny_pure ?_)
  obtain ⟨its, rv, pl, hz⟩ := I.list (M.lst H hJ)
  refine wpAny_bind (wpAny_pyIter_list pl.isList ?_)
  have I1 : Inv X pins σ H { s with heap := s.heap.push { cls := .type "list_iterator", data := .fields #[.ref a, .int 0 0] } } := I.kept (t' := s.toks) fun b o e => Heap.get?_push_of_some _ e
  have fI : FpOk X pins H s.heap.objs.size := I.fpOk (Nat.le_refl _) (I.hok.fresh (Nat.le_refl _))
  have st0 : ({ s with heap := s.heap.push { cls := .type "list_iterator", data := .fields #[.ref a, .int 0 0] } } : Shared).heap.IsListIter s.heap.objs.size a 0 := ⟨_, Heap.get?_push_size _ rfl, rfl, rfl⟩
  generalize hs1 : ({ s with heap := s.heap.push { cls := .type "list_iterator", data := .fields #[.ref a, .int 0 0] } } : Shared) = s1 at I1 st0 ⊢
  have sz1 : s1.heap.objs.size = s.heap.objs.size + 1 := by rw [← hs1]; exact size_push' ..
  have fS : FpOk X pins H s1.heap.objs.size := I1.fpOk (Nat.le_refl _) (I1.hok.fresh (Nat.le_refl _))
  refine wpAny_bind (wpAny_newObj_type ?_)
  rw [hname]
  have I2 : Inv X pins σ H { s1 with heap := s1.heap.push { cls := .type "list", data := .seq #[] 0 } } := I1.kept (t' := s1.toks) fun b o e => Heap.get?_push_of_some _ e
  exact wpAny_pure ⟨plainId_quiet PySem.F.plain_max_loop _, mx_start F hb hr M _ hn I2 hJ fS fI (fun z => by rw [sz1] at z; exact absurd z (Nat.succ_ne_self _)) (Heap.get?_push_size _ rfl) (st0.at fun o e => Heap.get?_push_of_some _ e) fun H' s' p I' hJ' hp => ⟨.ref p, H', I', rfl, q H' p hJ' hp⟩⟩
end
def tMaxF (K : PySem.W.Frag) (sp : Sp) (ta : TA) : TE := fun σ H Q => ta σ H fun vs H1 => rMaxF K sp vs H1 Q
theorem pe_maxF {X : Cx} {k j : Nat} {x : Str} {sp : Sp} {p p2 p3 pos : Pos} {e : Expr} {t : TA} (c : Cal X.prog X.w X.K X.mg X.base k x sp) (hr : Room j X.A) (hk : k + 1 ≤ j) (hg : Gl X "max") (hm : X.mg "max" = none) (hgx : Gl X x) (ha : PA X [e] t)
    (hdb : (x == ("__debug__" : Str)) = false := by decide)
    (he : backTo pos (starEach [e] X.env) = (false, eval e X.env) :: backTo pos (starEach [] X.env) := by rfl) (hpl : (backTo pos (starEach [e] X.env)).any (·.1) = false := by rfl)
    (hall : (backToKw pos (keywordEach [⟨some "key", .Name x p2, p3⟩] X.env)).all (·.1.isSome) = true := by rfl) (hnone : (backToKw pos (keywordEach [⟨some "key", .Name x p2, p3⟩] X.env)).any (·.1.isNone) = false := by rfl) (hks : (backToKw pos (keywordEach [⟨some "key", .Name x p2, p3⟩] X.env)).filterMap (·.1) = [Str.ofString "key"] := by rfl) :
    PE X (.Call (.Name "max" p) [e] [⟨some "key", .Name x p2, p3⟩] pos) (tMaxF X.K sp t) := by
  obtain ⟨f, fd, ps, F, hmx, hkp, hb⟩ := c.ex
  refine ⟨fun pins s σ H Q I h => ?_⟩
  refine wpAny_Call_Name_kw (ld_blt I hg hm (u := .builtin "max") (by first | rfl | decide +kernel) ?_ (by decide) (by decide))
  refine PyProof.Rows.callWith_kw (thn (ha.run pos pins s σ H _ I h) fun us s1 ⟨vs, H1, I1, r1, q1⟩ => thn ((pk_cons (pe_glob (v := .ref f) hgx hmx rfl hdb) pk_nil).run pos pins s1 σ H1 (fun zs H2 => zs = [V.ref f] ∧ rMaxF X.K sp vs H2 Q) I1 ⟨rfl, q1⟩) fun ws s2 ⟨zs, H2, I2, r2, q2⟩ => ?_) he hpl hall hnone
  rw [hks]
  exact cr_maxF F hb (hr.mono hk) pins s2 σ H2 vs zs us ws Q I2 r1 r2 q2
end Vf

namespace Vf
open PySem L2 PySem.Spec PyProof.Rows He
/-! ### a written tuple, known to be a plain one -/
def tTupP (t : TA) : TE := fun σ H Q => t σ H fun xs H1 => xs.length ≤ sizeLine ∧ ∀ p H', H1 p = none → Same H1 H' → PlT H' p xs → (∀ b, b ≠ p → H' b = H1 b) → Q (.ref p) H'
theorem pe_tupP {X : Cx} {es : List Expr} {x1} {pos : Pos} {t : TA} (h : PA X es t) : PE X (.Tuple es x1 pos) (tTupP t) := by
  refine ⟨fun pins s σ H Q I hq => ?_⟩
  refine wpAny_Tuple_spliced (thn (h.run pos pins s σ H _ I hq) fun us s1 ⟨xs, H1, I1, r, z, q⟩ => ⟨by rw [← r.length]; exact z, ?_⟩)
  have hf : H1 s1.heap.objs.size = none := I1.hok.fresh (Nat.le_refl _)
  have J : Inv X pins σ (upd H1 s1.heap.objs.size (.frz { cls := .type "tuple", data := .seq us.toArray } (.tup xs))) { s1 with heap := s1.heap.push { cls := .type "tuple", data := .seq us.toArray } } :=
    I1.laid (t' := s1.toks) (fun b u e => Heap.get?_push_of_some _ e) (Nat.le_refl _) ⟨Heap.get?_push_size _ rfl, z, us, r, ⟨_, Heap.get?_push_size _ rfl, rfl, _, rfl⟩⟩
  exact ⟨.ref s1.heap.objs.size, _, J, rfl, q _ _ hf (same_new hf) ⟨_, rfl, upd_same⟩ fun b hb => upd_ne hb⟩
theorem e_tupP {t : TA} {σ : L2.St} {H : Hp} {Q : VK} (q : t σ H fun xs H1 => xs.length ≤ sizeLine ∧ ∀ p H', H1 p = none → Same H1 H' → PlT H' p xs → (∀ b, b ≠ p → H' b = H1 b) → Q (.ref p) H') : tTupP t σ H Q := q
/-! ### an own class beside lists -/
def clsLB (x : Str) (K : PySem.W.Frag) : Bool := decide (PySem.W.kitOne K (.type "list") (.ref (ga K x)) = some false) && PySem.W.notFirst K (ga K x) (.type "list")
structure ClsL (K : PySem.W.Frag) (x : Str) : Prop where
  lst : PySem.W.kitOne K (.type "list") (.ref (ga K x)) = some false
  nf : PySem.W.notFirst K (ga K x) (.type "list") = true
theorem clsLB_ok {x : Str} {K : PySem.W.Frag} (c : clsLB x K = true) : ClsL K x := by
  unfold clsLB at c
  obtain ⟨c1, c2⟩ := ba c
  exact ⟨of_decide_eq_true c1, c2⟩
/-- x == y, x an instance with its own __eq__; y one too, a tuple or a list -/
def rEqOL (K : PySem.W.Frag) (C : Addr) (sp : Sp) (E : XK) : R2 := fun x y H Q => ∃ (a b dx : Addr) (fs : List (Str × V)), x = .ref a ∧ y = .ref b ∧ H a = some (.ins C dx fs) ∧
  ((∃ (dy : Addr) (gs : List (Str × V)), H b = some (.ins C dy gs)) ∨ (PySem.W.notFirst K C (.type "tuple") = true ∧ ∃ ys, SqT K H b ys) ∨ (PySem.W.notFirst K C (.type "list") = true ∧ ∃ ys, SqL K H b ys)) ∧ sp [x, y] H (fun z H' => ∃ t, z = .bl t ∧ Q z H') E
theorem op_eqOwnL {X : Cx} {CX : CXT} {C f : Addr} {fd : FuncData} {ps : List Str} {sp : Sp} {E : XK} {n : Nat} (F : FnOk X.prog X.w X.K X.mg X.base CX n f fd ps sp)
    (hs : PySem.W.findIn X.K (.ref C) "__eq__" = some (some (.ref f))) (hf : PySem.W.isFn X.K (.ref f) = true) (hb : Binds X.K fd ps []) (hx : Passes CX X E) (hr : Room n X.A) : OpR X (compareOp .Eq) (rEqOL X.K C sp E) := by
  intro pins s σ H x y v u Q I rx ry q
  obtain ⟨a, b, dx, fs, rfl, rfl, ha, hy, hsp⟩ := q
  cases rx
  cases ry
  obtain ⟨mA, J, _⟩ := ins_get I.hok ha
  obtain ⟨od, J, _⟩ := J.look
  obtain ⟨m, hF⟩ := I.fr
  have go : ∀ tb : Value, PySem.W.Looks (model X.prog X.w) s.heap (typeOf (.ref b)) tb → PySem.W.notFirst X.K C tb = true → wpAny (model X.prog X.w) X.A (richCompare .Eq (.ref a) (.ref b)) (EP X pins σ Q) X.xe s := fun tb ht hn => by
    refine PySem.W.cmp_K (op := .Eq) (tb := tb) hr.units0 hF I.ok.mod.kin J ht hn hs hf ?_
    have hl := F.len _ _ _ _ hsp
    have r2 : Vals [V.ref a, V.ref b] [Value.ref a, Value.ref b] := .cons rfl (.cons rfl .nil)
    refine wpAny_call (codeAny_mono (F.run X.A X.stack s H ⟨[.ref a, .ref b], []⟩ [.ref a, .ref b] [.ref a, .ref b] _ E hr I.env0 (by
      have := hb s [.ref a, .ref b] I.kIn (by simpa using hl)
      simpa using this) r2 hsp) fun r s' hq => ?_)
    cases r with
    | error e => exact hx pins σ H s e s' I hq
    | ok fl =>
      cases fl with
      | ret w =>
        obtain ⟨z, H', I', rz, t, ez, hQ⟩ := I.after hq
        subst ez
        cases rz
        exact ⟨.bl t, H', I', rfl, hQ⟩
      | next => exact False.elim hq
      | brk => exact False.elim hq
      | cont => exact False.elim hq
  rcases hy with ⟨dy, gs, hy⟩ | ⟨hn, ys, hy⟩ | ⟨hn, ys, hy⟩
  · obtain ⟨mB, J', _⟩ := ins_get I.hok hy
    obtain ⟨od', J', _⟩ := J'.look
    exact go (.ref C) J'.type (by simp [PySem.W.notFirst])
  · obtain ⟨its, rv, ⟨o, ho, hc, _⟩, _⟩ := I.tuple hy
    exact go (.type "tuple") (fun A Q E s' k z => wpAny_typeOf (T := "tuple") ⟨o, k _ _ ho, hc⟩ z) hn
  · obtain ⟨its, rv, ⟨o, n, ho, hc, _⟩, _⟩ := I.list hy
    exact go (.type "list") (fun A Q E s' k z => wpAny_typeOf (T := "list") ⟨o, k _ _ ho, hc⟩ z) hn
theorem op_eqCL {X : Cx} {k j : Nat} {x : Str} {sp : Sp} (c : EqC X.prog X.w X.K X.mg X.base k x sp) (hr : Room j X.A) (hk : k ≤ j) : OpR X (compareOp .Eq) (rEqOL X.K (ga X.K x) sp E0) := by
  obtain ⟨f, fd, ps, F, hs, hf, hb⟩ := c.ex
  exact op_eqOwnL F hs hf hb pass0 (hr.mono hk)
/-! ### xs != ys, lists of the same objects -/
def rNeR (K : PySem.W.Frag) : R2 := fun x y H Q => ∃ (a b : Addr) (ps : List Addr), x = .ref a ∧ y = .ref b ∧ SqL K H a (ps.map V.ref) ∧ SqL K H b (ps.map V.ref) ∧ Q (.bl false) H
theorem op_neR {X : Cx} {k : Nat} (hr : Room k X.A) : OpR X (compareOp .NotEq) (rNeR X.K) := by
  intro pins s σ H x y v u Q I rx ry q
  obtain ⟨a, b, ps, rfl, rfl, ha, hb, q⟩ := q
  cases rx
  cases ry
  obtain ⟨its, rv, pl, _⟩ := I.list ha
  obtain ⟨its2, rv2, pl2, _⟩ := I.list hb
  have e1 := refs_of rv
  have e2 := refs_of rv2
  subst e1 e2
  have h := SeqAt.RcNeAt.lists (A := X.A) (s := s) (e := fun _ => true) pl.isList pl2.isList rfl hr.units0 fun j h1 h2 => SeqAt.EqAt.same _
  have e0 : ((List.range (ps.map Value.ref).toArray.size).all fun _ => true) = true := List.all_eq_true.mpr fun _ _ => rfl
  rw [e0] at h
  have h2 : SeqAt.RcNeAt X.A s (.ref a) (.ref b) false := h
  exact h2 X.prog X.w X.xe _ ⟨.bl false, H, I, rfl, q⟩
/-! ### data: ints, bools, texts, tuples of ints -/
theorem plain_ints : ∀ xs : List Int, PyData.plainAll (Di xs) = true
  | [] => by simp [PyData.plainAll]
  | x :: xs => by
    show PyData.plainAll (.int x :: Di xs) = true
    rw [PyData.plainAll, plain_ints xs]
    simp [PyData.plain]
theorem e_eqPV {K : PySem.W.Frag} {x y : V} {H : Hp} {Q : VK} {d e : PyData} (h1 : Dp K H x d) (h2 : Dp K H y e) (p1 : d.plain = true) (p2 : e.plain = true) (hd : d.depth ≤ 60) {b : Bool} (hb : PyData.eqv d e = b) (q : Q (.bl b) H) : rEqP K x y H Q := ⟨d, e, h1, h2, p1, p2, hd, by rw [hb]; exact q⟩
theorem e_nePV {K : PySem.W.Frag} {x y : V} {H : Hp} {Q : VK} {d e : PyData} (h1 : Dp K H x d) (h2 : Dp K H y e) (p1 : d.plain = true) (p2 : e.plain = true) (hd : d.depth ≤ 60) {b : Bool} (hb : PyData.eqv d e = b) (q : Q (.bl (!b)) H) : rNeP K x y H Q := ⟨d, e, h1, h2, p1, p2, hd, by rw [hb]; exact q⟩
theorem dp_ti {K : PySem.W.Frag} {H : Hp} {a : Addr} {xs : List Int} (h : SqT K H a (xs.map V.int)) : Dp K H (.ref a) (.tuple (Di xs)) := .tup h (dpAll_ints xs)
theorem e_eqPT {K : PySem.W.Frag} {H : Hp} {Q : VK} {a b : Addr} {xs ys : List Int} (h1 : SqT K H a (xs.map V.int)) (h2 : SqT K H b (ys.map V.int)) (q : Q (.bl (decide (xs = ys))) H) : rEqP K (.ref a) (.ref b) H Q :=
  e_eqPV (dp_ti h1) (dp_ti h2) (by simp [PyData.plain, plain_ints]) (by simp [PyData.plain, plain_ints]) (by
    show PyData.depthAll (Di xs) + 1 ≤ 60
    rw [depthAll_ints]; decide) (eqvAll_ints xs ys) q
end Vf

namespace Vf
open PySem L2 PySem.Spec PyProof.Rows He
/-! ### a dict comprehension over what is walked -/
def DcB (J : It) (g : TG) (tt : TT) (tk tv : TE) (vs : List Nat) (σ : L2.St) (D : Addr) (H1 : Hp) (Q : VK) : Prop := ∃ W : Nat → Nat → Hp → Prop, (∃ m, W 0 m (upd H1 D (.dK []))) ∧ ∀ i m H, W i m H →
  (J.stop i H ∧ Q (.ref D) H) ∨ (J.go i H ∧
    ∃ Nx : Hp → Prop, (∀ H', Nx H' → ∃ m', m' < m ∧ W (i + 1) m' H') ∧
    ∀ x H', J.yld i H x H' → g x (wipe σ vs) H' fun σ2 H2 => wipe σ2 vs = wipe σ vs ∧ tt σ2 H2 fun b H3 =>
    if b = true then tk σ2 H3 fun y H4 =>
      tv σ2 H4 fun z H5 => ∃ kvs k, y = kV k ∧ H5 D = some (.dK kvs) ∧ kvs.length < sizeLine ∧
      Nx (upd H5 D (.dK (putK kvs k z))) else Nx H3)
theorem e_dc {wi : TI} {g : TG} {tt : TT} {tk tv : TE} {vs : List Nat} {σ : L2.St} {H : Hp} {Q : VK} (q : wi σ H fun J H1 => ∀ D, H1 D = none → DcB J g tt tk tv vs σ D H1 Q) : tDc wi g tt tk tv vs σ H Q := q
theorem dc_it {J : It} {n : Nat} {G : Hp → Prop} {Y : Nat → Hp → V → Hp → Prop} (w : Walk J n G Y) {g : TG} {tt : TT} {tk tv : TE} {vs : List Nat} {σ : L2.St} {H1 : Hp} {D : Addr} {Q : VK} (Pv : Nat → Hp → Prop) (h0 : Pv 0 (upd H1 D (.dK []))) (hG : ∀ i H, i ≤ n → Pv i H → G H)
    (hs : ∀ i x H H', i < n → Pv i H → Y i H x H' → g x (wipe σ vs) H' fun σ2 H2 => wipe σ2 vs = wipe σ vs ∧ tt σ2 H2 fun b H3 =>
      if b = true then tk σ2 H3 fun y H4 => tv σ2 H4 fun z H5 => ∃ kvs k, y = kV k ∧ H5 D = some (.dK kvs) ∧ kvs.length < sizeLine ∧ Pv (i + 1) (upd H5 D (.dK (putK kvs k z))) else Pv (i + 1) H3)
    (hd : ∀ H, Pv n H → Q (.ref D) H) : DcB J g tt tk tv vs σ D H1 Q := by
  refine ⟨fun i m H => m = n - i ∧ i ≤ n ∧ Pv i H, ⟨n, by simp, Nat.zero_le _, h0⟩, ?_⟩
  rintro i m H ⟨rfl, hi, p⟩
  by_cases lt : i < n
  · exact .inr ⟨w.goes i H lt (hG i H hi p), Pv (i + 1), fun H' p' => ⟨n - (i + 1), by omega, rfl, lt, p'⟩, fun x H' y => hs i x H H' lt p (w.yields i H x H' lt (hG i H hi p) y)⟩
  · have e : i = n := by omega
    subst e
    exact .inl ⟨w.stops H (hG i H hi p), hd H p⟩
theorem tupOK (K : PySem.W.Frag) {X : Cx} (hK : X.K = K := by rfl) : CallR X (.type "tuple") (fun xs H Q => ∃ p ys, xs = [.ref p] ∧ ((SqL K H p ys ∧ ∀ l, H l = none → Q (.ref l) (upd H l (.tup ys))) ∨ (SqT K H p ys ∧ Q (.ref p) H))) := hK ▸ call_tuple_of
/-! ### dicts that differ in nothing -/
def rNeDD (K : PySem.W.Frag) : R2 := fun x y H Q => ∃ a b ks ls, x = .ref a ∧ y = .ref b ∧ H a = some (.dK ks) ∧ H b = some (.dK ls) ∧ ks.length = ls.length ∧
  (∀ p ∈ ks, ∃ u d, valV ls p.1 = some u ∧ Dp K H p.2 d ∧ Dp K H u d ∧ PySem.W.alike d d = true ∧ d.depth ≤ 60 ∧ PyData.eqv d d = true) ∧ Q (.bl false) H
theorem hits_data {X : Cx} {pins : List (Addr × Obj)} {σ : L2.St} {H : Hp} {s : Shared} (I : Inv X pins σ H s) {A : Around} (hu : A.units + 60 < cLine) {ls : List (L2.Key × V)} {vb : List (L2.Key × Value)} (rb : KV ls vb) {ks : List (L2.Key × V)} {va : List (L2.Key × Value)} (ra : KV ks va) :
    (∀ p ∈ ks, ∃ u d, valV ls p.1 = some u ∧ Dp X.K H p.2 d ∧ Dp X.K H u d ∧ PySem.W.alike d d = true ∧ d.depth ≤ 60 ∧ PyData.eqv d d = true) → PySem.W.KeqHits A s vb va true := by
  unfold KV at ra
  induction ra with
  | nil => intro _; exact .nil
  | @cons p q ps qs h t ih =>
    intro hp
    obtain ⟨h1, h2⟩ := h
    obtain ⟨u, d, e, d1, d2, al, dp, ev⟩ := hp p (List.mem_cons_self ..)
    have rr : RelO (some u) (valueAt vb p.1) := by rw [← e]; exact rb.val p.1
    obtain ⟨y, hy, ry⟩ := rr.some_of
    obtain ⟨key, v⟩ := q
    have h1' : p.1 = key := h1
    rw [h1'] at hy
    obtain ⟨as1, r1⟩ := Dp.reads I d p.2 v d1 h2
    obtain ⟨as2, r2⟩ := Dp.reads I d u y d2 ry
    have eq := PySem.W.eqAt_alike d d A s v y as1 as2 r1 r2 al (by have := Nat.min_le_left d.depth d.depth; omega)
    rw [ev] at eq
    have z := PySem.W.KeqHits.hit hy eq (ih fun p' hm => hp p' (List.mem_cons_of_mem _ hm))
    exact z
theorem op_neDD {X : Cx} (hu : X.A.units + 64 < cLine) : OpR X (compareOp .NotEq) (rNeDD X.K) := by
  intro pins s σ H x y v u Q I rx ry h
  obtain ⟨a, b, ks, ls, rfl, rfl, ea, eb, hlen, hp, q⟩ := h
  obtain rfl : v = Value.ref a := rx
  obtain rfl : u = Value.ref b := ry
  obtain ⟨_, ya, va, ra, da⟩ := (show ObjOk X.prog X.w H s.heap a (.dK ks) from I.hok a _ ea)
  obtain ⟨_, yb, vb, rb, db⟩ := (show ObjOk X.prog X.w H s.heap b (.dK ls) from I.hok b _ eb)
  have hl : va.length = vb.length := by rw [← ra.length, ← rb.length]; exact hlen
  refine PySem.W.keq_ne (knd := mixKind X.prog X.w) (r := true) ya yb da db (by omega) (fun _ => hits_data I (by show X.A.units + 1 + 60 < cLine; omega) rb ra hp) ?_
  rw [show (va.length == vb.length && true) = true from by rw [hl]; simp]
  exact ⟨.bl false, H, I, rfl, q⟩
end Vf

/-! set(xs), xs a list of ints: as HandS.SetFor has it for a tuple; sorted of it by cr_sortedSet. -/
namespace Vf
open PySem L2 PySem.Spec PyProof.Rows He
section
variable {P : Program} {w : World} {A : Around} {E : Value → Shared → Prop} {s : Shared}
/-- the new set as it is made -/
abbrev emptyS (w : World) : Obj := { cls := .type "set", dict := none, data := .set #[] 0 (.fresh 0 0 (!w.params.followText "set-order")) }
theorem set_of_ints {l : Addr} {its : Array Value} (ns : List Int) {Q : Value → Shared → Prop}
    (h0 : A.handled = none) (isl : s.heap.IsList l its) (hin : IntsAre its.toList ns)
    (small : ns.length + 1 < scanBound)
    (q : ∀ (g : Heap) (tk n : Nat), SetR w g s.heap.objs.size (fun j => decide (j ∈ ns)) n → n ≤ ns.length →
      (∀ b o, s.heap.get? b = some o → g.get? b = some o) →
      Q (.ref s.heap.objs.size) { s with heap := g, toks := tk }) :
    wpAny (model P w) A (call (.type "set") [.ref l]) Q E s := by
  have size : its.size = ns.length := by
    rw [← IntsAre.length hin]; exact Array.length_toList.symm
  obtain ⟨_, _, mro⟩ := F.called_set.mro
  have made := F.called_set.made; have sub := F.called_set.sub
  have e1 := F.called_set.notType; have e2 := F.called_set.canCreate
  have e3 := F.typeCall_set_1 (.ref l)
  refine wpAny_call (codeAny_of_tree ?_)
  show wpAny _ _ (callAny (.type "set") _) _ _ _
  refine wpAny_pure ⟨Code.quiet_builtin _ (by decide +kernel),
    codeAny_builtin F.entry_type_call ?_⟩
  rw [Around.under_plain (weight_type_call_type "set" [.ref l] []) rfl]
  repeat (any_goals (first | assumption | wp_step))

  refine codeAny_mono (code_set_led1 (.ref l) (E := E)
    (Q₁ := fun r t => r = .ref s.heap.objs.size ∧ t = { s with heap := s.heap.push (emptyS w) })
    ⟨rfl, rfl⟩) fun r t hr => ?_
  rcases r with e | fl
  · exact hr
  cases fl with
  | ret obj =>
    obtain ⟨rfl, rfl⟩ := hr
    have at1 : (s.heap.push (emptyS w)).get? s.heap.objs.size = some (emptyS w) := Heap.get?_push_size _ rfl
    have ty1 : Shared.TypeIs { s with heap := s.heap.push (emptyS w) } (.ref s.heap.objs.size) "set" := ⟨_, at1, rfl⟩
    have look := F.called_set.init.lookup
    have bind := F.called_set.init.bind (.ref s.heap.objs.size)
    repeat (any_goals (first | assumption | wp_step))

    refine codeAny_mono (codeAny_call_builtin
      (R := wants (fun r t => r = .none ∧ ∃ g tk n, t = { s with heap := g, toks := tk } ∧
        SetR w g s.heap.objs.size (fun j => decide (j ∈ ns)) n ∧ n ≤ ns.length ∧
        (∀ b o, s.heap.get? b = some o → g.get? b = some o)) E)
      F.called_set.init.plain F.entry_set_init (check_set_init_1 ty1 ?_)) fun r2 t2 hr2 => ?_
    · have isl1 : (s.heap.push (emptyS w)).IsList l its := isl.push _
      have d1 := F.sub_list_set
      have d2 := F.sub_list_frozenset
      have nd : (Value.type "list" == Value.type "dict") = false := by decide
      obtain ⟨ol, hol, hcl, nl, hdl⟩ := id isl
      obtain ⟨oc, od, odt, osl⟩ := ol
      simp only at hcl hdl
      subst hcl; subst hdl
      have hol1 := Heap.get?_push_of_some (emptyS w) hol
      unfold Builtin.«set.__init__» noKeywords Builtin.Frozenset.updateFrom
      generalize hPI : pyIter = PI
      wp_walk
      subst hPI

      refine wpAny_pyIter_list isl1 ?_
      refine wpAny_bind (wpAny_runValue ?_)
      have lt : l < s.heap.objs.size := Heap.lt_size hol
      have h3 : A.in1.in1.in1.handled = none := by simp [h0]
      have sz : (s.heap.push (emptyS w)).objs.size = s.heap.objs.size + 1 := Heap.size_push ..
      have n1 : l ≠ (s.heap.push (emptyS w)).objs.size := by rw [sz]; exact Nat.ne_of_lt (Nat.lt_succ_of_lt lt)
      have n2 : s.heap.objs.size ∉ [(s.heap.push (emptyS w)).objs.size, l] := by
        rw [sz]
        intro m
        rcases List.mem_cons.mp m with z | z
        · exact Nat.succ_ne_self _ z.symm
        · exact Nat.ne_of_gt lt (List.mem_singleton.mp z)
      have val : ∀ (i : Nat) (v : Value), its[i]? = some v → ∃ k t, ns[i]? = some k ∧ v = .int k t := fun i v hv => by
        have hi : i < ns.length := by rw [← size]; exact (Array.getElem?_eq_some_iff.mp hv).1
        obtain ⟨t, e⟩ := IntsAre.int_at hin i v (by rw [Array.getElem?_toList]; exact hv)
        rw [List.getD_eq_getElem?_getD, List.getElem?_eq_getElem hi] at e
        exact ⟨ns[i], t, List.getElem?_eq_getElem hi, e⟩
      refine set_update_ints ((Walks.list h3 _ l n1 its).toS) s.heap.objs.size n2 ns size small val
        (its.size - 0) 0 _ (by omega) (Nat.zero_le _)
        ⟨⟨_, Heap.get?_push_size _ rfl, rfl, rfl⟩, isl1.push _⟩
        ⟨0, Nat.le_refl 0, setR_new_at (Heap.get?_push_of_some _ at1)⟩ fun t' n mv le R => ?_
      obtain ⟨g, g2, dr, tk, os⟩ := t'
      have eg : g2 = s.gens := mv.gens
      have ed : dr = s.drawn := mv.drawn
      have eo : os = s.os := mv.os
      subst eg ed eo
      rw [size] at le
      show wpAny _ _ _ _ _ _
      refine wpAny_pure ?_
      show wpAny _ _ (ret Value.none) _ _ _
      refine wpAny_pure ⟨rfl, g, tk, n, rfl, R, le, fun b o e => ?_⟩
      have lb : b < s.heap.objs.size := Heap.lt_size e
      refine mv.heap b o (fun m => ?_) (Heap.get?_push_of_some _ (Heap.get?_push_of_some _ e))
      rcases List.mem_cons.mp m with z | z
      · exact Nat.ne_of_lt lb z
      · have := List.mem_singleton.mp z
        rw [sz] at this
        exact Nat.ne_of_lt (Nat.lt_succ_of_lt lb) this
    · rcases r2 with e | fl2
      · exact hr2
      cases fl2 with
      | ret r =>
        obtain ⟨rfl, g, tk, n, rfl, h1, h2, h3⟩ := hr2
        repeat (any_goals (first | assumption | wp_step))
        exact q _ _ _ h1 h2 h3
      | _ => exact hr2.elim
  | _ => exact hr.elim
end
/-- set(xs), xs a list of ints -/
def rSetL (K : PySem.W.Frag) (w : World) : List V → Hp → VK → Prop := fun xs H Q => ∃ (p : Addr) (ns : List Int), xs = [.ref p] ∧ SqL K H p (ns.map V.int) ∧ ns.length ≤ 1000 ∧
  ∀ a n, H a = none → n ≤ ns.length → Q (.ref a) (upd H a (SetO w a (fun j => decide (j ∈ ns)) n))
theorem cr_setL {X : Cx} (hc : X.calm = true) : CallR X (.type "set") (rSetL X.K X.w) := by
  intro pins s σ H xs us Q I r h
  obtain ⟨p, ns, rfl, hq, hl, q⟩ := h
  obtain ⟨u, rfl, rx⟩ := vals1 r
  cases rx
  obtain ⟨its, rv, pl, hz⟩ := I.list hq
  refine set_of_ints ns (I.ok.hd hc) pl.isList (by simpa using ints_of_vals rv) (by unfold scanBound; omega) fun g tk n R le k => ?_
  exact ⟨.ref s.heap.objs.size, _, I.laid (t' := tk) k (Nat.le_refl _) (setO_new R), rfl, q _ n (I.hok.fresh (Nat.le_refl _)) le⟩
end Vf
namespace Vf
open PySem L2 PySem.Spec PyProof.Rows He
theorem niDK (K : PySem.W.Frag) {X : Cx} (hu : X.A.units + 65 < cLine) (hK : X.K = K := by rfl) : OpR X (compareOp .NotIn) (rNotInD K) := hK ▸ op_notInD hu
/-! ### [e for x in xs for y in f(x)] -/
/-- the inner clause's turns, Nx where it ends -/
def Inn (J1 : It) (g1 : TG) (tt1 : TT) (te : TE) (vs1 : List Nat) (σ2 : L2.St) (D : Addr) (H4 : Hp) (Nx : Hp → Prop) : Prop :=
  ∃ W1 : Nat → Nat → Hp → Prop, (∃ m, W1 0 m H4) ∧ ∀ j k H, W1 j k H → (J1.stop j H ∧ Nx H) ∨ (J1.go j H ∧
    ∃ Nx1 : Hp → Prop, (∀ H', Nx1 H' → ∃ k', k' < k ∧ W1 (j + 1) k' H') ∧
    ∀ x H', J1.yld j H x H' → g1 x (wipe σ2 vs1) H' fun σ3 H5 => wipe σ3 vs1 = wipe σ2 vs1 ∧ tt1 σ3 H5 fun b H6 =>
      if b = true then te σ3 H6 fun y H7 => ∃ acc, H7 D = some (.lst acc) ∧ acc.length < sizeLine ∧ Nx1 (upd H7 D (.lst (acc ++ [y])))
      else Nx1 H6)
def Lc2B (J : It) (g : TG) (tt : TT) (wi1 : TI) (g1 : TG) (tt1 : TT) (te : TE) (vs vs1 : List Nat) (σ : L2.St) (D : Addr) (H1 : Hp) (Q : VK) : Prop :=
  ∃ W : Nat → Nat → Hp → Prop, (∃ m, W 0 m (upd H1 D (.lst []))) ∧ ∀ i m H, W i m H → (J.stop i H ∧ Q (.ref D) H) ∨ (J.go i H ∧
    ∃ Nx : Hp → Prop, (∀ H', Nx H' → ∃ m', m' < m ∧ W (i + 1) m' H') ∧
    ∀ x H', J.yld i H x H' → g x (wipe σ vs) H' fun σ2 H2 => wipe σ2 vs = wipe σ vs ∧ tt σ2 H2 fun b H3 =>
      if b = true then wi1 σ2 H3 fun J1 H4 => Inn J1 g1 tt1 te vs1 σ2 D H4 Nx else Nx H3)
theorem e_lc2 {wi wi1 : TI} {g g1 : TG} {tt tt1 : TT} {te : TE} {vs vs1 : List Nat} {σ : L2.St} {H : Hp} {Q : VK}
    (q : wi σ H fun J H1 => ∀ D, H1 D = none → Lc2B J g tt wi1 g1 tt1 te vs vs1 σ D H1 Q) : tLc2 wi g tt wi1 g1 tt1 te vs vs1 σ H Q := q
theorem inn_it {J : It} {n : Nat} {G : Hp → Prop} {Y : Nat → Hp → V → Hp → Prop} (w : Walk J n G Y) {g : TG} {tt : TT} {te : TE} {vs : List Nat} {σ : L2.St} {D : Addr} {H1 : Hp} {Nx : Hp → Prop}
    (Pv : Nat → Hp → Prop) (h0 : Pv 0 H1) (hG : ∀ i H, i ≤ n → Pv i H → G H)
    (hs : ∀ i x H H', i < n → Pv i H → Y i H x H' → g x (wipe σ vs) H' fun σ2 H2 => wipe σ2 vs = wipe σ vs ∧ tt σ2 H2 fun b H3 =>
      if b = true then te σ2 H3 fun y H4 => ∃ acc, H4 D = some (.lst acc) ∧ acc.length < sizeLine ∧ Pv (i + 1) (upd H4 D (.lst (acc ++ [y]))) else Pv (i + 1) H3)
    (hd : ∀ H, Pv n H → Nx H) : Inn J g tt te vs σ D H1 Nx := by
  refine ⟨fun i m H => m = n - i ∧ i ≤ n ∧ Pv i H, ⟨n, by simp, Nat.zero_le _, h0⟩, ?_⟩
  rintro i m H ⟨rfl, hi, p⟩
  by_cases lt : i < n
  · exact .inr ⟨w.goes i H lt (hG i H hi p), Pv (i + 1), fun H' p' => ⟨n - (i + 1), by omega, rfl, lt, p'⟩, fun x H' y => hs i x H H' lt p (w.yields i H x H' lt (hG i H hi p) y)⟩
  · have e : i = n := by omega
    subst e
    exact .inl ⟨w.stops H (hG i H hi p), hd H p⟩
theorem lc2_it {J : It} {n : Nat} {G : Hp → Prop} {Y : Nat → Hp → V → Hp → Prop} (w : Walk J n G Y) {g g1 : TG} {tt tt1 : TT} {te : TE} {wi1 : TI} {vs vs1 : List Nat} {σ : L2.St} {D : Addr} {H1 : Hp} {Q : VK}
    (Pv : Nat → Hp → Prop) (h0 : Pv 0 (upd H1 D (.lst []))) (hG : ∀ i H, i ≤ n → Pv i H → G H)
    (hs : ∀ i x H H', i < n → Pv i H → Y i H x H' → g x (wipe σ vs) H' fun σ2 H2 => wipe σ2 vs = wipe σ vs ∧ tt σ2 H2 fun b H3 =>
      if b = true then wi1 σ2 H3 fun J1 H4 => Inn J1 g1 tt1 te vs1 σ2 D H4 (Pv (i + 1)) else Pv (i + 1) H3)
    (hd : ∀ H, Pv n H → Q (.ref D) H) : Lc2B J g tt wi1 g1 tt1 te vs vs1 σ D H1 Q := by
  refine ⟨fun i m H => m = n - i ∧ i ≤ n ∧ Pv i H, ⟨n, by simp, Nat.zero_le _, h0⟩, ?_⟩
  rintro i m H ⟨rfl, hi, p⟩
  by_cases lt : i < n
  · exact .inr ⟨w.goes i H lt (hG i H hi p), Pv (i + 1), fun H' p' => ⟨n - (i + 1), by omega, rfl, lt, p'⟩, fun x H' y => hs i x H H' lt p (w.yields i H x H' lt (hG i H hi p) y)⟩
  · have e : i = n := by omega
    subst e
    exact .inl ⟨w.stops H (hG i H hi p), hd H p⟩
end Vf

/-! set(xs), xs a list of texts, and sorted of it; xs.remove(x) where the items are data. -/
namespace Vf
open PySem L2 PySem.Spec PyProof.Rows He
abbrev tk_ (P : Program) (w : World) := PySem.strKind P w
def txOf (e : Int × Value) : Str := match e.2 with | .str x _ => x | _ => Str.empty
def TxE (w : World) (e : Int × Value) : Prop := ∃ x u, e.2 = Value.str x u ∧ e.1 = hashStr w x
/-- the set at a has the texts L -/
def TxS (w : World) (h : Heap) (a : Addr) (L : List Str) : Prop :=
  ∃ ob arr ep tb, h.get? a = some ob ∧ ob.ExactSet ∧ ob.data = .set arr ep tb ∧ (∀ e ∈ arr.toList, TxE w e)
    ∧ (arr.toList.map txOf).Perm L ∧ L.Nodup ∧ L.length < scanBound ∧ tb.fits arr.size = true
    ∧ Ris tb.place.toList ∧ (w.params.followText "set-order" = true ∨ tb.led = true)
theorem TxS.to {w : World} {h g : Heap} {a : Addr} {L : List Str} (t : TxS w h a L) (k : ∀ o, h.get? a = some o → g.get? a = some o) : TxS w g a L := by
  obtain ⟨ob, arr, ep, tb, h1, r⟩ := t
  exact ⟨ob, arr, ep, tb, k _ h1, r⟩
section
variable {P : Program} {w : World} {A : Around} {E : Value → Shared → Prop} {s : Shared}
theorem tx_kinds {l : List (Int × Value)} (g : ∀ e ∈ l, TxE w e) : ElemsOf (tk_ P w) l := fun e m => by
  obtain ⟨x, u, e1, e2⟩ := g e m
  exact ⟨⟨x, by rw [e1]; exact PySem.strKind_is P w x u, e2⟩, by rw [e1]; rfl⟩
theorem tx_is {e : Int × Value} (g : TxE w e) (x : Str) : (tk_ P w).is x e.2 = true ↔ txOf e = x := by
  obtain ⟨y, u, e1, _⟩ := g
  have h1 : txOf e = y := by unfold txOf; rw [e1]
  rw [h1, e1]
  constructor
  · intro q
    exact (tk_ P w).inj _ _ _ (PySem.strKind_is P w y u) q
  · rintro rfl
    exact PySem.strKind_is P w y u
theorem tx_size {arr : Array (Int × Value)} {L : List Str} (p : (arr.toList.map txOf).Perm L) : arr.size = L.length := by
  have := p.length_eq
  rw [List.length_map] at this
  rw [← this]
  exact Array.length_toList.symm
/-- where the new one is stored -/
theorem tx_store {gv : Bool → Sem Unit} (hgv : ∀ (b : Bool) (s1 : Shared) (R : Unit → Shared → Prop), R () s1 → wpAny (model P w) A (gv b) R E s1)
    {a : Addr} {ob : Obj} {arr : Array (Int × Value)} {ep : Nat} {tb : SetTable}
    (e0 : s.heap.get? a = some ob) (ex : ob.ExactSet) (ed : ob.data = .set arr ep tb)
    {arr1 : Array (Int × Value)} {tb1 : SetTable} {L : List Str}
    (g1 : ∀ e ∈ arr1.toList, TxE w e) (p1 : (arr1.toList.map txOf).Perm L) (n1 : L.Nodup) (b1 : L.length < scanBound)
    (f1 : tb1.fits arr1.size = true) (r1 : Ris tb1.place.toList) (l1 : w.params.followText "set-order" = true ∨ tb1.led = true)
    {dm : Bool} {R : Option Bool → Shared → Prop}
    (q : ∀ g, Heap.SameBut a s.heap g → TxS w g a L → R (some true) { s with heap := g }) :
    wpAny (model P w) A (do
      storeSet a arr1 tb1
      if (!dm && tb1.tooFull) = true then do
        gv (relayAll tb1 arr1 (SetTable.grown arr1.size)).2.2
        storeSet a (relayAll tb1 arr1 (SetTable.grown arr1.size)).1 (relayAll tb1 arr1 (SetTable.grown arr1.size)).2.1
        pure (some true)
      else pure (some true)) R E s := by
  have bs : arr1.size < scanBound := by rw [tx_size p1]; exact b1
  refine wpAny_bind (wpAny_storeSet_of e0 ed ?_ (fits_of_scanBound bs))
  have e1 := store_at (es' := arr1) (t' := tb1) e0 ed
  have sb := Heap.SameBut.update s.heap a (Obj.putSet arr1 tb1)
  by_cases c : (!dm && tb1.tooFull) = true
  · rw [if_pos c]
    have pm := relayAll_perm tb1 arr1 (SetTable.grown arr1.size)
    have pf := relayAll_fits tb1 arr1 (SetTable.grown arr1.size)
    have pr := relayAll_ris tb1 arr1 (SetTable.grown arr1.size)
    have pl := relayAll_led tb1 arr1 (SetTable.grown arr1.size)
    revert pm pf pr pl
    generalize relayAll tb1 arr1 (SetTable.grown arr1.size) = rel
    obtain ⟨arr2, tb2, gave⟩ := rel
    intro pm pf pr pl
    dsimp only at pm pf pr pl ⊢
    have p2 : (arr2.toList.map txOf).Perm L := (pm.map txOf).trans p1
    have bs2 : arr2.size < scanBound := by rw [tx_size p2]; exact b1
    refine wpAny_bind (hgv _ _ _ ?_)
    refine wpAny_bind (wpAny_storeSet_of e1 rfl ?_ (fits_of_scanBound bs2))
    have e2 := store_at (es' := arr2) (t' := tb2) e1 rfl
    refine wpAny_pure (q _ (sb.trans (Heap.SameBut.update _ a _)) ?_)
    refine ⟨_, arr2, _, tb2, e2, ex, rfl, fun e m => g1 e (pm.mem_iff.mp m), p2, n1, b1, pf, pr, ?_⟩
    exact l1.imp id fun z => pl.trans z
  · rw [if_neg c]
    exact wpAny_pure (q _ sb ⟨_, arr1, _, tb1, e1, ex, rfl, g1, p1, n1, b1, f1, r1, l1⟩)
/-- one text more -/
theorem tx_add {a : Addr} {L : List Str} {x : Str} {u : Tok} {Q : Bool → Shared → Prop} (t : TxS w s.heap a L) (room : L.length + 1 < scanBound)
    (q1 : x ∈ L → Q false s) (q2 : x ∉ L → ∀ g, Heap.SameBut a s.heap g → TxS w g a (x :: L) → Q true { s with heap := g }) :
    wpAny (model P w) A (setAddHashed a (.str x u) ((tk_ P w).hash x)) Q E s := by
  obtain ⟨ob, arr, ep, tb, e0, ex, ed, g, p, n, b, f, r, l⟩ := t
  have hx : (tk_ P w).is x (.str x u) = true := PySem.strKind_is P w x u
  have hs : (Value.str x u).scannable = true := rfl
  have bs : arr.size < scanBound := by rw [tx_size p]; exact b
  have el : ElemsOf (tk_ P w) arr.toList := tx_kinds g
  have mem : x ∈ L ↔ ∃ e ∈ arr.toList, (tk_ P w).is x e.2 = true := by
    rw [← p.mem_iff, List.mem_map]
    exact ⟨fun ⟨e, m, h⟩ => ⟨e, m, (tx_is (g e m) x).2 h⟩, fun ⟨e, m, h⟩ => ⟨e, m, (tx_is (g e m) x).1 h⟩⟩
  unfold setAddHashed setAddHashedIn
  refine wpAny_holding (wpAny_bind (wpAny_setState_of e0 ed f ?_))
  dsimp only
  rw [byScan_of hs bs el]
  simp only [↓reduceIte]
  unfold setAddByScan
  refine wpAny_bind ?_
  refine wpAny_bind (wpAny_rule ?_)
  refine wpAny_bind (wpAny_setScan_of hx e0 ed f el ?_)
  cases fi : List.findIdx? (fun e => (tk_ P w).is x e.2) arr.toList with
  | some j =>
    dsimp only
    obtain ⟨hj, pj, _⟩ := List.findIdx?_eq_some_iff_getElem.mp fi
    exact wpAny_pure (wpAny_pure (q1 (mem.2 ⟨_, List.getElem_mem hj, pj⟩)))
  | none =>
    dsimp only
    have nx : x ∉ L := fun m => by
      obtain ⟨e, m2, h⟩ := mem.1 m
      have z := List.findIdx?_eq_none_iff.mp fi e m2
      rw [h] at z
      cases z
    have gw : ∀ (c : Bool) {s1 : Shared} {R : Unit → Shared → Prop}, R () s1 → wpAny (model P w) A (match c with | true => rule "set.scan.the-table-gave-way" | false => pure ()) R E s1 := fun c s1 R h => by
      cases c
      · exact wpAny_pure h
      · exact wpAny_rule h
    have pm := layNew_perm tb arr ((tk_ P w).hash x) (.str x u)
    have pf := layNew_fits tb arr ((tk_ P w).hash x) (.str x u)
    have pr := layNew_ris tb arr ((tk_ P w).hash x) (.str x u) r
    have pl := layNew_led tb arr ((tk_ P w).hash x) (.str x u)
    revert pm pf pr pl
    generalize layNew tb arr ((tk_ P w).hash x) (.str x u) = new
    obtain ⟨arr1, tb1, dm, gave⟩ := new
    intro pm pf pr pl
    dsimp only at pm pf pr pl ⊢
    rw [Array.toList_push] at pm
    have pc : arr1.toList.Perm (((tk_ P w).hash x, Value.str x u) :: arr.toList) := pm.trans (List.perm_append_singleton _ _)
    have p1 : (arr1.toList.map txOf).Perm (x :: L) := (pc.map txOf).trans (p.cons x)
    have g1 : ∀ e ∈ arr1.toList, TxE w e := fun e m => by
      rcases List.mem_cons.mp (pc.mem_iff.mp m) with z | z
      · exact ⟨x, u, by rw [z], by rw [z]; rfl⟩
      · exact g e z
    have n1 : (x :: L).Nodup := List.nodup_cons.mpr ⟨nx, n⟩
    have b1 : (x :: L).length < scanBound := room
    have l1 : w.params.followText "set-order" = true ∨ tb1.led = true := l.imp id fun z => pl.trans z
    have fin := fun g' sb r' => q2 nx g' sb r'
    refine wpAny_bind (gw _ ?_)
    split
    · refine wpAny_bind ?_
      rw [hashByValue_scannable 8 hs]
      refine wpAny_pure ?_
      refine tx_store ?_ e0 ex ed g1 p1 n1 b1 ?_ ?_ ?_ ?_
      · intro c s1 R h; exact gw c h
      · first | (split <;> first | exact pf | exact SetTable.fits_plain_off pf) | exact pf
      · first | (split <;> exact pr) | exact pr
      · first | (split <;> exact l1) | exact l1
      · intro g' sb r'; dsimp only; exact wpAny_pure (fin g' sb r')
    · refine wpAny_bind (wpAny_pure ?_)
      simp only [↓reduceIte]
      refine tx_store ?_ e0 ex ed g1 p1 n1 b1 pf pr l1 ?_
      · intro c s1 R h; exact gw c h
      · intro g' sb r'; dsimp only; exact wpAny_pure (fin g' sb r')
/-- the set takes all of a list -/
theorem tx_loop {I : Addr} {fp wr : List Addr} {G : Array GenState → Array GenState → Prop} {n : Nat} {Pv : Nat → Value → Prop} {St : Nat → Shared → Prop} {R : Result → Shared → Prop}
    (W : WalksS P w A.in1 I fp wr G n Pv St) (a : Addr) (na : a ∉ fp) (xs : List Str) (hn : n = xs.length) (room : xs.length + 1 < scanBound)
    (pv : ∀ i v, Pv i v → ∃ x u, xs[i]? = some x ∧ v = .str x u) :
    ∀ (k i : Nat) (s : Shared), n = i + k → St i s →
      (∃ L, L.length ≤ i ∧ (∀ x, x ∈ L ↔ x ∈ xs.take i) ∧ TxS w s.heap a L) →
      (∀ s' L, Moved (a :: wr) G s s' → L.length ≤ n → (∀ x, x ∈ L ↔ x ∈ xs) → TxS w s'.heap a L → R (.ok (.ret .none)) s') →
      codeAny (model P w) A (.builtin "set.update.loop" ⟨[.ref a, .ref I], []⟩) R s := by
  have nw : a ∉ wr := fun z => na (W.sub _ z)
  have sub : ∀ b ∈ wr, b ∈ a :: wr := fun b m => List.mem_cons_of_mem _ m
  intro k
  induction k with
  | zero =>
    rintro i s hk st ⟨L, l1, l2, t⟩ q
    have e : n = i := by omega
    subst e
    refine codeAny_builtin F.entry_set_update_loop ?_
    rw [Around.under_plainId F.plain_set_update_loop _]
    show wpAny _ A.in1 (pyNext (.ref I) >>= _) _ _ s
    refine wpAny_bind (W.done s _ _ st fun s' m => ?_)
    show wpAny _ A.in1 (ret Value.none) _ _ s'
    refine wpAny_pure (q s' L (m.mono sub) l1 (fun x => ?_) (t.to fun o h => m.heap a o nw h))
    rw [l2, List.take_of_length_le (by omega)]
  | succ k ih =>
    rintro i s hk st ⟨L, l1, l2, t⟩ q
    have lt : i < n := by omega
    refine codeAny_builtin F.entry_set_update_loop ?_
    rw [Around.under_plainId F.plain_set_update_loop _]
    show wpAny _ A.in1 (pyNext (.ref I) >>= _) _ _ s
    refine wpAny_bind (W.item i s _ _ lt st fun v s' hp st' m => ?_)
    obtain ⟨x, u, hx, rfl⟩ := pv i v hp
    have t' := t.to (g := s'.heap) fun o h => m.heap a o nw h
    have l3 : ∀ z, z ∈ xs.take (i + 1) ↔ z ∈ xs.take i ∨ z = x := fun z => by
      rw [List.take_add_one, hx, List.mem_append]
      exact or_congr Iff.rfl (by simp)
    have next : ∀ (g : Heap) (M : List Str), (∀ b o, b ≠ a → s'.heap.get? b = some o → g.get? b = some o) → M.length ≤ i + 1 → (∀ z, z ∈ M ↔ z ∈ xs.take (i + 1)) → TxS w g a M →
        codeAny (model P w) A (.builtin "set.update.loop" ⟨[.ref a, .ref I], []⟩) R { s' with heap := g, toks := s'.toks + 1 } := fun g M k1 lm lz tm => by
      refine ih (i + 1) _ (by omega) (W.frame _ s' _ _ st' (Nat.le_succ _) fun b mb o e => ?_) ⟨M, lm, lz, tm⟩ fun s2 L2 m2 c1 c2 c3 => ?_
      · exact k1 b o (fun z => na (z ▸ mb)) e
      · refine q s2 L2 (Moved.trans W.gtrans ((m.mono sub).then_heap (Nat.le_succ _) fun b o nb e => ?_) m2) c1 c2 c3
        exact k1 b o (fun z => nb (by rw [z]; exact List.mem_cons_self)) e
    show wpAny _ A.in1 (holding [Value.str x u] (setAdd a (.str x u)) >>= _) _ _ s'
    refine wpAny_bind (wpAny_holding ?_)
    unfold setAdd
    refine wpAny_holding ?_
    refine wpAny_bind ((tk_ P w).pyHash (k := x) (PySem.strKind_is P w x u) ?_)
    refine tx_add (s := { s' with toks := s'.toks + 1 }) t' (by omega) (fun mx => ?_) fun nx g sb tn => ?_
    · refine wpAny_pure ⟨plainId_quiet F.plain_set_update_loop _, next s'.heap L (fun b o _ e => e) (by omega) (fun z => ?_) t'⟩
      rw [l3, ← l2 z]
      exact ⟨.inl, fun h => h.elim id fun e => e ▸ mx⟩
    · refine wpAny_pure ⟨plainId_quiet F.plain_set_update_loop _, next g (x :: L) (fun b o nb e => by rw [sb.2 b nb]; exact e) (by rw [List.length_cons]; omega) (fun z => ?_) tn⟩
      rw [l3, ← l2 z, List.mem_cons]
      exact Or.comm
theorem strs_get : ∀ {us : List Value} {xs : List Str}, StrsAre us xs → ∀ (i : Nat) (v : Value), us[i]? = some v → ∃ x u, xs[i]? = some x ∧ v = .str x u
  | _, _, .nil, i, v, h => by simp at h
  | _, _, .cons n t r, 0, v, h => ⟨n, t, rfl, by simpa using h.symm⟩
  | _, _, .cons n t r, i + 1, v, h => strs_get r i v (by simpa using h)
/-- set(xs) -/
theorem tx_of {l : Addr} {its : Array Value} (xs : List Str) {Q : Value → Shared → Prop}
    (h0 : A.handled = none) (isl : s.heap.IsList l its) (hin : StrsAre its.toList xs) (small : xs.length + 1 < scanBound)
    (q : ∀ (g : Heap) (tk : Nat) (L : List Str), TxS w g s.heap.objs.size L → L.length ≤ xs.length → (∀ x, x ∈ L ↔ x ∈ xs) →
      (∀ b o, s.heap.get? b = some o → g.get? b = some o) → Q (.ref s.heap.objs.size) { s with heap := g, toks := tk }) :
    wpAny (model P w) A (call (.type "set") [.ref l]) Q E s := by
  have size : its.size = xs.length := by rw [← StrsAre.len_eq hin]; exact Array.length_toList.symm
  obtain ⟨_, _, mro⟩ := F.called_set.mro
  have made := F.called_set.made; have sub := F.called_set.sub
  have e1 := F.called_set.notType; have e2 := F.called_set.canCreate
  have e3 := F.typeCall_set_1 (.ref l)
  refine wpAny_call (codeAny_of_tree ?_)
  show wpAny _ _ (callAny (.type "set") _) _ _ _
  refine wpAny_pure ⟨Code.quiet_builtin _ (by decide +kernel), codeAny_builtin F.entry_type_call ?_⟩
  rw [Around.under_plain (weight_type_call_type "set" [.ref l] []) rfl]
  repeat (any_goals (first | assumption | wp_step))

  refine codeAny_mono (code_set_led1 (.ref l) (E := E)
    (Q₁ := fun r t => r = .ref s.heap.objs.size ∧ t = { s with heap := s.heap.push (emptyS w) }) ⟨rfl, rfl⟩) fun r t hr => ?_
  rcases r with e | fl
  · exact hr
  cases fl with
  | ret obj =>
    obtain ⟨rfl, rfl⟩ := hr
    have at1 : (s.heap.push (emptyS w)).get? s.heap.objs.size = some (emptyS w) := Heap.get?_push_size _ rfl
    have ty1 : Shared.TypeIs { s with heap := s.heap.push (emptyS w) } (.ref s.heap.objs.size) "set" := ⟨_, at1, rfl⟩
    have look := F.called_set.init.lookup
    have bind := F.called_set.init.bind (.ref s.heap.objs.size)
    repeat (any_goals (first | assumption | wp_step))

    refine codeAny_mono (codeAny_call_builtin
      (R := wants (fun r t => r = .none ∧ ∃ g tk L, t = { s with heap := g, toks := tk } ∧ TxS w g s.heap.objs.size L ∧ L.length ≤ xs.length ∧ (∀ x, x ∈ L ↔ x ∈ xs) ∧
        (∀ b o, s.heap.get? b = some o → g.get? b = some o)) E)
      F.called_set.init.plain F.entry_set_init (check_set_init_1 ty1 ?_)) fun r2 t2 hr2 => ?_
    · have isl1 : (s.heap.push (emptyS w)).IsList l its := isl.push _
      have d1 := F.sub_list_set
      have d2 := F.sub_list_frozenset
      have nd : (Value.type "list" == Value.type "dict") = false := by decide
      obtain ⟨ol, hol, hcl, nl, hdl⟩ := id isl
      obtain ⟨oc, od, odt, osl⟩ := ol
      simp only at hcl hdl
      subst hcl; subst hdl
      have hol1 := Heap.get?_push_of_some (emptyS w) hol
      unfold Builtin.«set.__init__» noKeywords Builtin.Frozenset.updateFrom
      generalize hPI : pyIter = PI
      wp_walk
      subst hPI

      refine wpAny_pyIter_list isl1 ?_
      refine wpAny_bind (wpAny_runValue ?_)
      have lt : l < s.heap.objs.size := Heap.lt_size hol
      have h3 : A.in1.in1.in1.handled = none := by simp [h0]
      have sz : (s.heap.push (emptyS w)).objs.size = s.heap.objs.size + 1 := Heap.size_push ..
      have n1 : l ≠ (s.heap.push (emptyS w)).objs.size := by rw [sz]; exact Nat.ne_of_lt (Nat.lt_succ_of_lt lt)
      have n2 : s.heap.objs.size ∉ [(s.heap.push (emptyS w)).objs.size, l] := by
        rw [sz]
        intro m
        rcases List.mem_cons.mp m with z | z
        · exact Nat.succ_ne_self _ z.symm
        · exact Nat.ne_of_gt lt (List.mem_singleton.mp z)
      have val : ∀ (i : Nat) (v : Value), its[i]? = some v → ∃ x u, xs[i]? = some x ∧ v = .str x u := fun i v hv => by
        exact strs_get hin i v (by rw [Array.getElem?_toList]; exact hv)
      refine tx_loop ((Walks.list h3 _ l n1 its).toS) s.heap.objs.size n2 xs size small val
        its.size 0 _ (Nat.zero_add _).symm
        ⟨⟨_, Heap.get?_push_size _ rfl, rfl, rfl⟩, isl1.push _⟩
        ⟨[], Nat.le_refl 0, by simp, _, #[], 0, _, Heap.get?_push_of_some _ at1, ?_, rfl, by simp, .nil, .nil, ?_, ?_, ?_, ?_⟩ fun t' L mv le mm R => ?_
      rotate_right
      · obtain ⟨g, g2, dr, tk, os⟩ := t'
        have eg : g2 = s.gens := mv.gens
        have ed : dr = s.drawn := mv.drawn
        have eo : os = s.os := mv.os
        subst eg ed eo
        rw [size] at le
        show wpAny _ _ _ _ _ _
        refine wpAny_pure ?_
        show wpAny _ _ (ret Value.none) _ _ _
        refine wpAny_pure ⟨rfl, g, tk, L, rfl, R, le, mm, fun b o e => ?_⟩
        have lb : b < s.heap.objs.size := Heap.lt_size e
        refine mv.heap b o (fun m => ?_) (Heap.get?_push_of_some _ (Heap.get?_push_of_some _ e))
        rcases List.mem_cons.mp m with z | z
        · exact Nat.ne_of_lt lb z
        · have := List.mem_singleton.mp z
          rw [sz] at this
          exact Nat.ne_of_lt (Nat.lt_succ_of_lt lb) this
      · exact ⟨rfl, rfl, rfl⟩
      · exact (by decide : 0 < scanBound)
      · rfl
      · exact List.Pairwise.nil
      · show _ ∨ (!w.params.followText "set-order") = true
        cases w.params.followText "set-order"
        · exact .inr rfl
        · exact .inl rfl
    · rcases r2 with e | fl2
      · exact hr2
      cases fl2 with
      | ret r =>
        obtain ⟨rfl, g, tk, L, rfl, h1, h2, h3, h4⟩ := hr2
        repeat (any_goals (first | assumption | wp_step))
        exact q _ _ _ h1 h2 h3 h4
      | _ => exact hr2.elim
  | _ => exact hr.elim
/-- sorted(it) -/
theorem tx_sorted {a : Addr} {L : List Str} {Q : Value → Shared → Prop} (t : TxS w s.heap a L) (h0 : A.handled = none) (h64 : L.length < 64)
    (q : ∀ s' p (out : Array Value) (c : Nat) (ys : List Str), (∀ b o, s.heap.get? b = some o → s'.heap.get? b = some o) → s'.gens = s.gens → s'.os = s.os → s.heap.objs.size ≤ p →
      s'.heap.get? p = some (seqObj "list" out c) → StrsAre out.toList ys → ys.Perm L → PyProof.Rows.sortedS ys = true → Q (.ref p) s') :
    wpAny (model P w) A (call (.builtin "sorted") [.ref a]) Q E s := by
  obtain ⟨ob, arr, ep, tb, e0, ex, ed, g, p, n, b, f, r, l⟩ := t
  have bs : arr.size < scanBound := by rw [tx_size p]; exact b
  refine Calls.call_function_entry kind_sorted plain_sorted entry_sorted (args_sorted1 _) ?_
  unfold Builtin.«sorted»
  refine wpAny_bind (m := checkCount "sorted" 1 1 _) (wpAny_pure ?_)
  refine wpAny_bind (collect_set (A := A.in1) h0 ⟨ob, e0, ex.1, ed⟩ f bs r l fun s1 vs k1 hz g1 o1 pm => ?_)
  have vl : vs.length = L.length := by rw [pm.length_eq, List.length_map, Array.length_toList, tx_size p]
  have mk : ∀ us : List Value, (∀ v ∈ us, ∃ x u, v = Value.str x u) → StrsAre us (us.map fun v => match v with | .str x _ => x | _ => Str.empty) := fun us => by
    induction us with
    | nil => intro _; exact .nil
    | cons v us ih =>
      intro hv
      obtain ⟨x, u, rfl⟩ := hv v List.mem_cons_self
      exact .cons x u (ih fun z m => hv z (List.mem_cons_of_mem _ m))
  have hS := mk vs fun v hv => by
    obtain ⟨e, he, z⟩ := List.mem_map.mp (pm.mem_iff.mp hv)
    obtain ⟨x, u, h1, _⟩ := g e he
    exact ⟨x, u, z ▸ h1⟩
  have pk := pm.map fun v : Value => match v with | .str x _ => x | _ => Str.empty
  rw [List.map_map] at pk
  refine wpAny_bind (wpAny_newList ?_ (by rw [vl, sizeLine_eq]; omega))
  have hoL : (s1.heap.push (seqObj "list" vs.toArray 0)).get? s1.heap.objs.size = some (seqObj "list" vs.toArray 0) := Heap.get?_push_size _ rfl
  refine wpAny_bind (wpAny_holding (wpAny_call_entry slot_list_sort ⟨_, hoL, rfl⟩ entry_list_sort
    (list_sort_treeK strKind_oneLt hoL hS.keysOf (fun v₁ v₂ rest e => keyKind_strs (by rw [← e]; exact hS)) (by rw [vl]; exact h64) fun st hp hs => ⟨_, rfl, ?_⟩)
    (args_list_sort _)))
  obtain ⟨ys, y1, y2, y3⟩ := sorted_out_str hS hp hs
  obtain ⟨c, hc⟩ := sortedHeap_at (vs := vs) (out := (arrOf st).map (·.2)) hoL
  refine wpAny_pure ⟨_, rfl, q _ s1.heap.objs.size _ c ys (fun b' u e => ?_) g1 o1 hz hc y1 ((y2.trans pk).trans p) y3⟩
  have e2 := k1 b' u e
  have lt := Heap.lt_size e2
  show (sortedHeap (s1.heap.push (seqObj "list" vs.toArray 0)) s1.heap.objs.size vs _).get? b' = some u
  rw [sortedHeap_old (Nat.ne_of_lt lt) (by rw [size_push']; exact Nat.lt_succ_of_lt lt)]
  exact Heap.get?_push_of_some _ e2
end
/-- the set of texts at a -/
def TxO (w : World) (a : Addr) (L : List Str) : HO := .ext fun h => TxS w h a L
def rSetT (K : PySem.W.Frag) (w : World) : List V → Hp → VK → Prop := fun xs H Q => ∃ (p : Addr) (ns : List Str), xs = [.ref p] ∧ SqL K H p (ns.map V.str) ∧ ns.length ≤ 1000 ∧
  ∀ a L, H a = none → L.length ≤ ns.length → (∀ x, x ∈ L ↔ x ∈ ns) → Q (.ref a) (upd H a (TxO w a L))
theorem cr_setT {X : Cx} (hc : X.calm = true) : CallR X (.type "set") (rSetT X.K X.w) := by
  intro pins s σ H xs us Q I r h
  obtain ⟨p, ns, rfl, hq, hl, q⟩ := h
  obtain ⟨u, rfl, rx⟩ := vals1 r
  cases rx
  obtain ⟨its, rv, pl, hz⟩ := I.list hq
  refine tx_of ns (I.ok.hd hc) pl.isList (by simpa using Vals.strs rv) (by unfold scanBound; omega) fun g tk L R le mm k => ?_
  have ob : ObjOk X.prog X.w (upd H s.heap.objs.size (TxO X.w s.heap.objs.size L)) g s.heap.objs.size (TxO X.w s.heap.objs.size L) := by
    have ⟨o, _, _, _, ho, _⟩ := R
    exact ⟨R, ⟨o, ho⟩, fun h1 h2 p k => TxS.to p k⟩
  exact ⟨.ref s.heap.objs.size, _, I.laid (t' := tk) k (Nat.le_refl _) ob, rfl, q _ L (I.hok.fresh (Nat.le_refl _)) le mm⟩
end Vf

namespace Vf
open PySem L2 PySem.Spec PyProof.Rows He
def rSortT (w : World) : List V → Hp → VK → Prop := fun vs H Q => ∃ (a : Addr) (L : List Str), vs = [V.ref a] ∧ H a = some (TxO w a L) ∧ L.length < 64 ∧
  ∀ (ys : List Str) (p : Addr), L.Nodup → ys.Perm L → PyProof.Rows.sortedS ys = true → H p = none → Q (.ref p) (upd H p (.lst (ys.map V.str)))
theorem cr_sortedT {X : Cx} (hc : X.calm = true) : CallR X (.builtin "sorted") (rSortT X.w) := by
  intro pins s σ H vs us Q I r h
  obtain ⟨a, L, rfl, ha, h64, q⟩ := h
  have R : TxS X.w s.heap a L := (I.hok a _ ha).1
  have nd : L.Nodup := let ⟨_, _, _, _, _, _, _, _, _, n, _⟩ := R; n
  rw [Vals.ref1 r]
  refine tx_sorted R (I.ok.hd hc) h64 fun s' p out c ys k g o hp hg hi hm hs => ?_
  have len : (ys.map V.str).length ≤ sizeLine := by rw [List.length_map, hm.length_eq, sizeLine_eq]; omega
  have hn : H p = none := I.hok.fresh hp
  have J : Inv X pins σ (upd H p (.lst (ys.map V.str))) { s with heap := s'.heap, gens := s'.gens, drawn := s'.drawn, toks := s'.toks } :=
    I.call (ch := []) (Un.laid k hp hn) (I.hok.laid k hp ⟨len, out.toList, c, vals_of_strs hi, hg⟩) (by rw [g]; exact I.bare) (fun _ z => nomatch z)
  have e : s' = { s with heap := s'.heap, gens := s'.gens, drawn := s'.drawn, toks := s'.toks } := by
    obtain ⟨_, _, _, _, _⟩ := s'
    obtain ⟨_, _, _, _, _⟩ := s
    cases o
    rfl
  rw [e]
  exact ⟨.ref p, _, J, rfl, q ys p nd hm hs hn⟩
/-- xs.remove(y): the first equal one goes -/
def rRemD (K : PySem.W.Frag) : V → List V → Hp → VK → Prop := fun x vs H Q => ∃ (l : Addr) (y : V) (xs : List V) (d : PyData) (ds : List PyData) (j : Nat) (z : PyData), x = .ref l ∧ vs = [y] ∧ H l = some (.lst xs) ∧ DpAll K H xs ds ∧ Dp K H y d ∧
  SeqAt.shaped (.list ds) = true ∧ SeqAt.shaped d = true ∧ ds[j]? = some z ∧ PyData.eqv z d = true ∧ (∀ (m : Nat) (z' : PyData), m < j → ds[m]? = some z' → PyData.eqv z' d = false) ∧ Q .non (upd H l (.lst (xs.eraseIdx j)))
theorem mt_removeD {X : Cx} (hu : X.A.units + 65 < cLine) : MtM X "list.remove" (rRemD X.K) := by
  intro pins s σ H x vs v us Q I rx rv h
  obtain ⟨l, y, xs, d, ds, j, z, rfl, rfl, hH, hds, hy, sl, sd, hz, hzj, hno, q⟩ := h
  cases rx
  obtain ⟨uy, rfl, ry⟩ := rv.one
  obtain ⟨bs, r1⟩ := Dp.reads I d y uy hy ry
  obtain ⟨zl, its, n, r, hl, e⟩ := I.lstM hH
  obtain ⟨as, r2⟩ := Dp.readsAll I ds xs its hds r
  have can : PyData.canLayAll0 ds = true := SeqAt.canLay_of_shaped sl
  have rm : X.A.units + 1 + min (PyData.depthAll ds) d.depth < cLine := room_in_shaped sd hu
  have n1 : its.length = ds.length := SeqAt.ReadsAll.length ds its as r2
  have mp : its.map (SeqAt.readOf s.heap) = ds := SeqAt.readsAll_map ds its as can r2
  have jd : j < ds.length := (List.getElem?_eq_some_iff.mp hz).1
  have hj : j < its.toArray.size := by rw [List.size_toArray]; omega
  have see : ∀ (m : Nat) (hm : m < its.toArray.size) (z' : PyData), ds[m]? = some z' → SeqAt.readOf s.heap its.toArray[m] = z' := fun m hm z' e1 => by
    have hm2 : m < its.length := by rw [List.size_toArray] at hm; exact hm
    rw [← mp, List.getElem?_map, List.getElem?_eq_getElem hm2] at e1
    simpa using Option.some.inj e1
  have sl9 := sizeLine_eq
  refine call_meets PySem.F.slot_list_remove ⟨_, e, rfl⟩ PySem.F.entry_list_remove (PySem.F.args_list_remove_2 _ _)
    (SeqAt.list_removeAt l its.toArray n _ _ uy (fun u => PyData.eqv (SeqAt.readOf s.heap u) d) j hj ?_ ?_ (by rw [List.size_toArray]; omega))
    ⟨e, SeqAt.items_eqAt (vs := its.toArray) (show ReadsAll s.heap its.toArray.toList ds as from r2) r1 can (SeqAt.canLay_of_shaped sd) rm, ?_⟩
  · show PyData.eqv (SeqAt.readOf s.heap its.toArray[j]) d = true
    rw [see j hj z hz]; exact hzj
  · intro m hm lt
    have md : m < ds.length := by omega
    show PyData.eqv (SeqAt.readOf s.heap its.toArray[m]) d = false
    rw [see m hm _ (List.getElem?_eq_getElem md)]
    exact hno m _ lt (List.getElem?_eq_getElem md)
  · refine ⟨.non, _, I.lset (its' := its.eraseIdx j) (t' := s.toks) hH e ?_ (r.eraseIdx j) ?_, rfl, q⟩
    · show its.toArray.eraseIdxIfInBounds j = (its.eraseIdx j).toArray
      rw [List.eraseIdxIfInBounds_toArray]
    · have := len_erase xs j
      omega
end Vf
namespace Vf
open PySem L2 PySem.Spec PyProof.Rows He
theorem ePK (K : PySem.W.Frag) {X : Cx} (hu : X.A.units + 64 < cLine) (hK : X.K = K := by rfl) : OpR X (compareOp .Eq) (rEqP K) := hK ▸ op_eqP hu
theorem nPK (K : PySem.W.Frag) {X : Cx} (hu : X.A.units + 64 < cLine) (hK : X.K = K := by rfl) : OpR X (compareOp .NotEq) (rNeP K) := hK ▸ op_neP hu
end Vf

/-! for k, (a, b) in enumerate(zip(s, t)): two tuples. The pairs are let go by nobody: the zip then knows of one that is out. -/
namespace Vf
open PySem L2 PySem.Spec PyProof.Rows He RZ
abbrev ZSt (h : Heap) (z TI TO : Addr) (own : Value) (f : Bool) : Prop := h.get? z = some { slots := #[], data := .fields #[own, .bool f, .bool false, .ref TI, .ref TO], dict := none, cls := .type "zip" }
def OwnOk (own : Value) : Prop := own = .none ∨ ∃ T : Addr, own = rawInt T
section
variable {P : Program} {w : World} {A : Around} {E : Value → Shared → Prop} {s : Shared} {z TI TO : Addr} {own : Value} {f : Bool}
theorem z_free (hz : ZSt s.heap z TI TO own f) (ho : OwnOk own) {Q : Bool → Shared → Prop} (q : ∀ (b : Bool) (g : Heap) (f' : Bool), ZSt g z TI TO own f' → Heap.SameBut z s.heap g → Q b { s with heap := g }) :
    wpAny (model P w) A (Builtin.SmallTypes.ownedTupleIsFree (.ref z)) Q E s := by
  unfold Builtin.SmallTypes.ownedTupleIsFree
  rcases ho with rfl | ⟨T, rfl⟩
  · exact wpAny_bind (wpAny_field hz rfl (x := .none) rfl (wpAny_pure (q true s.heap f hz (Heap.SameBut.refl _ _))))
  · refine wpAny_bind (wpAny_field hz rfl (x := rawInt T) rfl ?_)
    show wpAny _ _ (loadIfAlive ((T : Int).toNat) >>= _) _ _ _
    refine wpAny_bind ?_
    have al : ∀ {R : Option Obj → Shared → Prop}, R (s.heap.get? (T : Int).toNat) s → wpAny (model P w) A (loadIfAlive ((T : Int).toNat)) R E s := by
      intro R h
      exact fun _ _ _ => h
    refine al ?_
    cases hT : s.heap.get? (T : Int).toNat with
    | none => exact wpAny_pure (q true s.heap f hz (Heap.SameBut.refl _ _))
    | some o =>
      simp only [Option.isNone_some, Bool.false_eq_true, if_false]
      refine wpAny_bind (wpAny_field hz rfl (x := .bool f) rfl ?_)
      cases f with
      | true =>
        rw [if_neg (show ¬ ((Value.bool true != Value.bool true) = true) from Bool.false_ne_true)]
        exact wpAny_pure (q false s.heap true hz (Heap.SameBut.refl _ _))
      | false =>
        rw [if_pos (show (Value.bool false != Value.bool true) = true from rfl)]
        exact wpAny_bind (wpAny_setField_rec hz (by simp) fun g hg sg => wpAny_pure (q false g true hg sg))
/-- what is apart -/
theorem z_item {i1 i2 l1 l2 : Addr} {k : Nat} {xs ys : Array Value} {x y c d : Value} {Q : Value → Shared → Prop} (D : ZipApart z TI TO i1 i2 l1 l2) (hz : ZSt s.heap z TI TO own f) (ho : OwnOk own)
    (hI : IsPair s.heap TI (.ref i1) (.ref i2)) (hO : IsPair s.heap TO c d) (t1 : s.heap.IsTupleIter i1 l1 k) (t2 : s.heap.IsTupleIter i2 l2 k)
    (r1 : s.heap.IsTuple l1 xs) (r2 : s.heap.IsTuple l2 ys) (ex : xs[k]? = some x) (ey : ys[k]? = some y)
    (q : ∀ (g : Heap) (own' : Value) (f' : Bool) (c' d' : Value), ZSt g z TI TO own' f' → OwnOk own' → IsPair g TO c' d' → g.IsTupleIter i1 l1 (k + 1) → g.IsTupleIter i2 l2 (k + 1) → IsPair g s.heap.objs.size x y → g.objs.size = s.heap.objs.size + 1 →
      (∀ b o, b ≠ z → b ≠ TO → b ≠ i1 → b ≠ i2 → s.heap.get? b = some o → g.get? b = some o) → Q (.ref s.heap.objs.size) { s with heap := g }) :
    wpAny (model P w) A (Builtin.SmallTypes.nextOf (.ref z)) Q E s := by
  have ty : s.TypeIs (.ref z) "zip" := ⟨_, hz, rfl⟩
  unfold Builtin.SmallTypes.nextOf
  refine wpAny_bind (wpAny_callSpecial?_slot (name := Str.ofString "__next__") ty F.slot_zip_next (wpAny_call_entry F.slot_zip_next ty F.entry_zip_next ?_ (F.args_zip_next_1 _)))
  show wpAny _ _ (field (.ref z) 2 >>= _) _ _ _
  refine wpAny_bind (wpAny_field hz rfl (x := .bool false) rfl ?_)
  show wpAny _ _ (field (.ref z) 3 >>= _) _ _ _
  refine wpAny_bind (wpAny_field hz rfl (x := .ref TI) rfl ?_)
  refine wpAny_bind (wpAny_seqItems hI rfl ?_)
  show wpAny _ _ (Builtin.SmallTypes.ownedTupleIsFree (.ref z) >>= _) _ _ _
  refine wpAny_bind (z_free hz ho fun b g1 f1 z1 s1 => ?_)
  have t1a := t1.extBut s1.extBut D.i1z
  have t2a := t2.extBut s1.extBut D.i2z
  have r1a := r1.extBut s1.extBut D.l1z
  have r2a := r2.extBut s1.extBut D.l2z
  have oa : IsPair g1 TO c d := s1.extBut _ _ D.TOz hO
  cases b with
  | true =>
    simp only [if_true]
    refine wpAny_bind (wpAny_rule ?_)
    refine wpAny_bind (wpAny_field z1 rfl (x := .ref TO) rfl ?_)
    refine wpAny_bind (wpAny_setField_rec z1 (by simp) fun g2 z2 s2 => ?_)
    replace z2 : ZSt g2 z TI TO .ellipsis f1 := z2
    refine wpAny_bind ?_
    simp only [List.zipIdx_cons, List.zipIdx_nil, List.forIn_cons, List.forIn_nil]
    refine wpAny_bind (wpAny_bind (wpAny_onRaise ?_))
    show wpAny _ _ (Builtin.SmallTypes.nextOf (.ref i1) >>= _) _ _ _
    refine wpAny_bind (nextOf_tuple_item (t1a.extBut s2.extBut D.i1z) (r1a.extBut s2.extBut D.l1z) ex fun g3 t1b s3 => wpAny_pure ?_)
    have ob : IsPair g3 TO c d := s3.extBut _ _ D.TOi1 (s2.extBut _ _ D.TOz oa)
    refine wpAny_bind (wpAny_seqItems ob rfl ?_)
    refine wpAny_bind (wpAny_updateSeq_pair ob fun g4 oc s4 => ?_)
    replace oc : IsPair g4 TO x d := oc
    refine wpAny_bind (wpAny_letGo (wpAny_pure ?_))
    refine wpAny_bind (wpAny_bind (wpAny_onRaise ?_))
    show wpAny _ _ (Builtin.SmallTypes.nextOf (.ref i2) >>= _) _ _ _
    refine wpAny_bind (nextOf_tuple_item (((t2a.extBut s2.extBut D.i2z).extBut s3.extBut D.i12.symm).extBut s4.extBut D.TOi2.symm) (((r2a.extBut s2.extBut D.l2z).extBut s3.extBut D.l2i1).extBut s4.extBut D.l2TO) ey fun g5 t2b s5 => wpAny_pure ?_)
    have od : IsPair g5 TO x d := s5.extBut _ _ D.TOi2 oc
    refine wpAny_bind (wpAny_seqItems od rfl ?_)
    refine wpAny_bind (wpAny_updateSeq_pair od fun g6 oe s6 => ?_)
    replace oe : IsPair g6 TO x y := oe
    refine wpAny_bind (wpAny_letGo (wpAny_pure (wpAny_pure ?_)))
    refine wpAny_bind (wpAny_seqItems oe rfl ?_)
    refine wpAny_bind (wpAny_newTuple ?_)
    have size : g6.objs.size = s.heap.objs.size := by rw [s6.1, s5.1, s4.1, s3.1, s2.1, s1.1]
    have z6 : ZSt g6 z TI TO .ellipsis f1 := s6.extBut _ _ D.TOz.symm (s5.extBut _ _ D.i2z.symm (s4.extBut _ _ D.TOz.symm (s3.extBut _ _ D.i1z.symm z2)))
    have k6 : ∀ b o, b ≠ z → b ≠ TO → b ≠ i1 → b ≠ i2 → s.heap.get? b = some o → g6.get? b = some o := fun b o n1 n2 n3 n4 e => s6.extBut _ _ n2 (s5.extBut _ _ n4 (s4.extBut _ _ n2 (s3.extBut _ _ n3 (s2.extBut _ _ n1 (s1.extBut _ _ n1 e)))))
    have t16 : g6.IsTupleIter i1 l1 (k + 1) := ((t1b.extBut s4.extBut D.TOi1.symm).extBut s5.extBut D.i12).extBut s6.extBut D.TOi1.symm
    have t26 : g6.IsTupleIter i2 l2 (k + 1) := t2b.extBut s6.extBut D.TOi2.symm
    have zl : z < g6.objs.size := Heap.lt_size z6
    show wpAny _ _ (Builtin.SmallTypes.ownedTupleHandOut (.ref z) (.ref g6.objs.size) >>= _) _ _ _
    refine wpAny_bind ?_
    unfold Builtin.SmallTypes.ownedTupleHandOut
    have z7 : ZSt (g6.push { cls := .type "tuple", data := .seq #[x, y] }) z TI TO .ellipsis f1 := Heap.get?_push_of_some _ z6
    refine wpAny_bind (wpAny_setField_rec z7 (by simp) fun g8 z8 s8 => ?_)
    replace z8 : ZSt g8 z TI TO (rawInt g6.objs.size) f1 := z8
    refine wpAny_setField_rec z8 (by simp) fun g9 z9 s9 => ?_
    replace z9 : ZSt g9 z TI TO (rawInt g6.objs.size) false := z9
    have up : ∀ b o, b ≠ z → g6.get? b = some o → g9.get? b = some o := fun b o n e => s9.extBut _ _ n (s8.extBut _ _ n (Heap.get?_push_of_some _ e))
    have p9 : IsPair g9 g6.objs.size x y := s9.extBut _ _ (Nat.ne_of_gt zl) (s8.extBut _ _ (Nat.ne_of_gt zl) (Heap.get?_push_size _ rfl))
    have size9 : g9.objs.size = g6.objs.size + 1 := by rw [s9.1, s8.1, Heap.size_push]
    rw [size] at z9 p9 size9
    refine wpAny_pure ⟨_, rfl, wpAny_pure ?_⟩
    show Q (.ref g6.objs.size) _
    rw [size]
    exact q g9 _ _ _ _ z9 (.inr ⟨_, rfl⟩) (up _ _ D.TOz oe) (t16.at fun o e => up _ o D.i1z e) (t26.at fun o e => up _ o D.i2z e) p9 size9 fun b o n1 n2 n3 n4 e => up b o n1 (k6 b o n1 n2 n3 n4 e)
  | false =>
    simp only [Bool.false_eq_true, if_false]
    refine wpAny_bind ?_
    rw [← Array.forIn_toList]
    simp only [List.forIn_cons, List.forIn_nil]
    refine wpAny_bind (wpAny_bind (wpAny_holding ?_))
    show wpAny _ _ (Builtin.SmallTypes.nextOf (.ref i1) >>= _) _ _ _
    refine wpAny_bind (nextOf_tuple_item t1a r1a ex fun g3 t1b s3 => wpAny_pure ?_)
    refine wpAny_pure ?_
    refine wpAny_bind (wpAny_bind (wpAny_holding ?_))
    show wpAny _ _ (Builtin.SmallTypes.nextOf (.ref i2) >>= _) _ _ _
    refine wpAny_bind (nextOf_tuple_item (t2a.extBut s3.extBut D.i12.symm) (r2a.extBut s3.extBut D.l2i1) ey fun g5 t2b s5 => wpAny_pure ?_)
    refine wpAny_pure (wpAny_pure ?_)
    show wpAny _ _ (newTuple [x, y] >>= _) _ _ _
    refine wpAny_bind (wpAny_newTuple ?_)
    have size : g5.objs.size = s.heap.objs.size := by rw [s5.1, s3.1, s1.1]
    have z5 : ZSt g5 z TI TO own f1 := s5.extBut _ _ D.i2z.symm (s3.extBut _ _ D.i1z.symm z1)
    have o5 : IsPair g5 TO c d := s5.extBut _ _ D.TOi2 (s3.extBut _ _ D.TOi1 oa)
    have k5 : ∀ b o, b ≠ z → b ≠ i1 → b ≠ i2 → s.heap.get? b = some o → g5.get? b = some o := fun b o n1 n3 n4 e => s5.extBut _ _ n4 (s3.extBut _ _ n3 (s1.extBut _ _ n1 e))
    have t15 : g5.IsTupleIter i1 l1 (k + 1) := t1b.extBut s5.extBut D.i12
    have p9 : IsPair (g5.push { cls := .type "tuple", data := .seq #[x, y] }) g5.objs.size x y := Heap.get?_push_size _ rfl
    have size9 : (g5.push { cls := .type "tuple", data := .seq #[x, y] }).objs.size = g5.objs.size + 1 := Heap.size_push ..
    refine wpAny_pure ⟨_, rfl, wpAny_pure ?_⟩
    show Q (.ref g5.objs.size) _
    rw [size] at p9 size9 ⊢
    exact q _ _ _ _ _ (Heap.get?_push_of_some _ z5) ho (Heap.get?_push_of_some _ o5) (t15.at fun o e => Heap.get?_push_of_some _ e) (t2b.at fun o e => Heap.get?_push_of_some _ e) p9 size9 fun b o n1 _ n3 n4 e => Heap.get?_push_of_some _ (k5 b o n1 n3 n4 e)
/-- nothing is left -/
theorem z_end {i1 i2 l1 l2 : Addr} {k : Nat} {xs ys : Array Value} {c d : Value} {Q : Value → Shared → Prop} (h0 : A.handled = none) (D : ZipApart z TI TO i1 i2 l1 l2) (hz : ZSt s.heap z TI TO own f) (ho : OwnOk own)
    (hI : IsPair s.heap TI (.ref i1) (.ref i2)) (hO : IsPair s.heap TO c d) (t1 : s.heap.IsTupleIter i1 l1 k) (t2 : s.heap.IsTupleIter i2 l2 k)
    (r1 : s.heap.IsTuple l1 xs) (r2 : s.heap.IsTuple l2 ys) (ends : xs[k]? = none ∨ ys[k]? = none)
    (q : ∀ (g : Heap) (x : Addr), (∀ b o, b ≠ z → b ≠ TO → b ≠ i1 → b ≠ i2 → s.heap.get? b = some o → g.get? b = some o) → (∃ o, g.get? x = some o ∧ o.cls = .type "StopIteration") → E (.ref x) { s with heap := g }) :
    wpAny (model P w) A (Builtin.SmallTypes.nextOf (.ref z)) Q E s := by
  have ty : s.TypeIs (.ref z) "zip" := ⟨_, hz, rfl⟩
  unfold Builtin.SmallTypes.nextOf
  refine wpAny_bind (wpAny_callSpecial?_slot (name := Str.ofString "__next__") ty F.slot_zip_next (wpAny_call_entry F.slot_zip_next ty F.entry_zip_next ?_ (F.args_zip_next_1 _)))
  show wpAny _ _ (field (.ref z) 2 >>= _) _ _ _
  refine wpAny_bind (wpAny_field hz rfl (x := .bool false) rfl ?_)
  show wpAny _ _ (field (.ref z) 3 >>= _) _ _ _
  refine wpAny_bind (wpAny_field hz rfl (x := .ref TI) rfl ?_)
  refine wpAny_bind (wpAny_seqItems hI rfl ?_)
  show wpAny _ _ (Builtin.SmallTypes.ownedTupleIsFree (.ref z) >>= _) _ _ _
  refine wpAny_bind (z_free hz ho fun b g1 f1 z1 s1 => ?_)
  have t1a := t1.extBut s1.extBut D.i1z
  have t2a := t2.extBut s1.extBut D.i2z
  have r1a := r1.extBut s1.extBut D.l1z
  have r2a := r2.extBut s1.extBut D.l2z
  have oa : IsPair g1 TO c d := s1.extBut _ _ D.TOz hO
  cases b with
  | true =>
    simp only [if_true]
    refine wpAny_bind (wpAny_rule ?_)
    refine wpAny_bind (wpAny_field z1 rfl (x := .ref TO) rfl ?_)
    refine wpAny_bind (wpAny_setField_rec z1 (by simp) fun g2 z2 s2 => ?_)
    replace z2 : ZSt g2 z TI TO .ellipsis f1 := z2
    refine wpAny_bind ?_
    simp only [List.zipIdx_cons, List.zipIdx_nil, List.forIn_cons, List.forIn_nil]
    refine wpAny_bind (wpAny_bind (wpAny_onRaise ?_))
    show wpAny _ _ (Builtin.SmallTypes.nextOf (.ref i1) >>= _) _ _ _
    cases ex : xs[k]? with
    | none =>
      refine wpAny_bind (nextOf_tuple_end h0 (t1a.extBut s2.extBut D.i1z) (r1a.extBut s2.extBut D.l1z) ex fun g3 er s3 ⟨oe, e1, e2⟩ => ?_)
      have z3 : ZSt g3 z TI TO .ellipsis f1 := s3 _ _ D.i1z.symm z2
      have ne : er ≠ z := fun h => by subst h; rw [z3] at e1; cases e1; simp at e2
      refine wpAny_setField_rec z3 (by simp) fun g4 _ s4 => q g4 er (fun b o n1 n2 n3 n4 e => s4.extBut _ _ n1 (s3 _ _ n3 (s2.extBut _ _ n1 (s1.extBut _ _ n1 e)))) ⟨oe, s4.extBut _ _ ne e1, e2⟩
    | some x =>
      have ey : ys[k]? = none := ends.resolve_left (by rw [ex]; exact fun z => nomatch z)
      refine wpAny_bind (nextOf_tuple_item (t1a.extBut s2.extBut D.i1z) (r1a.extBut s2.extBut D.l1z) ex fun g3 t1b s3 => wpAny_pure ?_)
      have ob : IsPair g3 TO c d := s3.extBut _ _ D.TOi1 (s2.extBut _ _ D.TOz oa)
      refine wpAny_bind (wpAny_seqItems ob rfl ?_)
      refine wpAny_bind (wpAny_updateSeq_pair ob fun g4 oc s4 => ?_)
      refine wpAny_bind (wpAny_letGo (wpAny_pure ?_))
      refine wpAny_bind (wpAny_bind (wpAny_onRaise ?_))
      show wpAny _ _ (Builtin.SmallTypes.nextOf (.ref i2) >>= _) _ _ _
      refine wpAny_bind (nextOf_tuple_end h0 (((t2a.extBut s2.extBut D.i2z).extBut s3.extBut D.i12.symm).extBut s4.extBut D.TOi2.symm) (((r2a.extBut s2.extBut D.l2z).extBut s3.extBut D.l2i1).extBut s4.extBut D.l2TO) ey fun g5 er s5 ⟨oe, e1, e2⟩ => ?_)
      have z5 : ZSt g5 z TI TO .ellipsis f1 := s5 _ _ D.i2z.symm (s4.extBut _ _ D.TOz.symm (s3.extBut _ _ D.i1z.symm z2))
      have ne : er ≠ z := fun h => by subst h; rw [z5] at e1; cases e1; simp at e2
      refine wpAny_setField_rec z5 (by simp) fun g6 _ s6 => q g6 er (fun b o n1 n2 n3 n4 e => s6.extBut _ _ n1 (s5 _ _ n4 (s4.extBut _ _ n2 (s3.extBut _ _ n3 (s2.extBut _ _ n1 (s1.extBut _ _ n1 e)))))) ⟨oe, s6.extBut _ _ ne e1, e2⟩
  | false =>
    simp only [Bool.false_eq_true, if_false]
    refine wpAny_bind ?_
    rw [← Array.forIn_toList]
    simp only [List.forIn_cons, List.forIn_nil]
    refine wpAny_bind (wpAny_bind (wpAny_holding ?_))
    show wpAny _ _ (Builtin.SmallTypes.nextOf (.ref i1) >>= _) _ _ _
    cases ex : xs[k]? with
    | none =>
      exact wpAny_bind (nextOf_tuple_end h0 t1a r1a ex fun g3 er s3 he => q g3 er (fun b o n1 n2 n3 n4 e => s3 _ _ n3 (s1.extBut _ _ n1 e)) he)
    | some x =>
      have ey : ys[k]? = none := ends.resolve_left (by rw [ex]; exact fun z => nomatch z)
      refine wpAny_bind (nextOf_tuple_item t1a r1a ex fun g3 t1b s3 => wpAny_pure ?_)
      refine wpAny_pure ?_
      refine wpAny_bind (wpAny_bind (wpAny_holding ?_))
      show wpAny _ _ (Builtin.SmallTypes.nextOf (.ref i2) >>= _) _ _ _
      exact wpAny_bind (nextOf_tuple_end h0 (t2a.extBut s3.extBut D.i12.symm) (r2a.extBut s3.extBut D.l2i1) ey fun g5 er s5 he => q g5 er (fun b o n1 n2 n3 n4 e => s5 _ _ n4 (s3.extBut _ _ n3 (s1.extBut _ _ n1 e))) he)
/-- the next one told: its pair first, then the pair of its number and that -/
theorem ez_item {e i1 i2 l1 l2 : Addr} {k : Nat} {xs ys : Array Value} {x y c d prev : Value} {Q : Option Value → Shared → Prop} (D : ZipApart z TI TO i1 i2 l1 l2) (he : IsEnum s.heap e z (k : Int) prev) (hz : ZSt s.heap z TI TO own f) (ho : OwnOk own)
    (n1 : e ≠ z) (n2 : e ≠ TO) (n3 : e ≠ i1) (n4 : e ≠ i2) (n5 : e ≠ TI)
    (hI : IsPair s.heap TI (.ref i1) (.ref i2)) (hO : IsPair s.heap TO c d) (t1 : s.heap.IsTupleIter i1 l1 k) (t2 : s.heap.IsTupleIter i2 l2 k)
    (r1 : s.heap.IsTuple l1 xs) (r2 : s.heap.IsTuple l2 ys) (ex : xs[k]? = some x) (ey : ys[k]? = some y)
    (q : ∀ (g g' : Heap) (tk : Nat) (own' : Value) (f' : Bool) (c' d' v : Value), IsPair g s.heap.objs.size x y → g.objs.size = s.heap.objs.size + 1 → (∀ b o, b ≠ z → b ≠ TO → b ≠ i1 → b ≠ i2 → s.heap.get? b = some o → g.get? b = some o) →
      (∀ b o, b ≠ e → g.get? b = some o → g'.get? b = some o) → IsEnumOut g' e z ((k : Int) + 1) v (s.heap.objs.size + 1) → ZSt g' z TI TO own' f' → OwnOk own' → IsPair g' TO c' d' → g'.IsTupleIter i1 l1 (k + 1) → g'.IsTupleIter i2 l2 (k + 1) →
      (∃ tt, IsPair g' (s.heap.objs.size + 1) (.int k tt) (.ref s.heap.objs.size)) → Q (some (.ref (s.heap.objs.size + 1))) { s with heap := g', toks := tk }) :
    wpAny (model P w) A (pyNext (.ref e)) Q E s := by
  have ty : s.TypeIs (.ref e) "enumerate" := ⟨_, he, rfl⟩
  unfold pyNext
  refine wpAny_bind (wpAny_attempt (wpAny_callSpecial?_slot (name := Str.ofString "__next__") ty F.slot_enumerate_next (wpAny_call_entry F.slot_enumerate_next ty F.entry_enumerate_next ?_ (F.args_enumerate_next_1 _))))
  show wpAny (model P w) A.in1 (field (.ref e) 2 >>= _) _ _ s
  refine wpAny_bind (wpAny_field he rfl (x := .ref z) rfl ?_)
  refine wpAny_bind (z_item D hz ho hI hO t1 t2 r1 r2 ex ey fun g own' f' c' d' z' oo po a1 a2 pn size keep => ?_)
  obtain ⟨hp, gs, dr, tk, os⟩ := s
  dsimp only at he pn size keep q ⊢
  have e1 : IsEnum g e z (k : Int) prev := keep e _ n1 n2 n3 n4 he
  have el : e < hp.objs.size := Heap.lt_size he
  show wpAny _ _ (field (.ref e) 3 >>= _) _ _ ⟨g, gs, dr, tk, os⟩
  refine wpAny_bind (wpAny_field e1 rfl (x := rawInt k) rfl ?_)
  show wpAny _ _ (field (.ref e) 4 >>= _) _ _ ⟨g, gs, dr, tk, os⟩
  refine wpAny_bind (wpAny_field e1 rfl (x := .none) rfl ?_)
  show wpAny _ _ (mkInt k >>= _) _ _ ⟨g, gs, dr, tk, os⟩
  refine wpAny_bind (wpAny_mkInt ?_)
  show wpAny _ _ (setField (.ref e) 3 (rawInt ((k : Int) + 1)) >>= _) _ _ ⟨g, gs, dr, tk + 1, os⟩
  refine wpAny_bind (wpAny_setField_rec e1 (by simp) fun g2 e2 s2 => ?_)
  replace s2 : Heap.SameBut e g g2 := s2
  replace e2 : IsEnum g2 e z ((k : Int) + 1) prev := e2
  show wpAny _ _ (setField (.ref e) 4 .none >>= _) _ _ ⟨g2, gs, dr, tk + 1, os⟩
  refine wpAny_bind (wpAny_setField_rec e2 (by simp) fun g3 e3 s3 => ?_)
  replace s3 : Heap.SameBut e g2 g3 := s3
  replace e3 : IsEnum g3 e z ((k : Int) + 1) prev := e3
  show wpAny _ _ (newTuple [.int k tk, .ref hp.objs.size] >>= _) _ _ ⟨g3, gs, dr, tk + 1, os⟩
  refine wpAny_bind (wpAny_newTuple ?_)
  have size3 : g3.objs.size = hp.objs.size + 1 := by rw [s3.1, s2.1, size]
  have e4 : IsEnum (g3.push { cls := .type "tuple", data := .seq #[.int k tk, .ref hp.objs.size] }) e z ((k : Int) + 1) prev := Heap.get?_push_of_some _ e3
  have p4 : IsPair (g3.push { cls := .type "tuple", data := .seq #[.int k tk, .ref hp.objs.size] }) (hp.objs.size + 1) (.int k tk) (.ref hp.objs.size) := by rw [← size3]; exact Heap.get?_push_size _ rfl
  have k4 : ∀ b o, b ≠ e → g.get? b = some o → (g3.push { cls := .type "tuple", data := .seq #[.int k tk, .ref hp.objs.size] }).get? b = some o := fun b o n h => Heap.get?_push_of_some _ (s3.extBut b o n (s2.extBut b o n h))
  generalize g3.push { cls := .type "tuple", data := .seq #[.int k tk, .ref hp.objs.size] } = g4 at e4 p4 k4
  show wpAny _ _ (Builtin.SmallTypes.ownedTupleIsFree (.ref e) >>= _) _ _ ⟨g4, gs, dr, tk + 1, os⟩
  rw [size3]
  refine wpAny_bind ?_
  unfold Builtin.SmallTypes.ownedTupleIsFree
  refine wpAny_bind (wpAny_field e4 rfl (x := .none) rfl (wpAny_pure ?_))
  simp only [if_true]
  refine wpAny_bind (wpAny_rule ?_)
  refine wpAny_bind (wpAny_field e4 rfl (x := prev) rfl ?_)
  refine wpAny_bind (wpAny_setField_rec e4 (by simp) fun g5 e5 s5 => ?_)
  replace s5 : Heap.SameBut e g4 g5 := s5
  replace e5 : IsEnum g5 e z ((k : Int) + 1) (.ref hp.objs.size) := e5
  show wpAny _ _ (Builtin.SmallTypes.ownedTupleHandOut (.ref e) (.ref (hp.objs.size + 1)) >>= _) _ _ ⟨g5, gs, dr, tk + 1, os⟩
  refine wpAny_bind ?_
  unfold Builtin.SmallTypes.ownedTupleHandOut
  refine wpAny_bind (wpAny_setField_rec e5 (by simp) fun g6 e6 s6 => ?_)
  replace s6 : Heap.SameBut e g5 g6 := s6
  replace e6 : IsEnumOut g6 e z ((k : Int) + 1) (.ref hp.objs.size) (hp.objs.size + 1) := e6
  refine wpAny_setField_rec e6 (by simp) fun g7 e7 s7 => ?_
  replace s7 : Heap.SameBut e g6 g7 := s7
  replace e7 : IsEnumOut g7 e z ((k : Int) + 1) (.ref hp.objs.size) (hp.objs.size + 1) := e7
  have k7 : ∀ b o, b ≠ e → g4.get? b = some o → g7.get? b = some o := fun b o n h => s7.extBut b o n (s6.extBut b o n (s5.extBut b o n h))
  have up : ∀ b o, b ≠ e → g.get? b = some o → g7.get? b = some o := fun b o n h => k7 b o n (k4 b o n h)
  refine wpAny_bind (wpAny_letGo (wpAny_pure ⟨_, rfl, wpAny_pure (q g g7 (tk + 1) own' f' c' d' _ pn size keep up e7 (up _ _ (Ne.symm n1) z') oo (up _ _ (Ne.symm n2) po) (a1.at fun o h => up _ o (Ne.symm n3) h) (a2.at fun o h => up _ o (Ne.symm n4) h) ⟨tk, k7 _ _ ?_ p4⟩)⟩))
  exact Nat.ne_of_gt (Nat.lt_succ_of_lt el)
theorem ez_end {e i1 i2 l1 l2 : Addr} {k : Nat} {xs ys : Array Value} {c d prev : Value} {Q : Option Value → Shared → Prop} (h0 : A.handled = none) (D : ZipApart z TI TO i1 i2 l1 l2) (he : IsEnum s.heap e z (k : Int) prev) (hz : ZSt s.heap z TI TO own f) (ho : OwnOk own)
    (hI : IsPair s.heap TI (.ref i1) (.ref i2)) (hO : IsPair s.heap TO c d) (t1 : s.heap.IsTupleIter i1 l1 k) (t2 : s.heap.IsTupleIter i2 l2 k)
    (r1 : s.heap.IsTuple l1 xs) (r2 : s.heap.IsTuple l2 ys) (ends : xs[k]? = none ∨ ys[k]? = none)
    (q : ∀ g : Heap, (∀ b o, b ≠ z → b ≠ TO → b ≠ i1 → b ≠ i2 → s.heap.get? b = some o → g.get? b = some o) → Q none { s with heap := g }) :
    wpAny (model P w) A (pyNext (.ref e)) Q E s := by
  have ty : s.TypeIs (.ref e) "enumerate" := ⟨_, he, rfl⟩
  unfold pyNext
  refine wpAny_bind (wpAny_attempt (wpAny_callSpecial?_slot (name := Str.ofString "__next__") ty F.slot_enumerate_next (wpAny_call_entry F.slot_enumerate_next ty F.entry_enumerate_next ?_ (F.args_enumerate_next_1 _))))
  show wpAny (model P w) A.in1 (field (.ref e) 2 >>= _) _ _ s
  refine wpAny_bind (wpAny_field he rfl (x := .ref z) rfl ?_)
  refine wpAny_bind (z_end (by simp [h0]) D hz ho hI hO t1 t2 r1 r2 ends fun g x keep ⟨oe, e1, e2⟩ => ?_)
  refine wpAny_bind (wpAny_isInstance (T := "StopIteration") (b := true) ⟨oe, e1, e2⟩ isSubtype_stop ?_)
  exact wpAny_pure (q g keep)
end
end Vf

namespace PySem
theorem meets_enumerate_zip (z TI TO : Addr) (f0 : Value) :
    Meets (Builtin.«enumerate.__new__» ⟨[.type "enumerate", .ref z], []⟩) (fun _ R s => IsZip s.heap z TI TO f0 ∧
      R (.ok (.ret (.ref s.heap.objs.size))) { s with heap := s.heap.push { data := .fields #[.none, .bool false, .ref z, rawInt 0, .none, .none], cls := .type "enumerate" } }) :=
  .of_wp fun prg w A R s h => by
    obtain ⟨hp, g, d, tk, os⟩ := s; obtain ⟨hz, h⟩ := h
    have hsub := sub_enumerate
    have zz : IsZip (Shared.heap ⟨hp, g, d, tk, os⟩) z TI TO f0 := hz
    have q1 : ∀ {A' : Around} {E : Value → Shared → Prop} {Q : Value → Shared → Prop}, Q (.ref z) ⟨hp, g, d, tk, os⟩ → wpAny (model prg w) A' (pyIter (.ref z)) Q E ⟨hp, g, d, tk, os⟩ := fun q => wpAny_pyIter_zip zz q
    wp_walk using q1
    refine wpAny_stack_any fun here => wpAny_pure ?_
    split
    · rename_i cls9 _ _ _ _ _
      cases (cls9 == Value.type "enumerate")
      · wp_walk using q1
        exact ⟨_, rfl, h⟩
      · wp_walk using q1
        exact ⟨_, rfl, h⟩
    · wp_walk using q1
      exact ⟨_, rfl, h⟩
theorem call_enumerate_zip {prg : Program} {w : World} {A : Around} {E : Value → Shared → Prop} {s : Shared} {z TI TO : Addr} {f0 : Value} {Q : Value → Shared → Prop} (hz : IsZip s.heap z TI TO f0)
    (h : ∀ g, IsEnum g s.heap.objs.size z 0 .none → (∀ b o, s.heap.get? b = some o → g.get? b = some o) → Q (.ref s.heap.objs.size) { s with heap := g }) :
    wpAny (model prg w) A (call (.type "enumerate") [.ref z]) Q E s := by
  refine callType_new F.called_enumerate (by decide) (F.typeCall_enumerate_1 _) (F.newCall_enumerate_1 _) (fun it => F.args_object_init_2 it _) F.entry_enumerate_new (meets_enumerate_zip z TI TO f0) ⟨hz, ?_⟩
  have qe : IsEnum (s.heap.push { data := .fields #[.none, .bool false, .ref z, rawInt 0, .none, .none], cls := .type "enumerate" }) s.heap.objs.size z 0 .none := Heap.get?_push_size _ rfl
  exact ⟨⟨_, qe, rfl⟩, h _ qe fun b o e => Heap.get?_push_of_some _ e⟩
end PySem
namespace Vf
open PySem L2 PySem.Spec PyProof.Rows He RZ
/-- enumerate(zip(s, t)), s and t tuples -/
def IteZ (K : PySem.W.Frag) (a b : Addr) : It :=
  ⟨fun i H => ∃ (xs ys : List V) (x y : V), SqT K H a xs ∧ SqT K H b ys ∧ xs[i]? = some x ∧ ys[i]? = some y,
   fun i H v H' => ∃ Pp T x y, v = .ref T ∧ H Pp = none ∧ upd H Pp (.tup [x, y]) T = none ∧ H' = upd (upd H Pp (.tup [x, y])) T (.tup [.int (i : Nat), .ref Pp]) ∧ (∀ xs, SqT K H a xs → xs[i]? = some x) ∧ ∀ ys, SqT K H b ys → ys[i]? = some y,
   fun i H => ∃ xs ys : List V, SqT K H a xs ∧ SqT K H b ys ∧ (xs.length ≤ i ∨ ys.length ≤ i)⟩
structure EzAt (a b e z TI TO i1 i2 : Addr) (i : Nat) (h : Heap) : Prop where
  e : ∃ prev, IsEnum h e z (i : Int) prev
  z : ∃ own f, ZSt h z TI TO own f ∧ OwnOk own
  p : IsPair h TI (.ref i1) (.ref i2)
  o : ∃ c d, IsPair h TO c d
  t1 : h.IsTupleIter i1 a i
  t2 : h.IsTupleIter i2 b i
theorem turn_enumZ {P : Program} {w : World} {K : PySem.W.Frag} {elts : List Expr} {kk : Nat} {tpos : Pos} {a b e z TI TO i1 i2 : Addr} (D : ZipApart z TI TO i1 i2 a b) (n1 : e ≠ z) (n2 : e ≠ TO) (n3 : e ≠ i1) (n4 : e ≠ i2) (n5 : e ≠ TI) :
    Turn P w K (.Tuple elts kk tpos) (IteZ K a b) [e, z, TI, TO, i1, i2] e (EzAt a b e z TI TO i1 i2) where
  mem := by simp
  obj := fun i h here c hc => by
    obtain ⟨⟨prev, he⟩, ⟨own, f, hz, _⟩, hp, ⟨c', d', ho⟩, ⟨o1, e1, _, d1⟩, ⟨o2, e2, _, d2⟩⟩ := here
    have e' : c = e ∨ c = z ∨ c = TI ∨ c = TO ∨ c = i1 ∨ c = i2 := by simpa using hc
    rcases e' with q | q | q | q | q | q
    · rw [q]; exact ⟨_, he, fun v q => nomatch q⟩
    · rw [q]; exact ⟨_, hz, fun v q => nomatch q⟩
    · rw [q]; exact ⟨_, hp, fun v q => nomatch q⟩
    · rw [q]; exact ⟨_, ho, fun v q => nomatch q⟩
    · rw [q]; exact ⟨o1, e1, fun v q => by rw [d1] at q; cases q⟩
    · rw [q]; exact ⟨o2, e2, fun v q => by rw [d2] at q; cases q⟩
  keep := fun i h h' here k => by
    obtain ⟨⟨prev, he⟩, ⟨own, f, hz, oo⟩, hp, ⟨c', d', ho⟩, h1, h2⟩ := here
    exact ⟨⟨prev, k e (by simp) _ he⟩, ⟨own, f, k z (by simp) _ hz, oo⟩, k TI (by simp) _ hp, ⟨c', d', k TO (by simp) _ ho⟩, h1.at fun o q => k i1 (by simp) o q, h2.at fun o q => k i2 (by simp) o q⟩
  item := by
    intro X hP hw hK wc i pins s σ H E I fp here got
    subst hP hw hK
    obtain ⟨⟨prev, he⟩, ⟨own, f, hz, oo⟩, hp, ⟨c', d', ho⟩, h1, h2⟩ := here
    obtain ⟨xs, ys, x, y, qx, qy, hx, hy⟩ := got
    obtain ⟨its, rv, p1, _⟩ := I.tuple qx
    obtain ⟨its2, rv2, p2, _⟩ := I.tuple qy
    obtain ⟨u, hu, ru⟩ := rv.get hx
    obtain ⟨u2, hu2, ru2⟩ := rv2.get hy
    have el : e < s.heap.objs.size := Heap.lt_size he
    have small : ∀ c ∈ [e, z, TI, TO, i1, i2], c < s.heap.objs.size := fun c hc => by
      have e' : c = e ∨ c = z ∨ c = TI ∨ c = TO ∨ c = i1 ∨ c = i2 := by simpa using hc
      rcases e' with q | q | q | q | q | q
      · rw [q]; exact el
      · rw [q]; exact Heap.lt_size hz
      · rw [q]; exact Heap.lt_size hp
      · rw [q]; exact Heap.lt_size ho
      · rw [q]; obtain ⟨_, e1, _⟩ := h1; exact Heap.lt_size e1
      · rw [q]; obtain ⟨_, e2, _⟩ := h2; exact Heap.lt_size e2
    refine ez_item D he hz oo n1 n2 n3 n4 n5 hp ho h1 h2 p1 p2 (x := u) (y := u2) (by simpa using hu) (by simpa using hu2) fun g g' tk own' f' c2 d2 v pn size keep up en z' oo' po a1 a2 ⟨tt, pT⟩ => ?_
    refine ⟨_, rfl, wpAny_letOwnedTupleGo_enum (s := { s with heap := g', toks := tk }) en fun g2 e2 only => ?_⟩
    have up2 : ∀ c o, c ≠ e → g'.get? c = some o → g2.get? c = some o := fun c o n h => (only.2 c n).trans h
    have I1 : Inv X pins σ (upd H s.heap.objs.size (.tup [x, y])) { s with heap := g, toks := s.toks } :=
      I.turnedNew (ch := [e, z, TI, TO, i1, i2]) (fun c o hb q => keep c o (fun q' => hb (by simp [q'])) (fun q' => hb (by simp [q'])) (fun q' => hb (by simp [q'])) (fun q' => hb (by simp [q'])) q) fp (Nat.le_refl _)
        ⟨by show 2 ≤ sizeLine; decide, [u, u2], .cons ru (.cons ru2 .nil), ⟨_, pn, rfl, _, rfl⟩⟩
    have fp1 : ∀ c ∈ [e, z, TI, TO, i1, i2], FpOk X pins (upd H s.heap.objs.size (.tup [x, y])) c := fun c hc => ⟨by rw [upd_ne (Nat.ne_of_lt (small c hc))]; exact (fp c hc).1, (fp c hc).2⟩
    have hT : upd H s.heap.objs.size (.tup [x, y]) (s.heap.objs.size + 1) = none := I1.hok.fresh (by show g.objs.size ≤ _; rw [size]; exact Nat.le_refl _)
    have pT2 : IsPair g2 (s.heap.objs.size + 1) (.int i tt) (.ref s.heap.objs.size) := up2 _ _ (Nat.ne_of_gt (Nat.lt_succ_of_lt el)) pT
    have I2 : Inv X pins σ (upd (upd H s.heap.objs.size (.tup [x, y])) (s.heap.objs.size + 1) (.tup [.int (i : Nat), .ref s.heap.objs.size])) { s with heap := g2, toks := tk } :=
      I1.turnedNew (t' := tk) (ch := [e]) (fun c o hb q => up2 c o (fun q' => hb (by simp [q'])) (up c o (fun q' => hb (by simp [q'])) q)) (fun c hc => fp1 c (by rw [List.mem_singleton.mp hc]; simp)) (by show g.objs.size ≤ _; rw [size]; exact Nat.le_refl _)
        ⟨by show 2 ≤ sizeLine; decide, [.int i tt, .ref s.heap.objs.size], .cons ⟨_, rfl⟩ (.cons rfl .nil), ⟨_, pT2, rfl, _, rfl⟩⟩
    refine ⟨.ref (s.heap.objs.size + 1), _, I2, rfl, ⟨s.heap.objs.size, _, x, y, rfl, I.hok.fresh (Nat.le_refl _), hT, rfl, fun l hl => by rw [I.tuple_inj hl qx]; exact hx, fun l hl => by rw [I.tuple_inj hl qy]; exact hy⟩, ⟨⟨v, ?_⟩, ⟨own', f', up2 _ _ (Ne.symm n1) z', oo'⟩, up2 _ _ (Ne.symm n5) (up _ _ (Ne.symm n5) (keep _ _ D.TIz D.TITO D.TIi1 D.TIi2 hp)), ⟨c2, d2, up2 _ _ (Ne.symm n2) po⟩, a1.at fun o q => up2 _ o (Ne.symm n3) q, a2.at fun o q => up2 _ o (Ne.symm n4) q⟩, fun c hc => ?_⟩
    · have up1 : ((i + 1 : Nat) : Int) = (i : Int) + 1 := by omega
      rw [up1]; exact e2
    · have lt := small c hc
      rw [upd_ne (Nat.ne_of_lt (Nat.lt_succ_of_lt lt)), upd_ne (Nat.ne_of_lt lt)]
      exact (fp c hc).1
  done := by
    intro X hP hw hK wc i pins s σ H E I fp here got
    subst hP hw hK
    obtain ⟨⟨prev, he⟩, ⟨own, f, hz, oo⟩, hp, ⟨c', d', ho⟩, h1, h2⟩ := here
    obtain ⟨xs, ys, qx, qy, ends⟩ := got
    obtain ⟨its, rv, p1, _⟩ := I.tuple qx
    obtain ⟨its2, rv2, p2, _⟩ := I.tuple qy
    have l1 := rv.length
    have l2 := rv2.length
    have en : its.toArray[i]? = none ∨ its2.toArray[i]? = none := by
      rcases ends with q | q
      · exact .inl (by simp; omega)
      · exact .inr (by simp; omega)
    exact ez_end (I.ok.hd wc) D he hz oo hp ho h1 h2 p1 p2 en fun g keep => ⟨rfl, I.turnedL (t' := s.toks) (ch := [e, z, TI, TO, i1, i2]) (fun c o hb q =>
      keep c o (fun q' => hb (by simp [q'])) (fun q' => hb (by simp [q'])) (fun q' => hb (by simp [q'])) (fun q' => hb (by simp [q'])) q) fp⟩
  self := fun A i s Q E here h => let ⟨_, he⟩ := here.e; wpAny_pyIter_enum he h
def iEnumZ (K : PySem.W.Frag) (ta : TA) : TI := fun σ H R => ta σ H fun vs H1 => ∃ a b xs ys, vs = [.ref a, .ref b] ∧ SqT K H1 a xs ∧ SqT K H1 b ys ∧ R (IteZ K a b) H1
theorem pi_enumZ {X : Cx} {e e2 : Expr} {ta : TA} {p p2 pos pos2 tpos : Pos} {elts : List Expr} {kk : Nat} (g1 : Gl X "enumerate") (m1 : X.mg "enumerate" = none) (g2 : Gl X "zip") (m2 : X.mg "zip" = none) (ha : PA X [e, e2] ta)
    (hs : starEach [e, e2] X.env = (false, eval e X.env) :: starEach [e2] X.env := by rfl) (hpl : (backTo pos2 (starEach [e2] X.env)).any (·.1) = false := by rfl)
    (hs1 : starEach [Expr.Call (.Name "zip" p2) [e, e2] [] pos2] X.env = [(false, eval (.Call (.Name "zip" p2) [e, e2] [] pos2) X.env)] := by rfl) :
    PI X (.Tuple elts kk tpos) (.Call (.Name "enumerate" p) [.Call (.Name "zip" p2) [e, e2] [] pos2] [] pos) (iEnumZ X.K ta) := by
  refine ⟨fun pins s σ H R I h => ?_⟩
  refine Call_ (ld_blt I g1 m1 boot_enumerate (PyProof.Rows.callWith_type1 ?_ hs1 rfl))
  rw [hs1]
  show wpAny _ _ (spliced [(false, eval (.Call (.Name "zip" p2) [e, e2] [] pos2) X.env)]) _ _ s
  refine Calls.spliced_cons ?_
  refine Call_ (ld_blt I g2 m2 PyProof.Rows.boot_zip (PyProof.Rows.callWith_type1 (thn (ha.run pos2 pins s σ H _ I h) fun us s1 ⟨vs, H1, I1, r1, q1⟩ => ?_) hs hpl))
  obtain ⟨a, b, xs, ys, ex, qx, qy, q⟩ := q1
  subst ex
  cases r1 with
  | cons r rr =>
    cases rr with
    | cons r' rr =>
      cases rr
      cases r
      cases r'
      obtain ⟨its, rv, p1, _⟩ := I1.tuple qx
      obtain ⟨its2, rv2, p2', _⟩ := I1.tuple qy
      obtain ⟨o1, ho1, _⟩ := id p1
      obtain ⟨o2, ho2, _⟩ := id p2'
      refine call_zipT (show s1.heap.IsTuple a its.toArray from p1) (show s1.heap.IsTuple b its2.toArray from p2') fun g hz hTI hTO t1 t2 hsz hk => ?_
      refine Calls.spliced_nil ?_
      refine call_enumerate_zip (s := { s1 with heap := g }) hz fun g2 he hk2 => wpAny_pyIter_enum he ?_
      have I2 : Inv X pins σ H1 { s1 with heap := g2 } := I1.kept (t' := s1.toks) fun c o q => hk2 c o (hk c o q)
      have above : ∀ c, s1.heap.objs.size ≤ c → FpOk X pins H1 c := fun c hle => I1.fpOk hle (I1.hok.fresh hle)
      dsimp only at he hk2
      rw [hsz] at he ⊢
      refine ⟨s1.heap.objs.size + 5, [s1.heap.objs.size + 5, s1.heap.objs.size + 4, s1.heap.objs.size + 2, s1.heap.objs.size + 3, s1.heap.objs.size, s1.heap.objs.size + 1], _, _, H1, rfl, I2,
        turn_enumZ (PySem.W.ktu_apart s1.heap.objs.size a b (Heap.lt_size ho1) (Heap.lt_size ho2)) (by intro z; exact absurd (Nat.add_left_cancel z) (by decide)) (by intro z; exact absurd (Nat.add_left_cancel z) (by decide)) (Nat.ne_of_gt (Nat.lt_add_of_pos_right (by decide))) (by intro z; exact absurd (Nat.add_left_cancel z) (by decide)) (by intro z; exact absurd (Nat.add_left_cancel z) (by decide)),
        ⟨⟨.none, he⟩, ⟨.none, false, hk2 _ _ hz, .inl rfl⟩, hk2 _ _ hTI, ⟨_, _, hk2 _ _ hTO⟩, t1.at fun o q => hk2 _ o q, t2.at fun o q => hk2 _ o q⟩, fun c hc => ?_, q⟩
      have e' : c = s1.heap.objs.size + 5 ∨ c = s1.heap.objs.size + 4 ∨ c = s1.heap.objs.size + 2 ∨ c = s1.heap.objs.size + 3 ∨ c = s1.heap.objs.size ∨ c = s1.heap.objs.size + 1 := by simpa using hc
      rcases e' with z | z | z | z | z | z <;> rw [z] <;> exact above _ (by first | exact Nat.le_add_right _ _ | exact Nat.le_refl _)
/-- the turns of such a loop -/
theorem for_enumZ {K : PySem.W.Frag} {a b : Addr} {xs ys : List V} {g : TG} {tb : TS} {D : Ends} {σ : L2.St} {H : Hp} (hl : xs.length = ys.length) (Pv : Nat → L2.St → Hp → Prop) (h0 : Pv 0 σ H) (hq : ∀ i σ H, Pv i σ H → SqT K H a xs ∧ SqT K H b ys)
    (hs : ∀ (i : Nat) (x y : V) (Pp T : Addr) (σ : L2.St) (H : Hp), xs[i]? = some x → ys[i]? = some y → Pv i σ H → H Pp = none → upd H Pp (.tup [x, y]) T = none →
      g (.ref T) σ (upd (upd H Pp (.tup [x, y])) T (.tup [.int (i : Nat), .ref Pp])) fun σ2 H2 => tb { D with nx := Pv (i + 1), ct := Pv (i + 1), bk := D.nx } σ2 H2)
    (hd : ∀ σ H, Pv xs.length σ H → D.nx σ H) : ForB (IteZ K a b) g tb D σ H := by
  refine ⟨fun i m σ H => m = xs.length - i ∧ i ≤ xs.length ∧ Pv i σ H, ⟨xs.length, rfl, Nat.zero_le _, h0⟩, ?_⟩
  rintro i m σ H ⟨rfl, hi, p⟩
  obtain ⟨qx, qy⟩ := hq i σ H p
  by_cases lt : i < xs.length
  · have hx : xs[i]? = some xs[i] := List.getElem?_eq_getElem lt
    have hy : ys[i]? = some (ys[i]'(by omega)) := List.getElem?_eq_getElem (by omega)
    refine .inr ⟨⟨xs, ys, _, _, qx, qy, hx, hy⟩, Pv (i + 1), fun σ' H' p' => ⟨xs.length - (i + 1), by omega, rfl, lt, p'⟩, fun v H' y => ?_⟩
    obtain ⟨Pp, T, x', y', rfl, hP, hT, rfl, f1, f2⟩ := y
    exact hs i x' y' Pp T σ H (f1 xs qx) (f2 ys qy) p hP hT
  · have e : i = xs.length := by omega
    subst e
    exact .inl ⟨⟨xs, ys, qx, qy, .inl (Nat.le_refl _)⟩, hd σ H p⟩
end Vf

namespace Vf
open PySem L2 PySem.Spec PyProof.Rows He RZ
/-! max(xs): xs a list of references to data of one form -/
structure MdK (K : PySem.W.Frag) (H : Hp) (a : Addr) (ps : List Addr) (kd : Nat → PyData) : Prop where
  lst : SqL K H a (ps.map V.ref)
  dp : ∀ i p, ps[i]? = some p → Dp K H (.ref p) (kd i)
  alk : ∀ i j, i < ps.length → j < ps.length → PySem.W.alike (kd i) (kd j) = true
  nn : ∀ i, i < ps.length → kd i ≠ .none
  dep : ∀ i, i < ps.length → (kd i).depth ≤ 60
section
variable {X : Cx} {a : Addr} {pins : List (Addr × Obj)} {σ : L2.St} {ps : List Addr} {kd : Nat → PyData} {H : Hp} {S it : Addr} {R : Result → Shared → Prop}
theorem md_loop (hc : X.calm = true) (hu : X.A.units + 64 < cLine) (M : MdK X.K H a ps kd) (fS : FpOk X pins H S) (fI : FpOk X pins H it) (ne : S ≠ it) :
    ∀ (m j : Nat) (s : Shared) (p : Addr) (c : Nat), ps.length - (j + 1) = m → j + 1 ≤ ps.length → Inv X pins σ H s → ps[argBest (mxB kd) j]? = some p → s.heap.get? S = some (mxS (.ref p) (.ref p) c) → s.heap.IsListIter it a (j + 1) →
    (∀ (s' : Shared) (p : Addr), Inv X pins σ H s' → ps[argBest (mxB kd) (ps.length - 1)]? = some p → R (.ok (.ret (.ref p))) s') → codeAny (model X.prog X.w) X.A (.builtin "max.loop" ⟨[.ref it, .none, .ref S], []⟩) R s := by
  have hname : (toString "max" ++ toString ".loop" : String) = "max.loop" := by decide
  intro m
  induction m with
  | zero =>
    intro j s p c hm hj I hp hS st hR
    obtain ⟨its, rv, pl, hz⟩ := I.list M.lst
    have hl := rv.length
    rw [List.length_map] at hl
    refine codeAny_builtin PySem.F.entry_max_loop ?_
    rw [Around.under_plainId PySem.F.plain_max_loop _]
    show wpAny _ X.A.in1 (seqItems? (.ref S) >>= _) _ _ s
    refine wpAny_bind (wpAny_seqItems hS rfl ?_)
    refine wpAny_bind (wpAny_tryCatch ?_)
    refine wpAny_pyNext_list_end (I.ok.hd hc) st pl.isList (by simp; omega) fun h' eb => ?_
    have I1 : Inv X pins σ H { s with heap := h' } := I.turned (t' := s.toks) (fun b o hb e => eb b o hb e) fI.1 fI.2.1 fI.2.2.2.1 fI.2.2.2.2.1 fI.2.2.2.2.2
    have hS' : ({ s with heap := h' } : Shared).heap.get? S = some (mxS (.ref p) (.ref p) c) := eb S _ ne hS
    show wpAny _ X.A.in1 (updateSeq S (fun _ => #[]) >>= _) _ _ _
    refine wpAny_bind (wpAny_updateSeq hS' rfl (wpAny_bind (wpAny_letGo (wpAny_pure ?_))))
    have I2 := I1.turned (it := S) (t' := s.toks) (h' := h'.update S (Obj.mapSeq fun _ => #[])) (fun b o hb e => (Heap.get?_update_other _ _ (Ne.symm hb)).trans e) fS.1 fS.2.1 fS.2.2.2.1 fS.2.2.2.2.1 fS.2.2.2.2.2
    refine hR _ p I2 ?_
    rw [show ps.length - 1 = j from by omega]
    exact hp
  | succ m ih =>
    intro j s p c hm hj I hp hS st hR
    obtain ⟨its, rv, pl, hz⟩ := I.list M.lst
    have hlt : j + 1 < ps.length := by omega
    have hx : ps[j + 1]? = some ps[j + 1] := List.getElem?_eq_getElem hlt
    obtain ⟨u, hu1, ru⟩ := rv.get (i := j + 1) (x := .ref ps[j + 1]) (by rw [List.getElem?_map, hx]; rfl)
    cases ru
    generalize ps[j + 1] = q at hx hu1
    refine codeAny_builtin PySem.F.entry_max_loop ?_
    rw [Around.under_plainId PySem.F.plain_max_loop _]
    show wpAny _ X.A.in1 (seqItems? (.ref S) >>= _) _ _ s
    refine wpAny_bind (wpAny_seqItems hS rfl ?_)
    refine wpAny_bind (wpAny_tryCatch ?_)
    refine wpAny_pyNext_list_item st pl.isList (x := .ref q) (by simpa using hu1) fun h' st' sb => ?_
    have I1 : Inv X pins σ H { s with heap := h' } := I.turned (t' := s.toks) (fun b o hb e => (sb.2 b hb).trans e) fI.1 fI.2.1 fI.2.2.2.1 fI.2.2.2.2.1 fI.2.2.2.2.2
    have hS' : ({ s with heap := h' } : Shared).heap.get? S = some (mxS (.ref p) (.ref p) c) := (sb.2 S ne).trans hS
    have hbl := argBest_lt (mxB kd) j
    obtain ⟨as1, r1⟩ := Dp.reads I1 _ _ _ (M.dp _ _ hx) rfl
    obtain ⟨as2, r2⟩ := Dp.reads I1 _ _ _ (M.dp _ _ hp) rfl
    refine wpAny_bind (wpAny_pure ?_)
    refine wpAny_bind (wpAny_tryCatch (wpAny_holding (wpAny_bind (PySem.W.gt_data r1 r2 (M.alk _ _ hlt (by omega)) (M.nn _ hlt) (by
      have h1 := Nat.min_le_left (kd (j + 1)).depth (kd (argBest (mxB kd) j)).depth
      have h2 := M.dep _ hlt
      show X.A.units + 1 + _ < _
      omega) ?_))))
    refine wpAny_bind (wpAny_holding (wpAny_truthy_bool ?_))
    refine wpAny_bind (wpAny_letGo (wpAny_pure ?_))
    have eB : argBest (mxB kd) (j + 1) = if PySem.W.dataLt (kd (argBest (mxB kd) j)) (kd (j + 1)) = true then j + 1 else argBest (mxB kd) j := rfl
    cases hcmp : PySem.W.dataLt (kd (argBest (mxB kd) j)) (kd (j + 1)) with
    | true =>
      rw [hcmp, if_pos rfl] at eB
      simp only [if_true]
      refine wpAny_bind (wpAny_updateSeq hS' rfl (wpAny_bind (wpAny_letGo ?_)))
      rw [hname]
      refine wpAny_pure ⟨plainId_quiet PySem.F.plain_max_loop _, ih (j + 1) _ q c (by omega) hlt ?_ (by rw [eB]; exact hx) ?_ (st'.at fun o e => ?_) hR⟩
      · exact I1.turned (it := S) (t' := s.toks) (fun b o hb e => (Heap.get?_update_other _ _ (Ne.symm hb)).trans e) fS.1 fS.2.1 fS.2.2.2.1 fS.2.2.2.2.1 fS.2.2.2.2.2
      · exact Heap.get?_update_self _ hS' rfl
      · exact (Heap.get?_update_other _ _ ne).trans e
    | false =>
      rw [hcmp, if_neg Bool.false_ne_true] at eB
      simp only [Bool.false_eq_true, if_false]
      refine wpAny_bind (wpAny_letGo ?_)
      rw [hname]
      exact wpAny_pure ⟨plainId_quiet PySem.F.plain_max_loop _, ih (j + 1) _ p c (by omega) hlt I1 (by rw [eB]; exact hp) hS' st' hR⟩
/-- the first of the best -/
def rMaxD (K : PySem.W.Frag) : List V → Hp → VK → Prop := fun vs H Q => ∃ (a : Addr) (ps : List Addr) (kd : Nat → PyData), vs = [.ref a] ∧ 0 < ps.length ∧ MdK K H a ps kd ∧ ∀ p, ps[mxI kd ps.length]? = some p → Q (.ref p) H
theorem cr_maxD (hc : X.calm = true) (hu : X.A.units + 64 < cLine) : CallR X (.builtin "max") (rMaxD X.K) := by
  intro pins s σ H vs us Q I r hq
  obtain ⟨a, ps, kd, rfl, hn, M, q⟩ := hq
  obtain rfl := Vals.ref1 r
  have hname : (toString "max" ++ toString ".loop" : String) = "max.loop" := by decide
  refine PyProof.Rows.kmk_tree PySem.F.kind_max PySem.F.plain_max PySem.F.entry_max (by unfold argsOk; kernel_rfl) ?_
  refine wpAny_bind (wpAny_of_eq (a := [none, none]) (by rfl) ?_)
  refine wpAny_bind (wpAny_pure ?_)
  obtain ⟨its, rv, pl, hz⟩ := I.list M.lst
  refine wpAny_bind (wpAny_pyIter_list pl.isList ?_)
  have I1 : Inv X pins σ H { s with heap := s.heap.push { cls := .type "list_iterator", data := .fields #[.ref a, .int 0 0] } } := I.kept (t' := s.toks) fun b o e => Heap.get?_push_of_some _ e
  have fI : FpOk X pins H s.heap.objs.size := I.fpOk (Nat.le_refl _) (I.hok.fresh (Nat.le_refl _))
  have st0 : ({ s with heap := s.heap.push { cls := .type "list_iterator", data := .fields #[.ref a, .int 0 0] } } : Shared).heap.IsListIter s.heap.objs.size a 0 := ⟨_, Heap.get?_push_size _ rfl, rfl, rfl⟩
  generalize hs1 : ({ s with heap := s.heap.push { cls := .type "list_iterator", data := .fields #[.ref a, .int 0 0] } } : Shared) = s1 at I1 st0 ⊢
  have sz1 : s1.heap.objs.size = s.heap.objs.size + 1 := by rw [← hs1]; exact size_push' ..
  have fS : FpOk X pins H s1.heap.objs.size := I1.fpOk (Nat.le_refl _) (I1.hok.fresh (Nat.le_refl _))
  refine wpAny_bind (wpAny_newObj_type ?_)
  rw [hname]
  have I2 : Inv X pins σ H { s1 with heap := s1.heap.push { cls := .type "list", data := .seq #[] 0 } } := I1.kept (t' := s1.toks) fun b o e => Heap.get?_push_of_some _ e
  have hS : (s1.heap.push { cls := .type "list", data := .seq #[] 0 }).get? s1.heap.objs.size = some { cls := .type "list", data := .seq #[] 0 } := Heap.get?_push_size _ rfl
  have st1 := st0.at (h' := s1.heap.push { cls := .type "list", data := .seq #[] 0 }) fun o e => Heap.get?_push_of_some _ e
  have ne : s1.heap.objs.size ≠ s.heap.objs.size := fun z => by rw [sz1] at z; exact absurd z (Nat.succ_ne_self _)
  refine wpAny_pure ⟨plainId_quiet PySem.F.plain_max_loop _, ?_⟩
  generalize hs2 : ({ s1 with heap := s1.heap.push { cls := .type "list", data := .seq #[] 0 } } : Shared) = s2 at I2
  have hS2 : s2.heap.get? s1.heap.objs.size = some { cls := .type "list", data := .seq #[] 0 } := by rw [← hs2]; exact hS
  have st2 : s2.heap.IsListIter s.heap.objs.size a 0 := by rw [← hs2]; exact st1
  obtain ⟨its2, rv2, pl2, hz2⟩ := I2.list M.lst
  have hx : ps[0]? = some ps[0] := List.getElem?_eq_getElem hn
  obtain ⟨u, hu1, ru⟩ := rv2.get (i := 0) (x := .ref ps[0]) (by rw [List.getElem?_map, hx]; rfl)
  cases ru
  generalize ps[0] = b0 at hx hu1
  refine codeAny_builtin PySem.F.entry_max_loop ?_
  rw [Around.under_plainId PySem.F.plain_max_loop _]
  show wpAny _ X.A.in1 (seqItems? (.ref s1.heap.objs.size) >>= _) _ _ s2
  refine wpAny_bind (wpAny_seqItems hS2 rfl ?_)
  refine wpAny_bind (wpAny_tryCatch ?_)
  refine wpAny_pyNext_list_item st2 pl2.isList (x := .ref b0) (by simpa using hu1) fun h' st' sb => ?_
  have I3 : Inv X pins σ H { s2 with heap := h' } := I2.turned (t' := s2.toks) (fun b o hb e => (sb.2 b hb).trans e) fI.1 fI.2.1 fI.2.2.2.1 fI.2.2.2.2.1 fI.2.2.2.2.2
  have hS3 : ({ s2 with heap := h' } : Shared).heap.get? s1.heap.objs.size = some { cls := .type "list", data := .seq #[] 0 } := (sb.2 _ ne).trans hS2
  refine wpAny_bind (wpAny_pure ?_)
  refine wpAny_bind (wpAny_updateSeq hS3 rfl ?_)
  rw [hname]
  refine wpAny_pure ⟨plainId_quiet PySem.F.plain_max_loop _, md_loop hc hu M fS fI ne _ 0 _ b0 1 rfl hn ?_ hx ?_ (st'.at fun o e => ?_) fun s' p I' hp' => ⟨.ref p, H, I', rfl, q p hp'⟩⟩
  · exact I3.turned (it := s1.heap.objs.size) (t' := s2.toks) (fun b o hb e => (Heap.get?_update_other _ _ (Ne.symm hb)).trans e) fS.1 fS.2.1 fS.2.2.2.1 fS.2.2.2.2.1 fS.2.2.2.2.2
  · exact Heap.get?_update_self _ hS3 rfl
  · exact (Heap.get?_update_other _ _ ne).trans e
end
end Vf

namespace Vf
open PySem L2 PySem.Spec PyProof.Rows He RZ
/-! zip(xs, t), a list and a tuple -/
def ItzLT (K : PySem.W.Frag) (a b : Addr) : It :=
  ⟨fun i H => ∃ (xs ys : List V) (x y : V), SqL K H a xs ∧ SqT K H b ys ∧ xs[i]? = some x ∧ ys[i]? = some y,
   fun i H v H' => ∃ T x y, v = .ref T ∧ H T = none ∧ H' = upd H T (.tup [x, y]) ∧ (∀ xs, SqL K H a xs → xs[i]? = some x) ∧ ∀ ys, SqT K H b ys → ys[i]? = some y,
   fun i H => ∃ xs ys : List V, SqL K H a xs ∧ SqT K H b ys ∧ (xs.length = i ∨ ys.length = i) ∧ i ≤ xs.length ∧ i ≤ ys.length⟩
structure ZlAt (a b z TI TO i1 i2 : Addr) (i : Nat) (h : Heap) : Prop where
  z : IsZip h z TI TO .none
  p : IsTupOf2 h TI (.ref i1) (.ref i2)
  o : ∃ c d, IsTupOf2 h TO c d
  t1 : h.IsListIter i1 a i
  t2 : h.IsTupleIter i2 b i
theorem turn_zipLT {P : Program} {w : World} {K : PySem.W.Frag} {elts : List Expr} {kk : Nat} {tpos : Pos} {a b z TI TO i1 i2 : Addr} (D : ZipSep2 z TI TO i1 i2 [i1, a] [i2, b]) (na : a ≠ i1) (nb : b ≠ i2) :
    Turn P w K (.Tuple elts kk tpos) (ItzLT K a b) [z, TI, TO, i1, i2] z (ZlAt a b z TI TO i1 i2) where
  mem := by simp
  obj := fun i h here c hc => by
    obtain ⟨hz, hp, ⟨c', d', ho⟩, ⟨o1, e1, _, d1⟩, ⟨o2, e2, _, d2⟩⟩ := here
    have e' : c = z ∨ c = TI ∨ c = TO ∨ c = i1 ∨ c = i2 := by simpa using hc
    rcases e' with q | q | q | q | q
    · rw [q]; exact ⟨_, hz, fun v q => nomatch q⟩
    · rw [q]; exact ⟨_, hp, fun v q => nomatch q⟩
    · rw [q]; exact ⟨_, ho, fun v q => nomatch q⟩
    · rw [q]; exact ⟨o1, e1, fun v q => by rw [d1] at q; cases q⟩
    · rw [q]; exact ⟨o2, e2, fun v q => by rw [d2] at q; cases q⟩
  keep := fun i h h' here k => by
    obtain ⟨hz, hp, ⟨c', d', ho⟩, h1, h2⟩ := here
    exact ⟨k z (by simp) _ hz, k TI (by simp) _ hp, ⟨c', d', k TO (by simp) _ ho⟩, h1.at fun o q => k i1 (by simp) o q, h2.at fun o q => k i2 (by simp) o q⟩
  item := by
    intro X hP hw hK wc i pins s σ H E I fp here got
    subst hP hw hK
    obtain ⟨hz, hp, ⟨c', d', ho⟩, h1, h2⟩ := here
    obtain ⟨xs, ys, x, y, qx, qy, hx, hy⟩ := got
    obtain ⟨its, rv, p1, _⟩ := I.list qx
    obtain ⟨its2, rv2, p2, _⟩ := I.tuple qy
    obtain ⟨u, hu, ru⟩ := rv.get hx
    obtain ⟨u2, hu2, ru2⟩ := rv2.get hy
    have h0 : X.A.in1.handled = none := I.ok.hd wc
    have zl : z < s.heap.objs.size := Heap.lt_size hz
    have lt1 : i < its.toArray.size := by have := (List.getElem?_eq_some_iff.mp hu).1; simpa using this
    have lt2 : i < its2.toArray.size := by have := (List.getElem?_eq_some_iff.mp hu2).1; simpa using this
    refine wpAny_pyNext_zipD2_item D (Draws.list (A := X.A.in1) h0 i1 a na its.toArray) (Draws.tuple (A := X.A.in1) h0 i2 b nb its2.toArray) hz hp ho ⟨h1, p1.isList⟩ ⟨h2, p2⟩ lt1 lt2 fun x1 x2 g tk y1 y2 z' o' s1 s2 pT size keep => ?_
    have e1 : x1 = u := by
      have q1 : its[i]? = some x1 := by simpa using y1
      exact Option.some.inj (q1.symm.trans hu)
    have e2 : x2 = u2 := by
      have q1 : its2[i]? = some x2 := by simpa using y2
      exact Option.some.inj (q1.symm.trans hu2)
    subst e1 e2
    refine ⟨_, rfl, wpAny_letOwnedTupleGo_zip (s := { s with heap := g, toks := tk }) z' fun g2 z2 only => ?_⟩
    have up : ∀ c o, c ≠ z → g.get? c = some o → g2.get? c = some o := fun c o n h => (only.2 c n).trans h
    have pT2 : IsTupOf2 g2 s.heap.objs.size x1 x2 := up _ _ (Nat.ne_of_gt zl) pT
    have I1 : Inv X pins σ (upd H s.heap.objs.size (.tup [x, y])) { s with heap := g2, toks := tk } :=
      I.turnedNew (ch := [z, TI, TO, i1, i2]) (fun c o hb q => up c o (fun q' => hb (by simp [q'])) (keep c o (fun q' => hb (by simp [q'])) (fun q' => hb (by simp [q'])) (fun q' => hb (by simp [q'])) (fun q' => hb (by simp [q'])) q)) fp (Nat.le_refl _)
        ⟨by show 2 ≤ sizeLine; decide, [x1, x2], .cons ru (.cons ru2 .nil), ⟨_, pT2, rfl, _, rfl⟩⟩
    refine ⟨.ref s.heap.objs.size, _, I1, rfl, ⟨_, x, y, rfl, I.hok.fresh (Nat.le_refl _), rfl, fun l hl => by rw [I.list_inj hl qx]; exact hx, fun l hl => by rw [I.tuple_inj hl qy]; exact hy⟩, ⟨z2, up _ _ D.TIz (keep _ _ D.TIz D.TITO D.TIi1 D.TIi2 hp), ⟨x1, x2, up _ _ D.TOz o'⟩, s1.1.at fun o q => up _ o D.zi1.symm q, s2.1.at fun o q => up _ o D.zi2.symm q⟩, fun c hcm => ?_⟩
    have lt : c < s.heap.objs.size := by
      have e' : c = z ∨ c = TI ∨ c = TO ∨ c = i1 ∨ c = i2 := by simpa using hcm
      rcases e' with q | q | q | q | q
      · rw [q]; exact zl
      · rw [q]; exact Heap.lt_size hp
      · rw [q]; exact Heap.lt_size ho
      · rw [q]; obtain ⟨_, e1, _⟩ := h1; exact Heap.lt_size e1
      · rw [q]; obtain ⟨_, e2, _⟩ := h2; exact Heap.lt_size e2
    rw [upd_ne (Nat.ne_of_lt lt)]
    exact (fp c hcm).1
  done := by
    intro X hP hw hK wc i pins s σ H E I fp here got
    subst hP hw hK
    obtain ⟨hz, hp, ⟨c', d', ho⟩, h1, h2⟩ := here
    obtain ⟨xs, ys, qx, qy, en, le1, le2⟩ := got
    obtain ⟨its, rv, p1, _⟩ := I.list qx
    obtain ⟨its2, rv2, p2, _⟩ := I.tuple qy
    have l1 := rv.length
    have l2 := rv2.length
    have h0 : X.A.in1.handled = none := I.ok.hd wc
    refine wpAny_pyNext_zipD2_end D (Draws.list (A := X.A.in1) h0 i1 a na its.toArray) (Draws.tuple (A := X.A.in1) h0 i2 b nb its2.toArray) hz hp ho ⟨h1, p1.isList⟩ ⟨h2, p2⟩ (by simp; omega) (by simp; omega) (by simp; omega) fun g tk keep => ⟨rfl, ?_⟩
    exact I.turnedL (t' := tk) (ch := [z, TI, TO, i1, i2]) (fun c o hb q => keep c o (fun q' => hb (by simp [q'])) (fun q' => hb (by simp [q'])) (fun q' => hb (by simp [q'])) (fun q' => hb (by simp [q'])) q) fp
  self := fun A i s Q E here h => wpAny_pyIter_zip here.z h
def iZipLT (K : PySem.W.Frag) (ta : TA) : TI := fun σ H R => ta σ H fun vs H1 => ∃ a b xs ys, vs = [.ref a, .ref b] ∧ SqL K H1 a xs ∧ SqT K H1 b ys ∧ R (ItzLT K a b) H1
theorem pi_zipLT {X : Cx} {e e2 : Expr} {ta : TA} {p pos tpos : Pos} {elts : List Expr} {kk : Nat} (hg : Gl X "zip") (hm : X.mg "zip" = none) (ha : PA X [e, e2] ta)
    (hs : starEach [e, e2] X.env = (false, eval e X.env) :: starEach [e2] X.env := by rfl) (hpl : (backTo pos (starEach [e2] X.env)).any (·.1) = false := by rfl) :
    PI X (.Tuple elts kk tpos) (.Call (.Name "zip" p) [e, e2] [] pos) (iZipLT X.K ta) := by
  refine ⟨fun pins s σ H R I h => ?_⟩
  refine Call_ (ld_blt I hg hm PyProof.Rows.boot_zip (PyProof.Rows.callWith_type1 (thn (ha.run pos pins s σ H _ I h) fun us s1 ⟨vs, H1, I1, r1, q1⟩ => ?_) hs hpl))
  obtain ⟨a, b, xs, ys, ex, qx, qy, q⟩ := q1
  subst ex
  cases r1 with
  | cons r rr =>
    cases rr with
    | cons r' rr =>
      cases rr
      cases r
      cases r'
      obtain ⟨its, rv, p1, _⟩ := I1.list qx
      obtain ⟨its2, rv2, p2, _⟩ := I1.tuple qy
      have la : a < s1.heap.objs.size := p1.lt
      obtain ⟨o2, ho2, _⟩ := id p2
      have lb : b < s1.heap.objs.size := Heap.lt_size ho2
      refine zip_begins2 (begins_list a its.toArray) (begins_tuple b its2.toArray) p1.isList p2 fun g hz hTI hTO g1 g2 size hk => wpAny_pyIter_zip hz ?_
      have I2 : Inv X pins σ H1 { s1 with heap := g } := I1.kept (t' := s1.toks) hk
      refine ⟨s1.heap.objs.size + 4, [s1.heap.objs.size + 4, s1.heap.objs.size + 2, s1.heap.objs.size + 3, s1.heap.objs.size, s1.heap.objs.size + 1], _, _, H1, rfl, I2,
        turn_zipLT (a := a) (b := b) (zip_sep2 (fp1 := [a]) (fp2 := [b]) (fun c hc => by rw [List.mem_singleton.mp hc]; exact la) (fun c hc => by rw [List.mem_singleton.mp hc]; exact lb)) (Nat.ne_of_lt la) (Nat.ne_of_lt (Nat.lt_succ_of_lt lb)),
        ⟨hz, hTI, ⟨_, _, hTO⟩, ⟨_, g1, rfl, rfl⟩, ⟨_, g2, rfl, rfl⟩⟩, fun c hc => ?_, q⟩
      have e' : c = s1.heap.objs.size + 4 ∨ c = s1.heap.objs.size + 2 ∨ c = s1.heap.objs.size + 3 ∨ c = s1.heap.objs.size ∨ c = s1.heap.objs.size + 1 := by simpa using hc
      have above : s1.heap.objs.size ≤ c := by rcases e' with z | z | z | z | z <;> rw [z] <;> first | exact Nat.le_add_right _ _ | exact Nat.le_refl _
      exact I1.fpOk above (I1.hok.fresh above)
theorem walk_zipLT {K : PySem.W.Frag} {a b : Addr} {xs ys : List V} (hl : xs.length = ys.length) : Walk (ItzLT K a b) xs.length (fun H => SqL K H a xs ∧ SqT K H b ys) (YPair (fun i => xs[i]?) (fun i => ys[i]?)) := by
  refine ⟨fun i H hi q => ⟨xs, ys, xs[i], ys[i]'(by omega), q.1, q.2, List.getElem?_eq_getElem hi, List.getElem?_eq_getElem (by omega)⟩, fun H q => ⟨xs, ys, q.1, q.2, .inl rfl, Nat.le_refl _, by omega⟩, fun i H v H' hi q y => ?_⟩
  obtain ⟨T, x, y, g1, g2, g3, g4, g5⟩ := y
  exact ⟨T, x, y, g1, g2, g3, g4 xs q.1, g5 ys q.2⟩
end Vf

namespace Vf
open PySem L2 PySem.Spec PyProof.Rows He RZ
/-! x != y by the class's own __eq__: object's __ne__ asks it and turns the answer -/
def rNeO (K : PySem.W.Frag) (C : Addr) (sp : Sp) (E : XK) : R2 := fun x y H Q => ∃ (a b dx dy : Addr) (fs gs : List (Str × V)), x = .ref a ∧ y = .ref b ∧ H a = some (.ins C dx fs) ∧ H b = some (.ins C dy gs) ∧ sp [x, y] H (fun z H' => ∃ t, z = .bl t ∧ Q (.bl (!t)) H') E
theorem ne_bind (self : Value) : bindSpecial (.builtin "object.__ne__") self = pure (.builtin "object.__ne__", [self]) :=
  (Slot.of (T := "object") (name := "__ne__") (owner := "object") (n := "__ne__") (by rw [typeLookup_type, builtinLookup_eq_fast]; kernel_rfl) (by decide +kernel) (by decide +kernel) (by decide +kernel)
    (.inl (by decide +kernel)) (by rw [isSubtype_type]; kernel_rfl)).bind self
theorem op_neOwn {X : Cx} {C f : Addr} {fd : FuncData} {ps : List Str} {sp : Sp} {n : Nat} (F : FnOk X.prog X.w X.K X.mg X.base CX0 n f fd ps sp)
    (hs : PySem.W.findIn X.K (.ref C) "__eq__" = some (some (.ref f))) (hf : PySem.W.isFn X.K (.ref f) = true) (hb : Binds X.K fd ps [])
    (hn : PySem.W.findIn X.K (.ref C) "__ne__" = some (some (.builtin "object.__ne__"))) (ho : PySem.W.mroIn X.K C (.type "object") = some true) (hr : Room (n + 1) X.A) : OpR X (compareOp .NotEq) (rNeO X.K C sp E0) := by
  intro pins s σ H x y v u Q I rx ry q
  obtain ⟨a, b, dx, dy, fs, gs, rfl, rfl, ha, hy, hsp⟩ := q
  cases rx
  cases ry
  obtain ⟨mA, J, _⟩ := ins_get I.hok ha
  obtain ⟨od, J, _⟩ := J.look
  obtain ⟨mB, J', _⟩ := ins_get I.hok hy
  obtain ⟨od', J', _⟩ := J'.look
  have KI : X.K.In s.heap := I.kIn
  have sub : PySem.W.Looks (model X.prog X.w) s.heap (isInstance (.ref a) (.type "object")) true := J.type.andThen (PySem.W.looks_mroIn KI ho)
  have run : ∀ {Q' : Value → Shared → Prop}, (∀ t s', (∃ H', Inv X pins σ H' s' ∧ Q (.bl (!t)) H') → Q' (.bool t) s') → wpAny (model X.prog X.w) X.A.in1 (call (.ref f) [.ref a, .ref b]) Q' X.xe s := fun {Q'} h =>
    run_in F hb hr.in1 rfl I (vs := [.ref a, .ref b]) (.cons rfl (.cons rfl .nil)) hsp fun w s' ⟨z, H', I', rz, t, ez, hQ⟩ => by
      subst ez
      cases rz
      exact h t s' ⟨H', I', hQ⟩
  have ib : wpAny (model X.prog X.w) X.A (callSpecialIfBound? (.ref a) "__ne__" [.ref b]) (fun r s' => ∃ t, r = some (.bool (!t)) ∧ ∃ H', Inv X pins σ H' s' ∧ Q (.bl (!t)) H') X.xe s := by
    simp only [callSpecialIfBound?, bindSpecialIfBound?]
    refine wpAny_holding (wpAny_bind (wpAny_bind (wpAny_bind (J.type.here ((PySem.W.looks_findIn KI hn).here ?_)))))
    have fin : wpAny (model X.prog X.w) X.A (call (.builtin "object.__ne__") ([.ref a] ++ [.ref b]) >>= fun v => pure (some v)) (fun r s' => ∃ t, r = some (.bool (!t)) ∧ ∃ H', Inv X pins σ H' s' ∧ Q (.bl (!t)) H') X.xe s := by
      refine wpAny_bind ?_
      refine wpAny_call (codeAny_call_builtin (by decide +kernel) PySem.F.cmpEntry_ne (@PySem.W.check_slot (model X.prog X.w) _ _ s "object.__ne__" "object" "__ne__" (.ref a) [.ref b] [] _ PySem.F.cmpKind_ne PySem.F.cmpSplit_ne sub (PySem.F.cmpArgs_ne _ _) ?_))
      unfold Builtin.«object.__ne__»
      refine wpAny_bind (wpAny_of_eq (a := (Value.ref a, [Value.ref b])) (by rfl) ?_)
      dsimp only
      refine wpAny_bind (wpAny_cRoomFor (by have := hr.un; show X.A.units + 1 < _; omega) ?_)
      refine wpAny_bind (PySem.W.ifBound_K KI J hs hf (run fun t s' h => ?_))
      dsimp only
      refine wpAny_bind (wpAny_truthy_bool ?_)
      exact wpAny_pure (wpAny_pure ⟨t, rfl, h⟩)
    refine wpAny_bind (wpAny_askSetting (wpAny_ite ?_))
    split
    · exact wpAny_bind (wpAny_of_eq (ne_bind _) (wpAny_pure (by exact fin)))
    · exact wpAny_tryCatch (wpAny_bind (wpAny_of_eq (ne_bind _) (wpAny_pure (by exact fin))))
  have one : wpAny (model X.prog X.w) X.A (tryCompare (.ref a) "__ne__" (.ref b)) (fun r s' => ∃ t, r = some (.bool (!t)) ∧ ∃ H', Inv X pins σ H' s' ∧ Q (.bl (!t)) H') X.xe s := by
    unfold tryCompare
    refine wpAny_bind (wpAny_mono ib (fun r s' z => ?_) fun _ _ e => e)
    obtain ⟨t, rfl, h⟩ := z
    exact wpAny_pure ⟨t, rfl, h⟩
  show wpAny _ _ (richCompare .NotEq (.ref a) (.ref b)) _ _ s
  unfold richCompare
  simp only [oneThing_ref]
  refine wpAny_holding (wpAny_bind (wpAny_cRoomFor (by have := hr.un; omega) ?_))
  refine wpAny_bind (J.type.here (wpAny_bind (J'.type.here ?_)))
  rw [show (Value.ref C != Value.ref C) = false from by simp]
  simp only [Bool.false_eq_true, if_false]
  refine wpAny_bind (wpAny_pure ?_)
  simp only [Bool.false_eq_true, if_false]
  refine wpAny_bind (wpAny_mono one (fun r s' z => ?_) fun _ _ e => e)
  obtain ⟨t, rfl, H', I', hQ⟩ := z
  exact wpAny_pure ⟨.bl (!t), H', I', rfl, hQ⟩
end Vf
namespace Vf
open PySem L2 PySem.Spec PyProof.Rows He RZ
def neB (x : Str) (K : PySem.W.Frag) : Bool := eqO (PySem.W.findIn K (.ref (ga K x)) "__ne__") (some (some (.builtin "object.__ne__"))) && (PySem.W.mroIn K (ga K x) (.type "object") == some true)
structure NeC (K : PySem.W.Frag) (x : Str) : Prop where
  n : PySem.W.findIn K (.ref (ga K x)) "__ne__" = some (some (.builtin "object.__ne__"))
  o : PySem.W.mroIn K (ga K x) (.type "object") = some true
theorem neB_ok {x : Str} {K : PySem.W.Frag} (c : neB x K = true) : NeC K x := by
  unfold neB at c
  obtain ⟨c1, c2⟩ := ba c
  exact ⟨eqO_ok c1, beq_iff_eq.mp c2⟩
theorem op_neC {X : Cx} {k j : Nat} {x : Str} {sp : Sp} (c : EqC X.prog X.w X.K X.mg X.base k x sp) (d : NeC X.K x) (hr : Room j X.A) (hk : k + 1 ≤ j) : OpR X (compareOp .NotEq) (rNeO X.K (ga X.K x) sp E0) := by
  obtain ⟨f, fd, ps, F, hs, hf, hb⟩ := c.ex
  exact op_neOwn F hs hf hb d.n d.o (hr.mono hk)
end Vf

namespace Vf
open PySem L2 PySem.Spec PyProof.Rows He RZ
/-! calls of a method that may raise -/
structure MetX (P : Program) (w : World) (K : PySem.W.Frag) (mg : Str → Option Value) (base : Heap) (k : Nat) (C : Addr) (m : Str) (sp : Sp) : Prop where
  ex : ∃ (f : Addr) (fd : FuncData) (ps : List Str), Cls K C ∧ Meth K C m f ∧ FnOk P w K mg base (L2.CX P w) k f fd ps sp ∧ Binds K fd ps []
def tMethX (C : Addr) (m : Str) (sp : Sp) (EE : L2.St → XK) (ta : TE) (t : TA) : TE := fun σ H Q => ta σ H fun x H1 => ∃ a dx fs, x = .ref a ∧ H1 a = some (.ins C dx fs) ∧ fs.lookup m = none ∧ t σ H1 fun vs H2 => sp (x :: vs) H2 Q (EE σ)
section
variable {X : Cx} {k j : Nat} {C : Addr} {m : Str} {sp : Sp} {o e : Expr} {es : List Expr} {ta : TE} {t : TA} {apos pos : Pos} {W : WX}
theorem pe_mtX {pl : Sem Bool} (c : MetX X.prog X.w X.K X.mg X.base k C m sp) (hr : Room j X.A) (hk : k ≤ j) (tk : Takes X W) (he : PE X o ta) (ha : PA X (e :: es) t)
    (hst : starEach (e :: es) X.env = (false, eval e X.env) :: starEach es X.env := by rfl) (hpl : (backTo pos (starEach es X.env)).any (·.1) = false := by rfl)
    (ht : eval (.Call (.Attribute o m apos) (e :: es) [] pos) X.env = (do
      let ov ← eval o X.env
      standAt apos.atName
      let (f, first) ← holding [ov] (getMethod ov m pl)
      callWith pos f first (backTo pos (starEach (e :: es) X.env)) (backToKw pos (keywordEach [] X.env))) := by rfl) :
    PE X (.Call (.Attribute o m apos) (e :: es) [] pos) (tMethX C m sp (WE W) ta t) := by
  obtain ⟨f, fd, ps, hc, hm, F, b⟩ := c.ex
  refine ⟨fun pins s σ H Q I h => ?_⟩
  refine PySem.W.methodCall_KW (pl := pl) (thn (he.run pins s σ H _ I h) fun u s1 ⟨x, H1, I1, rx, a, dx, fs, ex, ea, l, q⟩ => ?_) ht
  subst ex
  obtain rfl : u = Value.ref a := rx
  refine getmeth_ok I1 ea hc hm l ?_
  refine PySem.W.callWith_K (first := [.ref a]) (h₀ := X.base) I.ok.mod.kin hm.kp (thn (ha.run pos pins s1 σ H1 _ I1 q) fun us s2 ⟨vs, H2, I2, r, q2⟩ => ⟨I2.kIn, ?_⟩) hst hpl
  exact run_fnS (E := WE W) (us := .ref a :: us) (vs := .ref a :: vs) F (hr.mono hk) b (passAt tk σ) I2 (.cons rfl r) q2
theorem pe_mtX0 {pl : Sem Bool} (c : MetX X.prog X.w X.K X.mg X.base k C m sp) (hr : Room j X.A) (hk : k ≤ j) (tk : Takes X W) (he : PE X o ta)
    (ht : eval (.Call (.Attribute o m apos) [] [] pos) X.env = (do
      let ov ← eval o X.env
      standAt apos.atName
      let (f, first) ← holding [ov] (getMethod ov m pl)
      callWith pos f first (backTo pos (starEach [] X.env)) (backToKw pos (keywordEach [] X.env))) := by rfl) :
    PE X (.Call (.Attribute o m apos) [] [] pos) (tMethX C m sp (WE W) ta tNil) := by
  obtain ⟨f, fd, ps, hc, hm, F, b⟩ := c.ex
  refine ⟨fun pins s σ H Q I h => ?_⟩
  refine PySem.W.methodCall_KW (pl := pl) (thn (he.run pins s σ H _ I h) fun u s1 ⟨x, H1, I1, rx, a, dx, fs, ex, ea, l, q⟩ => ?_) ht
  subst ex
  obtain rfl : u = Value.ref a := rx
  refine getmeth_ok I1 ea hc hm l ?_
  exact PySem.W.callWith_K0 (first := [.ref a]) I1.kIn hm.kp (run_fnS (E := WE W) (us := [.ref a]) (vs := [.ref a]) F (hr.mono hk) b (passAt tk σ) I1 (.cons rfl .nil) q)
end
end Vf

namespace Vf
open PySem L2 PySem.Spec PyProof.Rows He RZ L2H
/-! a def called in an except suite that lets nothing out: FnH without the word of the handled exception's context -/
structure FnQ (P : Program) (w : World) (K : PySem.W.Frag) (mg : Str → Option Value) (base : Heap) (k : Nat) (f : Addr) (fd : FuncData) (ps : List Str) (sp : Sp) : Prop where
  len : ∀ vs H Q E, sp vs H Q E → vs.length = ps.length
  run : ∀ (A : Around) (out : List Env) (s : Shared) (H : Hp) (ar : Args) (us : List Value) (vs : List V) (Q : VK) (E : XK) (pp : Addr × Obj), RoomH k A → PinOk out H s pp →
    Env0 P w K mg base A out s H → BindsTo s fd ar (ps.zip us) → Vals vs us → sp vs H Q E → codeAny (model P w) A (.call (.ref f) ar) (CR CX0 out P w H s Q E) s
section
variable {P : Program} {w : World} {K : PySem.W.Frag} {mg : Str → Option Value} {base : Heap} {x qual : Str} {params : Arguments} {body : List Stmt} {scope : Scope} {dvs : List V} {kws : List (Str × V)} {f : Addr} {fd : FuncData}
theorem okQ {N ps : List Str} {k : Nat} {sp : Sp} (F : FunD K x qual params body scope dvs kws f fd) (S : FnScope N ps scope)
    (len : ∀ vs H Q E, sp vs H Q E → vs.length = ps.length)
    (hbody : ∀ (cdv : Value) (A : Around) (out : List Env) (s : Shared) (H : Hp) (vs : List V) (Q : VK) (E : XK) (pp : Addr × Obj), RoomH k (A.deeper (envOfC qual scope s.heap.objs.size f cdv)) →
      sp vs H Q E → ∃ t, PSs (cxH CX0 P w K mg base N qual scope f cdv A out s H E pp) body t ∧
        t { nx := fun _ H' => Q .non H', rt := Q } (L2.start N vs) H) : FnQ P w K mg base (k + 1) f fd ps sp := by
  obtain ⟨oc, od, dV, kV, doc, pm, an, cdv, ct, osl, rfl, lk, hcd, _, _⟩ := F.ex
  refine ⟨len, fun A out s H ar us vs Q E pp hr hpin e0 hb r hsp => ?_⟩
  have hl := len _ _ _ _ hsp
  have kin : K.In s.heap := e0.mod.kin.keeps fun b o e => (e0.bs b o e).1
  have nol : s.heap.NoLimit := e0.mod.nolimit.keeps fun b o e => (e0.bs b o e).1
  have knd : ∀ y ∈ ps.zip us, scope.names.lookup y.1 = some .local ∨
      (scope.names.lookup y.1 = some .cell ∧ ((cellsFrom (s.heap.objs.size + 1) scope.names []).lookup y.1).isSome = true) := fun ⟨n, v⟩ hy =>
    (S.par n (List.of_mem_zip hy).1).imp id fun q => ⟨q, PySem.W.cellsFrom_some _ _ _ (.inl q)⟩
  refine codeAny_call_function hr.depth (kin _ _ lk) rfl S.co S.gen rfl (PySem.W.codeRec_of kin hcd) (hb _ _ _ _ ?_)
  refine wpAny_newFunctionEnv_cells S.kind knd fun env he s1 x => ?_
  subst he
  refine ⟨nol.keeps x.toInCall.keep, codeAny_func ?_⟩
  obtain ⟨t, ht, hq⟩ := hbody cdv A out s H vs Q E pp (hr.deeper _) hsp
  have I := inv_startH (CX := CX0) (E := E) S hpin e0 hl r x
  refine wpAny_mono (ht.run [] s1 (L2.start N vs) H _ I hq) (fun fl s' hs => ?_) fun e s' hs => hs
  cases fl with
  | ret u => obtain ⟨v, σ', H', J, rv, q⟩ := hs; exact ⟨v, H', J.os, J.bare, J.base, J.hok, rv, q⟩
  | next => obtain ⟨σ', H', J, q⟩ := hs; exact ⟨V.non, H', J.os, J.bare, J.base, J.hok, rfl, q⟩
  | brk => exact False.elim (let ⟨_, _, _, q⟩ := hs; q)
  | cont => exact False.elim (let ⟨_, _, _, q⟩ := hs; q)
end
structure CalQ (P : Program) (w : World) (K : PySem.W.Frag) (mg : Str → Option Value) (base : Heap) (k : Nat) (x : Str) (sp : Sp) : Prop where
  ex : ∃ (f : Addr) (fd : FuncData) (ps : List Str), FnQ P w K mg base k f fd ps sp ∧ mg x = some (.ref f) ∧ PySem.W.keepIn K (.ref f) = true ∧ Binds K fd ps []
theorem roomQ {k : Nat} {A : Around} {h : Option Value} (r : Room k A) : RoomH k (A.mark h) := ⟨r.dp, r.un⟩
theorem huQ {k : Nat} {A : Around} {h : Option Value} (r : Room k A) : (A.mark h).units + 1 < cLine := by
  have e : A.units + 1 < cLine := hu_of r
  exact e
theorem pe_cQ {X : Cx} {k j : Nat} {x : Str} {sp : Sp} {p pos : Pos} {e : Expr} {es : List Expr} {t : TA} (c : CalQ X.prog X.w X.K X.mg X.base k x sp) (hr : RoomH j X.A) (hk : k ≤ j) (hp : ∃ pp : Addr × Obj, pp ∈ X.pn) (hg : Gl X x) (ha : PA X (e :: es) t)
    (hdb : (x == ("__debug__" : Str)) = false := by decide) (he : starEach (e :: es) X.env = (false, eval e X.env) :: starEach es X.env := by rfl)
    (hpl : (backTo pos (starEach es X.env)).any (·.1) = false := by rfl) : PE X (.Call (.Name x p) (e :: es) [] pos) (tCall sp [] E0 t) := by
  obtain ⟨f, fd, ps, F, hm, kp, b⟩ := c.ex
  obtain ⟨pp, hp⟩ := hp
  refine ⟨fun pins s σ H Q I h => ?_⟩
  refine wpAny_Call_Name_kw (ld_glob I hg hm ?_ hdb)
  refine PySem.W.callWith_K (h₀ := X.base) I.ok.mod.kin kp (thn (ha.run pos pins s σ H _ I h) fun us s1 ⟨vs, H1, I1, r, q⟩ => ⟨I1.kIn, ?_⟩) he hpl
  have q : sp (vs ++ []) H1 Q E0 := q
  rw [List.append_nil] at q
  have hl : us.length = ps.length := by rw [← r.length]; exact F.len _ _ _ _ q
  have b2 := b s1 us I1.kIn (by rw [List.append_nil]; exact hl)
  rw [List.append_nil] at b2
  have P1 := I1.pin pp (List.mem_append_left _ hp)
  have pk : PinOk X.stack H1 s1 pp := ⟨P1.1, P1.2.1, fun hm => (List.mem_cons.mp (I1.stkSub pp.1 hm)).elim P1.2.2.1 P1.2.2.2.1, P1.2.2.2.2⟩
  refine wpAny_call (codeAny_mono (F.run X.A X.stack s1 H1 ⟨us, []⟩ us vs Q _ pp (hr.mono hk) pk I1.env0 b2 r q) fun r s' hq => ?_)
  cases r with
  | error e => exact False.elim hq
  | ok fl =>
    cases fl with
    | ret u => exact I1.after hq
    | next => exact False.elim hq
    | brk => exact False.elim hq
    | cont => exact False.elim hq
end Vf

namespace Vf
open PySem L2 PySem.Spec PyProof.Rows He RZ
/-! ### a comprehension whose element may raise -/
section
variable {X : Cx} {W : WX} {E : XK}
theorem comp_raise {pinsB pins : List (Addr × Obj)} {σB σ : L2.St} {HB H3 : Hp} {sB s3 s' : Shared} {scope : Scope} {ce : Env} {fp : List Addr} {xe : Value → Shared → Prop} {u : Value}
    (tk : Takes X W) (hst : X.stack = X.env :: X.outer) (hfr : X.env.frame = some X.env.locals) (hcf : ce.frame = X.env.frame)
    (I3 : Inv X pins σ H3 s3) (IB : Inv ((X.blk s3 H3 scope ce fp).wish xe) pinsB σB HB sB) (ff : ∀ b ∈ fp, FpOk X pins H3 b) (fC : s3.heap.objs.size ≤ ce.locals)
    (hE : ∀ cls d H', E cls d H' → W cls d σ H') (c : L2.CX X.prog X.w X.stack HB sB E u s') : notedBy (model X.prog X.w) X.A ce (CompFails (model X.prog X.w) X.A X.xe ce) u s' := by
  obtain ⟨a, Bh, H', cls, d, rfl, fl, hok, ub, na, os, ag, hE'⟩ := c
  have hA : X.A.frames = some (X.env :: X.outer) := by rw [I3.ok.frames, hst]
  obtain ⟨m, hn, _⟩ := IB.loc
  obtain ⟨oC, es, ep, hoC, hdC, hr⟩ := id hn
  have hoC : sB.heap.get? ce.locals = some oC := hoC
  have nCB : HB ce.locals = none := IB.free
  have nCf : ce.locals ∉ frs X.stack := fun hm => by
    rcases List.mem_cons.mp (I3.stkSub _ hm) with z | z
    · have := I3.lt
      rw [z] at fC
      exact absurd (Nat.lt_of_lt_of_le this fC) (Nat.lt_irrefl _)
    · exact I3.nofs fC z
  have hBC : Bh.get? ce.locals = some oC := ub.keep _ _ hoC nCB nCf
  have nC' : H' ce.locals = none := ub.free _ _ hoC nCB
  have fl2 : HandSPX.FlyingZ Bh (X.env :: X.outer) a (Zc cls d) s'.heap := by rw [← hst]; exact fl
  show wpAny _ X.A (noteFrame (.ref a) ce) _ _ s'
  rw [noteFrame_env _ hcf]
  refine HandSPX.looks_onZ Zc.steady hA hfr fl2 fun h' hh up => ?_
  obtain ⟨b1, b0, f1, oe, vs, T, oT, ts, he, hz, hd, h1, hnT, hTe, hT, hdT, h3⟩ := hh
  refine ⟨m, ⟨oC, es, ep, b1 _ _ hBC, hdC, hr⟩, fun h2 m2 hn2 hs2 => ?_⟩
  obtain ⟨B2, g1, g2⟩ := restrict h2 fun b => (Bh.get? b).isSome
  have st2 : B2.StaysIn h2 := fun b o e => by
    cases q : (Bh.get? b).isSome with
    | false => rw [g2 b q] at e; cases e
    | true => rw [g1 b q] at e; exact e
  have same : ∀ b o, b ≠ ce.locals → Bh.get? b = some o → B2.get? b = some o := fun b o ne e => by
    rw [g1 b (by simp [e]), hs2.2 b ne]
    exact b1 b o e
  have none2 : ∀ b, Bh.get? b = none → B2.get? b = none := fun b e => g2 b (by simp [e])
  have naC : a ≠ ce.locals := fun z => by rw [z, hBC] at b0; cases b0
  have nTC : T ≠ ce.locals := fun z => by rw [z, hBC] at hnT; cases hnT
  have he2 : h2.get? a = some oe := (hs2.2 a naC).trans he
  have hT2 : h2.get? T = some oT := (hs2.2 T nTC).trans hT
  have f2 : h2.FunFrames Bh (X.env :: X.outer) := Heap.FunFrames.sameBut hs2 hn2 f1
  have f3 : h2.FunFrames B2 (X.env :: X.outer) := funFrames_none f2 fun b hb => none2 b (f2.mem hb).1
  have hh2 : HandSPX.HeldZ B2 (X.env :: X.outer) a (Zc cls d) X.env.locals h2 := ⟨st2, none2 _ b0, f3, oe, vs, T, oT, ts, he2, hz, hd, h1, none2 _ hnT, hTe, hT2, hdT, h3⟩
  unfold PySem.passOn
  refine wpAny_bind (wpAny_field he2 hd h1 ?_)
  rw [if_neg (show ¬ ((Value.ref T == Value.none) = true) from by simp), hcf, hfr]
  refine wpAny_bind (HandSPX.setFlight_onZ hh2 fun h4 hh4 up4 => ?_)
  refine wpAny_throw (tk _ _ ?_)
  -- the block's state, then the def's, without the exception
  obtain ⟨G, k1, k2⟩ := restrict s'.heap fun b => (Bh.get? b).isSome || decide (b ∈ frs X.stack)
  have st : Bh.StaysIn s'.heap := fl.1
  have gB : ∀ b o, Bh.get? b = some o → G.get? b = some o := fun b o e => by
    rw [k1 b (by simp [e])]
    exact st b o e
  have gF : ∀ b, b ∈ frs X.stack → G.get? b = s'.heap.get? b := fun b hb => k1 b (by simp [hb])
  have og : ∀ b o, G.get? b = some o → s'.heap.get? b = some o ∧ ((Bh.get? b).isSome = true ∨ b ∈ frs X.stack) := fun b o e => by
    cases q : ((Bh.get? b).isSome || decide (b ∈ frs X.stack)) with
    | false => rw [k2 b q] at e; cases e
    | true =>
      rw [k1 b q] at e
      exact ⟨e, by simpa [Bool.or_eq_true] using q⟩
  have IB2 : Inv ((X.blk s3 H3 scope ce fp).wish xe) pinsB σB H' { sB with heap := G, gens := s'.gens, drawn := s'.drawn, toks := s'.toks } := by
    refine IB.call (ch := []) ⟨fun b o e n hb _ => gB b o (ub.keep b o e n hb), fun b o e n hb _ => ?_, fun b o e n _ => ub.free b o e n, fun b o e _ => ?_, ub.tups, ub.frzs, ub.tbls⟩ (hok.kept gB) ag (fun _ z => nomatch z)
    · obtain ⟨sl, q⟩ := ub.slot b o e hb
      exact ⟨sl, by rw [gF b hb]; exact q⟩
    · by_cases hb : b ∈ frs X.stack
      · obtain ⟨sl, q⟩ := ub.slot b o e hb
        exact ⟨_, by rw [gF b hb]; exact q⟩
      · obtain ⟨o', q⟩ := ub.there b o e hb
        exact ⟨o', gB b o' q⟩
  have J : Inv X pins σ H' { sB with heap := G, gens := s'.gens, drawn := s'.drawn, toks := s'.toks } := I3.call' (ch := fp) IB2.os IB2.base IB2.hok IB2.bare fun b hb => ⟨(ff b hb).2.2.2.1, (ff b hb).2.1, (ff b hb).2.2.2.2.1, (ff b hb).2.2.2.2.2⟩
  obtain ⟨G2, l1, l2⟩ := restrict h4 fun b => (B2.get? b).isSome || decide (b ∈ frs X.stack)
  obtain ⟨st4, _, f4, _⟩ := id hh4
  have gB2 : ∀ b o, B2.get? b = some o → G2.get? b = some o := fun b o e => by
    rw [l1 b (by simp [e])]
    exact st4 b o e
  have gF2 : ∀ b, b ∈ frs X.stack → G2.get? b = h4.get? b := fun b hb => l1 b (by simp [hb])
  have og2 : ∀ b o, G2.get? b = some o → h4.get? b = some o ∧ ((B2.get? b).isSome = true ∨ b ∈ frs X.stack) := fun b o e => by
    cases q : ((B2.get? b).isSome || decide (b ∈ frs X.stack)) with
    | false => rw [l2 b q] at e; cases e
    | true =>
      rw [l1 b q] at e
      exact ⟨e, by simpa [Bool.or_eq_true] using q⟩
  have slot2 : ∀ b o, G.get? b = some o → b ∈ frs X.stack → ∃ sl, G2.get? b = some { o with slots := sl } := fun b o e hb => by
    have e1 := (og b o e).1
    have hb' : b ∈ frs (X.env :: X.outer) := by rw [← hst]; exact hb
    obtain ⟨_, o₀, e₀, hnf⟩ := fl2.2.2.1.mem hb'
    rw [e1] at e₀; cases e₀
    obtain ⟨sl, e2⟩ := up b _ e1 hnf
    have e3 : h2.get? b = some { o with slots := sl } := (hs2.2 b fun z => nCf (z ▸ hb)).trans e2
    obtain ⟨sl2, e4⟩ := up4 b _ e3 hnf
    exact ⟨sl2, by rw [gF2 b hb]; exact e4⟩
  have keep2 : ∀ b o, G.get? b = some o → b ∉ frs X.stack → b ≠ ce.locals → G2.get? b = some o := fun b o e hb ne => by
    obtain ⟨e1, h⟩ := og b o e
    rcases h with h | h
    · obtain ⟨o', q⟩ := Option.isSome_iff_exists.mp h
      have z := st b o' q
      rw [e1] at z; cases z
      exact gB2 b o (same b o ne q)
    · exact absurd h hb
  have hok2 : HOk X.prog X.w H' B2 := fun b o e => (hok b o e).stay (fun c v hc q => same c v (fun z => by
    rcases hc with hc | hc
    · rw [← hc, z, nC'] at e; cases e
    · rw [z, nC'] at hc; cases hc) q) (fun _ q => q) fun _ _ q => q
  have fpC := I3.fpOk (H' := H') fC nC'
  have J2 : Inv X pins σ H' { sB with heap := G2, gens := s'.gens, drawn := s'.drawn, toks := s'.toks } := by
    refine L2.Inv.call (s := { sB with heap := G, gens := s'.gens, drawn := s'.drawn, toks := s'.toks }) (ch := [ce.locals]) (g' := s'.gens) (d' := s'.drawn) (t' := s'.toks) J ⟨fun b o e _ hb hc => keep2 b o e hb fun z => hc (by simp [z]), fun b o e _ hb _ => slot2 b o e hb, fun _ _ _ n _ => n, fun b o e hc => ?_, fun _ _ e => e, fun _ _ _ e => e, fun b ps e => ⟨#[], by rw [e]; simp⟩⟩ (hok2.kept gB2) ag fun b hb => ?_
    · by_cases hb : b ∈ frs X.stack
      · obtain ⟨sl, q⟩ := slot2 b o e hb
        exact ⟨_, q⟩
      · exact ⟨o, keep2 b o e hb fun z => hc (by simp [z])⟩
    · have e : b = ce.locals := by simpa using hb
      subst e
      obtain ⟨_, q2, _, q4, q5, q6⟩ := fpC
      exact ⟨q4, q2, q5, q6⟩
  refine ⟨a, B2, { sB with heap := G2, gens := s'.gens, drawn := s'.drawn, toks := s'.toks }, pins, σ, H', cls, d, rfl, J2, fun b o e hb => ?_, Heap.UpToSlots.of_keeps fun b o e => (og2 b o e).1, .inr (.inr (by rw [hst]; exact hh4)), na, os, ag, hE _ _ _ hE'⟩
  obtain ⟨e', h⟩ := og2 b o e
  rcases h with h | h
  · obtain ⟨o', q⟩ := Option.isSome_iff_exists.mp h
    have z := st4 b o' q
    rw [e'] at z; cases z
    exact q
  · exact absurd h hb

/-- [elt for tg in iter], elt may raise: the def's wish stands for the element's too -/
def tLcX (wi : TI) (g : TG) (te : XK → TE) (vs : List Nat) (EE : L2.St → XK) : TE := fun σ H Q => tLc wi g tYes (te (EE σ)) vs σ H Q
theorem pe_lcX {elt tg iter : Expr} {scope : Scope} {own : List (Str × Nat)} {pos : Pos} {wi : TI} {g : TG} {te : XK → TE} (hc : X.calm = true) (hN : X.N.Nodup) (tk : Takes X W) (hst : X.stack = X.env :: X.outer) (hfr : X.env.frame = some X.env.locals) (hi : PI X tg iter wi)
    (ok : BlkOk X.N X.env.scope scope own) (hg : ∀ (s : Shared) (H : Hp) (C : Addr) (cl : List (Str × Addr)) (fp : List Addr), PG (X.blk s H scope (compEnvC scope cl C X.env) fp) tg g)
    (he : ∀ (s : Shared) (H : Hp) (C : Addr) (cl : List (Str × Addr)) (fp : List Addr) (xe : Value → Shared → Prop) (E : XK), (∀ σ', PassesAt (L2.CX X.prog X.w) ((X.blk s H scope (compEnvC scope cl C X.env) fp).wish xe) σ' E) → PE ((X.blk s H scope (compEnvC scope cl C X.env) fp).wish xe) elt (te E))
    (hs : ∀ x, foldedSetIterable iter X.env x = pure x := by intro _; rfl) :
    PE X (.ListComp elt [⟨tg, iter, [], 0⟩] scope pos) (tLcX wi g te (own.map (·.2)) (WE W)) := by
  refine ⟨fun pins s σ H Q I h => ?_⟩
  rw [eval_ListComp]
  have hfree : ∀ y ∈ scope.names, y.2 = .free → ∃ c, X.env.cells.lookup y.1 = some c := fun y hy e => (ok.free y hy e).elim (fun k => I.ok.has _ (.inl k)) fun k => I.ok.has _ (.inr k)
  refine comprehension_at (use := none) rfl hs (closure_ok hfree) ok.kind (fun y hy e => by rw [ok.uniq y hy, e]) (thn (hi.run pins s σ H _ I h) fun xv s1 hx => thn hx fun itv s2 h2 => ?_)
  obtain ⟨it, fp, tn, J, H2, rfl, I2, T, st2, f2, q⟩ := h2
  refine wpAny_newObj_type (newEnv_comp ?_) (by show 0 ≤ sizeLine; decide)
  generalize hD : s2.heap.objs.size = D
  have hDn : H2 D = none := I2.hok.fresh (Nat.le_of_eq hD)
  obtain ⟨Wn, ⟨m0, w0⟩, turn⟩ := q D hDn
  generalize hs3 : ({ s2 with heap := s2.heap.push { cls := .type "list", data := .seq ([] : List Value).toArray } } : Shared) = s3
  have h3 : s3.heap = s2.heap.push { cls := .type "list", data := .seq ([] : List Value).toArray } := by rw [← hs3]
  have I3 : Inv X pins σ (upd H2 D (.lst [])) s3 := by
    rw [← hs3]
    exact I2.laid (t' := s2.toks) (fun b o e => Heap.get?_push_of_some _ e) (Nat.le_of_eq hD) ⟨Nat.zero_le _, [], 0, .nil, by rw [← hD]; exact Heap.get?_push_size _ rfl⟩
  have f3 : ∀ b ∈ fp, FpOk X pins (upd H2 D (.lst [])) b ∧ b < s3.heap.objs.size := fun b hb => by
    obtain ⟨o, e, _⟩ := T.obj _ _ st2 b hb
    have hlt := Heap.lt_size e
    refine ⟨⟨?_, (f2 b hb).2⟩, by rw [h3, Heap.size_push]; exact Nat.lt_succ_of_lt hlt⟩
    rw [upd_ne (by rw [← hD]; exact Nat.ne_of_lt hlt)]
    exact (f2 b hb).1
  have st3 : tn 0 s3.heap := T.keep _ _ _ st2 fun b _ o e => by rw [h3]; exact Heap.get?_push_of_some _ e
  have I4 := block_start I3 ok hN f3
  have pg := hg s3 (upd H2 D (.lst [])) s3.heap.objs.size (cellsFrom (s3.heap.objs.size + 1) scope.names (cloFrom X.env.cells scope.names [])) fp
  have pe := he s3 (upd H2 D (.lst [])) s3.heap.objs.size (cellsFrom (s3.heap.objs.size + 1) scope.names (cloFrom X.env.cells scope.names [])) fp
  show codeAny _ _ (.compStart (.ListComp elt [⟨tg, iter, [], 0⟩] scope pos) 0 (.ref it) (.ref D) (compEnvC scope (cellsFrom (s3.heap.objs.size + 1) scope.names (cloFrom X.env.cells scope.names [])) s3.heap.objs.size X.env))
    (compEnds (model X.prog X.w) X.A X.xe none (EP X pins σ Q) (.ref D) (compEnvC scope (cellsFrom (s3.heap.objs.size + 1) scope.names (cloFrom X.env.cells scope.names [])) s3.heap.objs.size X.env)) { s3 with heap := pushCells (s3.heap.push { cls := .type "dict", data := .dict #[] }) scope.names }
  have nfp : ∀ b ∈ fp, (upd H2 D (.lst [])) b = none := fun b hb => (f3 b hb).1.1
  generalize hce : compEnvC scope (cellsFrom (s3.heap.objs.size + 1) scope.names (cloFrom X.env.cells scope.names [])) s3.heap.objs.size X.env = ce at I4 pg pe ⊢
  have cL : ce.locals = s3.heap.objs.size := by subst hce; rfl
  have cF : ce.frame = X.env.frame := by subst hce; rfl
  generalize upd H2 D (.lst []) = H3 at I3 I4 pg pe w0 nfp f3
  generalize hs4 : ({ s3 with heap := pushCells (s3.heap.push { cls := .type "dict", data := .dict #[] }) scope.names } : Shared) = s4 at I4 ⊢
  have st4 : tn 0 s4.heap := T.keep _ _ _ st3 fun b _ o e => by rw [← hs4]; exact pushCells_keeps _ _ _ _ (Heap.get?_push_of_some _ e)
  have pe := pe (notedBy (model X.prog X.w) X.A ce (CompFails (model X.prog X.w) X.A X.xe ce)) (WE W σ) fun σ' pins' H' s' e s'' I' c =>
    comp_raise (xe := notedBy (model X.prog X.w) X.A ce (CompFails (model X.prog X.w) X.A X.xe ce)) tk hst hfr cF I3 I' (fun b hb => (f3 b hb).1) (Nat.le_of_eq cL.symm) (fun _ _ _ h => h) c
  have stat : ∀ {σ' : L2.St} {H' : Hp} {s' : Shared}, Inv (X.blk s3 H3 scope ce fp) [] σ' H' s' → (∀ b ∈ fp, H' b = none) → ∀ b ∈ fp, FpOk (X.blk s3 H3 scope ce fp) [] H' b := fun I' hn b hb =>
    ⟨hn b hb, (I'.ok.exf b hb).1, I'.ok.exfs b hb, .inl hb, fun x c e => (I'.ok.exf b hb).2 x c e, fun p hp => absurd (show p ∈ ([] : List (Addr × Obj)) ++ [] from hp) (by simp)⟩
  have loop : codeAny (model X.prog X.w) X.A (.compLoop (.ListComp elt [⟨tg, iter, [], 0⟩] scope pos) 0 (.ref it) (.ref D) ce) (compEnds (model X.prog X.w) X.A X.xe none (EP X pins σ Q) (.ref D) ce) s4 := by
    refine compLoop_any (fun n s' => ∃ i H', Inv (X.blk s3 H3 scope ce fp) [] (wipe σ (own.map (·.2))) H' s' ∧ tn i s'.heap ∧ (∀ b ∈ fp, H' b = none) ∧ Wn i n H') ?_ m0 ⟨0, H3, I4, st4, nfp, w0⟩
    rintro n s5 ⟨i, H5, I5, st5, n5, w5⟩
    rcases turn i n H5 w5 with ⟨stop, qq⟩ | ⟨go, Nx, hNx, step⟩
    · refine thnF (T.done (X.blk s3 H3 scope ce fp) rfl rfl rfl hc i [] s5 _ H5 (fun _ _ => False) I5 (stat I5 n5) st5 stop) fun r s6 ⟨hr, I6⟩ => ?_
      subst hr
      have I7 : Inv X pins σ H5 s6 := I3.call' (ch := fp) I6.os I6.base I6.hok I6.bare fun b hb => ⟨(f3 b hb).1.2.2.2.1, (f3 b hb).1.2.1, (f3 b hb).1.2.2.2.2.1, (f3 b hb).1.2.2.2.2.2⟩
      have nC : H5 ce.locals = none := I6.free
      obtain ⟨m, hn, _⟩ := I6.loc
      refine ⟨m, hn, fun h'' sb => ?_⟩
      obtain ⟨g0, g1, _, g3, g4, g5⟩ := I3.fpOk (Nat.le_of_eq cL.symm) nC
      exact ⟨.ref D, H5, I7.turned (t' := s6.toks) (fun b o hb e => (sb.2 b hb).trans e) g0 g1 g3 g4 g5, rfl, qq⟩
    · refine thnF (T.item (X.blk s3 H3 scope ce fp) rfl rfl rfl hc i [] s5 _ H5 (fun _ _ => False) I5 (stat I5 n5) st5 go) fun r s6 ⟨u, hr, h6⟩ => ?_
      subst hr
      refine thnF h6 fun _ s7 ⟨x, H7, I7, r7, y7, st7, n7⟩ => ?_
      refine thnF (pg.run _ s7 _ H7 x u _ (I7.pinned (stat I7 n7) (T.obj _ _ st7)) r7 (step x H7 y7)) fun _ s8 ⟨σ8, H8, I8, hw8, q8⟩ => ?_
      have fin : ∀ {s' : Shared} {H' : Hp}, Inv (X.blk s3 H3 scope ce fp) ([] ++ pinsAt fp s7.heap) σ8 H' s' → Nx H' → ∃ m, m < n ∧ ∃ i H', Inv (X.blk s3 H3 scope ce fp) [] (wipe σ (own.map (·.2))) H' s' ∧ tn i s'.heap ∧ (∀ b ∈ fp, H' b = none) ∧ Wn i m H' := fun {s' H'} I' nx => by
        obtain ⟨m', hm, w'⟩ := hNx H' nx
        have pin' : ∀ b ∈ fp, ∀ o, s7.heap.get? b = some o → s'.heap.get? b = some o ∧ H' b = none := fun b hb o e =>
          let z := I'.pin (b, o) (List.mem_append_right _ (List.mem_append_right _ (mem_pinsAt hb e)))
          ⟨z.1, z.2.1⟩
        refine ⟨m', hm, i + 1, H', (I'.unpinned (pins := [])).weak (by rw [← hw8, wipe_length]) (fun j v e => ?_), T.keep _ _ _ st7 fun b hb o e => (pin' b hb o e).1, fun b hb => ?_, w'⟩
        · rw [← hw8] at e
          exact (wipe_some e).1
        · obtain ⟨o, e, _⟩ := T.obj _ _ st7 b hb
          exact (pin' b hb o e).2
      refine wpAny_tests_nil ?_
      simp only [if_true]
      refine thn (pe.run _ s8 σ8 H8 _ (I8.wish _) q8) fun z s10 ⟨yv, H10, I10, r10, acc, hD10, hz10, nx⟩ => ?_
      exact app_ok (X := X.blk s3 H3 scope ce fp) I10.unwish hD10 hz10 r10 fun s11 I11 => fin I11 nx
  exact codeAny_compStart_list loop (T.self X.A 0 _ _ _ st4 loop)
end
/-! ### methods that may raise, with default values -/
structure MetXD (P : Program) (w : World) (K : PySem.W.Frag) (mg : Str → Option Value) (base : Heap) (k : Nat) (C : Addr) (m : Str) (sp : Sp) (dvs : List V) : Prop where
  ex : ∃ (f : Addr) (fd : FuncData) (ps : List Str) (ds : List Value), Cls K C ∧ Meth K C m f ∧ FnOk P w K mg base (L2.CX P w) k f fd ps sp ∧ Binds K fd ps ds ∧ Vals dvs ds
def tMethXD (C : Addr) (m : Str) (sp : Sp) (dvs : List V) (EE : L2.St → XK) (ta : TE) (t : TA) : TE := fun σ H Q => ta σ H fun x H1 => ∃ a dx fs, x = .ref a ∧ H1 a = some (.ins C dx fs) ∧ fs.lookup m = none ∧ t σ H1 fun vs H2 => sp (x :: (vs ++ dvs)) H2 Q (EE σ)
section
variable {X : Cx} {k j : Nat} {C : Addr} {m : Str} {sp : Sp} {dvs : List V} {o e : Expr} {es : List Expr} {ta : TE} {t : TA} {apos pos : Pos} {W : WX} {E : L2.St → XK}
theorem pe_mtA {pl : Sem Bool} (c : MetXD X.prog X.w X.K X.mg X.base k C m sp dvs) (hr : Room j X.A) (hk : k ≤ j) (hx : ∀ σ, PassesAt (L2.CX X.prog X.w) X σ (E σ)) (he : PE X o ta) (ha : PA X (e :: es) t)
    (hst : starEach (e :: es) X.env = (false, eval e X.env) :: starEach es X.env := by rfl) (hpl : (backTo pos (starEach es X.env)).any (·.1) = false := by rfl)
    (ht : eval (.Call (.Attribute o m apos) (e :: es) [] pos) X.env = (do
      let ov ← eval o X.env
      standAt apos.atName
      let (f, first) ← holding [ov] (getMethod ov m pl)
      callWith pos f first (backTo pos (starEach (e :: es) X.env)) (backToKw pos (keywordEach [] X.env))) := by rfl) :
    PE X (.Call (.Attribute o m apos) (e :: es) [] pos) (tMethXD C m sp dvs E ta t) := by
  obtain ⟨f, fd, ps, ds, hc, hm, F, b, hd⟩ := c.ex
  refine ⟨fun pins s σ H Q I h => ?_⟩
  refine PySem.W.methodCall_KW (pl := pl) (thn (he.run pins s σ H _ I h) fun u s1 ⟨x, H1, I1, rx, a, dx, fs, ex, ea, l, q⟩ => ?_) ht
  subst ex
  obtain rfl : u = Value.ref a := rx
  refine getmeth_ok I1 ea hc hm l ?_
  refine PySem.W.callWith_K (first := [.ref a]) (h₀ := X.base) I.ok.mod.kin hm.kp (thn (ha.run pos pins s1 σ H1 _ I1 q) fun us s2 ⟨vs, H2, I2, r, q2⟩ => ⟨I2.kIn, ?_⟩) hst hpl
  exact run_fnSD (E := E) (us := .ref a :: us) (vs := .ref a :: vs) F (hr.mono hk) b hd (hx σ) I2 (.cons rfl r) q2
theorem pe_mtA0 {pl : Sem Bool} (c : MetXD X.prog X.w X.K X.mg X.base k C m sp dvs) (hr : Room j X.A) (hk : k ≤ j) (hx : ∀ σ, PassesAt (L2.CX X.prog X.w) X σ (E σ)) (he : PE X o ta)
    (ht : eval (.Call (.Attribute o m apos) [] [] pos) X.env = (do
      let ov ← eval o X.env
      standAt apos.atName
      let (f, first) ← holding [ov] (getMethod ov m pl)
      callWith pos f first (backTo pos (starEach [] X.env)) (backToKw pos (keywordEach [] X.env))) := by rfl) :
    PE X (.Call (.Attribute o m apos) [] [] pos) (tMethXD C m sp dvs E ta tNil) := by
  obtain ⟨f, fd, ps, ds, hc, hm, F, b, hd⟩ := c.ex
  refine ⟨fun pins s σ H Q I h => ?_⟩
  refine PySem.W.methodCall_KW (pl := pl) (thn (he.run pins s σ H _ I h) fun u s1 ⟨x, H1, I1, rx, a, dx, fs, ex, ea, l, q⟩ => ?_) ht
  subst ex
  obtain rfl : u = Value.ref a := rx
  refine getmeth_ok I1 ea hc hm l ?_
  exact PySem.W.callWith_K0 (first := [.ref a]) I1.kIn hm.kp (run_fnSD (E := E) (us := [.ref a]) (vs := [.ref a]) F (hr.mono hk) b hd (hx σ) I1 (.cons rfl .nil) q)
theorem pe_mtXD {pl : Sem Bool} (c : MetXD X.prog X.w X.K X.mg X.base k C m sp dvs) (hr : Room j X.A) (hk : k ≤ j) (tk : Takes X W) (he : PE X o ta) (ha : PA X (e :: es) t)
    (hst : starEach (e :: es) X.env = (false, eval e X.env) :: starEach es X.env := by rfl) (hpl : (backTo pos (starEach es X.env)).any (·.1) = false := by rfl)
    (ht : eval (.Call (.Attribute o m apos) (e :: es) [] pos) X.env = (do
      let ov ← eval o X.env
      standAt apos.atName
      let (f, first) ← holding [ov] (getMethod ov m pl)
      callWith pos f first (backTo pos (starEach (e :: es) X.env)) (backToKw pos (keywordEach [] X.env))) := by rfl) :
    PE X (.Call (.Attribute o m apos) (e :: es) [] pos) (tMethXD C m sp dvs (WE W) ta t) := pe_mtA c hr hk (fun σ => passAt tk σ) he ha hst hpl ht
theorem pe_mtXD0 {pl : Sem Bool} (c : MetXD X.prog X.w X.K X.mg X.base k C m sp dvs) (hr : Room j X.A) (hk : k ≤ j) (tk : Takes X W) (he : PE X o ta)
    (ht : eval (.Call (.Attribute o m apos) [] [] pos) X.env = (do
      let ov ← eval o X.env
      standAt apos.atName
      let (f, first) ← holding [ov] (getMethod ov m pl)
      callWith pos f first (backTo pos (starEach [] X.env)) (backToKw pos (keywordEach [] X.env))) := by rfl) :
    PE X (.Call (.Attribute o m apos) [] [] pos) (tMethXD C m sp dvs (WE W) ta tNil) := pe_mtA0 c hr hk (fun σ => passAt tk σ) he ht
end
end Vf

namespace Vf
open PySem L2 PySem.Spec PyProof.Rows He RZ
/-! ### what may raise, called where it does not -/
theorem passA0 {X : Cx} {σ : L2.St} : PassesAt (L2.CX X.prog X.w) X σ E0 := fun _ _ _ _ _ _ c => by
  obtain ⟨_, _, _, _, _, _, _, _, _, _, _, _, hE⟩ := c
  exact False.elim hE
theorem pe_cA {X : Cx} {k j : Nat} {x : Str} {sp : Sp} {p pos : Pos} {e : Expr} {es : List Expr} {t : TA} (c : CalX X.prog X.w X.K X.mg X.base k x sp) (hr : Room j X.A) (hk : k ≤ j) (hg : Gl X x) (ha : PA X (e :: es) t)
    (hdb : (x == ("__debug__" : Str)) = false := by decide) (he : starEach (e :: es) X.env = (false, eval e X.env) :: starEach es X.env := by rfl)
    (hpl : (backTo pos (starEach es X.env)).any (·.1) = false := by rfl) : PE X (.Call (.Name x p) (e :: es) [] pos) (tCallS sp (fun _ => E0) t) := by
  obtain ⟨f, fd, ps, F, hm, kp, b⟩ := c.ex
  exact pe_callS F (hr.mono hk) hg hm kp b (fun σ => passA0) ha hdb he hpl
end Vf

namespace Vf
open PySem L2 PySem.Spec PyProof.Rows He RZ
/-! ### C(..) whose __init__ may raise -/
structure MakX (P : Program) (w : World) (K : PySem.W.Frag) (mg : Str → Option Value) (base : Heap) (k : Nat) (x : Str) (C : Addr) (sp : Sp) : Prop where
  ex : ∃ (f : Addr) (fd : FuncData) (ps : List Str), Mk K C f ∧ FnOk P w K mg base (L2.CX P w) k f fd ps sp ∧ mg x = some (.ref C) ∧ Binds K fd ps []
def tMakX (C : Addr) (sp : Sp) (EE : L2.St → XK) (t : TA) : TE := fun σ H Q => t σ H fun vs H1 => ∀ x dx, H1 x = none → H1 dx = none → dx ≠ x → sp (.ref x :: vs) (upd (upd H1 dx (.own x)) x (.ins C dx [])) (fun v H2 => v = .non ∧ Q (.ref x) H2) (EE σ)
theorem e_tMakX {C : Addr} {sp : Sp} {EE : L2.St → XK} {t : TA} {σ : L2.St} {H : Hp} {Q : VK} (q : t σ H fun vs H1 => ∀ x dx, H1 x = none → H1 dx = none → dx ≠ x → sp (.ref x :: vs) (upd (upd H1 dx (.own x)) x (.ins C dx [])) (fun v H2 => v = .non ∧ Q (.ref x) H2) (EE σ)) : tMakX C sp EE t σ H Q := q
section
variable {X : Cx} {CX : CXT} {k j : Nat} {f C : Addr} {fd : FuncData} {ps : List Str} {sp : Sp} {E : L2.St → XK} {x m : Str} {p pos apos : Pos} {e o : Expr} {es : List Expr} {t : TA}
theorem run_makeX {pins : List (Addr × Obj)} {σ : L2.St} {H : Hp} {s : Shared} {Q : VK} {us : List Value} {vs : List V} (M : Mk X.K C f) (F : FnOk X.prog X.w X.K X.mg X.base CX k f fd ps sp) (hr : Room (k + 1) X.A) (hb : Binds X.K fd ps [])
    (hx : PassesAt CX X σ (E σ)) (I : Inv X pins σ H s) (r : Vals vs us)
    (h : ∀ x dx, H x = none → H dx = none → dx ≠ x → sp (.ref x :: vs) (upd (upd H dx (.own x)) x (.ins C dx [])) (fun v H2 => v = .non ∧ Q (.ref x) H2) (E σ)) :
    wpAny (model X.prog X.w) X.A (call (.ref C) us) (EP X pins σ Q) X.xe s := by
  have hq := h (s.heap.objs.size + 1) s.heap.objs.size (I.hok.fresh (Nat.le_succ _)) (I.hok.fresh (Nat.le_refl _)) (Nat.ne_of_lt (Nat.lt_succ_self _))
  have I2 := Inv.made (C := C) I
  have r2 : Vals (V.ref (s.heap.objs.size + 1) :: vs) (Value.ref (s.heap.objs.size + 1) :: us) := .cons rfl r
  have hl : (Value.ref (s.heap.objs.size + 1) :: us).length = ps.length := by
    have e := r2.length
    rw [F.len _ _ _ _ hq] at e
    exact e.symm
  have b := hb _ (Value.ref (s.heap.objs.size + 1) :: us) I2.kIn (by rw [List.append_nil]; exact hl)
  rw [List.append_nil] at b
  refine wpAny_call (make_map (f := f) I.kIn M.makes M.init (beq_iff_eq.mp M.fn) (codeAny_mono (F.run _ X.stack _ _ ⟨Value.ref (s.heap.objs.size + 1) :: us, []⟩ (Value.ref (s.heap.objs.size + 1) :: us) _ _ (E σ) (hr.make C us [])
    (I2.env0.make C us []) b r2 hq) fun r s' hq' => ?_))
  cases r with
  | error e => exact hx pins _ _ e s' I2 hq'
  | ok fl =>
    cases fl with
    | ret u =>
      obtain ⟨v, H', I3, rv, ev, q3⟩ := I2.after hq'
      subst ev
      exact ⟨rv, ⟨V.ref (s.heap.objs.size + 1), H', I3, rfl, q3⟩⟩
    | next => exact False.elim hq'
    | brk => exact False.elim hq'
    | cont => exact False.elim hq'
end
theorem pe_mkX {X : Cx} {W : WX} {k j : Nat} {C : Addr} {x : Str} {sp : Sp} {p pos : Pos} {e : Expr} {es : List Expr} {t : TA} (c : MakX X.prog X.w X.K X.mg X.base k x C sp) (hr : Room j X.A) (hk : k + 1 ≤ j) (tk : Takes X W) (hg : Gl X x) (ha : PA X (e :: es) t)
    (hdb : (x == ("__debug__" : Str)) = false := by decide) (he : starEach (e :: es) X.env = (false, eval e X.env) :: starEach es X.env := by rfl) (hpl : (backTo pos (starEach es X.env)).any (·.1) = false := by rfl) :
    PE X (.Call (.Name x p) (e :: es) [] pos) (tMakX C sp (WE W) t) := by
  obtain ⟨f, fd, ps, M, F, hm, b⟩ := c.ex
  refine ⟨fun pins s σ H Q I h => ?_⟩
  refine wpAny_Call_Name_kw (ld_glob I hg hm ?_ hdb)
  refine PySem.W.callWith_K (h₀ := X.base) I.ok.mod.kin M.kp (thn (ha.run pos pins s σ H _ I h) fun us s1 ⟨vs, H1, I1, r, q⟩ => ⟨I1.kIn, ?_⟩) he hpl
  exact run_makeX (E := WE W) M F (hr.mono hk) b (passAt tk _) I1 r q
section
variable {X : Cx} {k j : Nat} {C : Addr} {m : Str} {sp : Sp} {o e : Expr} {es : List Expr} {ta : TE} {t : TA} {apos pos : Pos}
theorem pe_mtXA {pl : Sem Bool} (c : MetX X.prog X.w X.K X.mg X.base k C m sp) (hr : Room j X.A) (hk : k ≤ j) (he : PE X o ta) (ha : PA X (e :: es) t)
    (hst : starEach (e :: es) X.env = (false, eval e X.env) :: starEach es X.env := by rfl) (hpl : (backTo pos (starEach es X.env)).any (·.1) = false := by rfl)
    (ht : eval (.Call (.Attribute o m apos) (e :: es) [] pos) X.env = (do
      let ov ← eval o X.env
      standAt apos.atName
      let (f, first) ← holding [ov] (getMethod ov m pl)
      callWith pos f first (backTo pos (starEach (e :: es) X.env)) (backToKw pos (keywordEach [] X.env))) := by rfl) :
    PE X (.Call (.Attribute o m apos) (e :: es) [] pos) (tMethX C m sp (fun _ => E0) ta t) := by
  obtain ⟨f, fd, ps, hc, hm, F, b⟩ := c.ex
  refine ⟨fun pins s σ H Q I h => ?_⟩
  refine PySem.W.methodCall_KW (pl := pl) (thn (he.run pins s σ H _ I h) fun u s1 ⟨x, H1, I1, rx, a, dx, fs, ex, ea, l, q⟩ => ?_) ht
  subst ex
  obtain rfl : u = Value.ref a := rx
  refine getmeth_ok I1 ea hc hm l ?_
  refine PySem.W.callWith_K (first := [.ref a]) (h₀ := X.base) I.ok.mod.kin hm.kp (thn (ha.run pos pins s1 σ H1 _ I1 q) fun us s2 ⟨vs, H2, I2, r, q2⟩ => ⟨I2.kIn, ?_⟩) hst hpl
  exact run_fnS (E := fun _ => E0) (us := .ref a :: us) (vs := .ref a :: vs) F (hr.mono hk) b passA0 I2 (.cons rfl r) q2
theorem pe_mtXA0 {pl : Sem Bool} (c : MetX X.prog X.w X.K X.mg X.base k C m sp) (hr : Room j X.A) (hk : k ≤ j) (he : PE X o ta)
    (ht : eval (.Call (.Attribute o m apos) [] [] pos) X.env = (do
      let ov ← eval o X.env
      standAt apos.atName
      let (f, first) ← holding [ov] (getMethod ov m pl)
      callWith pos f first (backTo pos (starEach [] X.env)) (backToKw pos (keywordEach [] X.env))) := by rfl) :
    PE X (.Call (.Attribute o m apos) [] [] pos) (tMethX C m sp (fun _ => E0) ta tNil) := by
  obtain ⟨f, fd, ps, hc, hm, F, b⟩ := c.ex
  refine ⟨fun pins s σ H Q I h => ?_⟩
  refine PySem.W.methodCall_KW (pl := pl) (thn (he.run pins s σ H _ I h) fun u s1 ⟨x, H1, I1, rx, a, dx, fs, ex, ea, l, q⟩ => ?_) ht
  subst ex
  obtain rfl : u = Value.ref a := rx
  refine getmeth_ok I1 ea hc hm l ?_
  exact PySem.W.callWith_K0 (first := [.ref a]) I1.kIn hm.kp (run_fnS (E := fun _ => E0) (us := [.ref a]) (vs := [.ref a]) F (hr.mono hk) b passA0 I1 (.cons rfl .nil) q)
end
/-- a loop within a try: the context is known from the first proof -/
theorem ps_forT {X : Cx} {W : WX} {tg iter : Expr} {body : List Stmt} {wi : TI} {g : TG} {tb : TS} {pos : Pos} (_tk : Takes X W) (hp : PassesOwn (model X.prog X.w) X.A X.env X.xe) (hc : X.calm = true) (hi : PI X tg iter wi) (hg : PG X tg g) (hb : PSs X body tb)
    (hs : ∀ x, foldedSetIterable iter X.env x = pure x := by intro _; rfl) : PS X (.For tg iter body [] pos) (tFor wi g tb) := ps_for hp hc hi hg hb hs
/-- a try whose body is told for each way out at once: what it does is known before the context is -/
theorem ps_try_onlyP {X : Cx} {x : Str} {c : Value} {body suite : List Stmt} {b₀ : Stmt} {np pos pos' : Pos} {tb : WX → TS} {ts : Addr → Value → Option Addr → TS} {Wout : WX} (hs : X.stack = X.env :: X.outer) (hf : X.env.frame = some X.env.locals) (hc : Names X x c) (tk : Takes X Wout)
    (pk : ∀ W : WX, {t : TS // ∀ (pn : List (Addr × Obj)) (xe : Value → Shared → Prop), Takes (X.tr pn xe) W → PassesOwn (model X.prog X.w) X.A X.env xe → PSs (X.tr pn xe) body t})
    (hsu : ∀ (a : Addr) (oe : Obj) (cls : Value) (d : Option Addr) (pn : List (Addr × Obj)), Zc cls d oe → (∃ vs, oe.data = .fields vs) → PSs (X.suite a ((a, oe) :: pn)) (b₀ :: suite) (ts a cls d)) (ht : tb = fun W => (pk W).1) :
    PS X (.Try body [.ExceptHandler (some (.Name x np)) none (b₀ :: suite) pos'] [] [] pos) (fun D σ H => tb (wOnly X.K c ts Wout D) D σ H) := by
  subst ht
  exact ps_try_only (tb := fun W => (pk W).1) hs hf hc tk (fun W pn xe tk hp => (pk W).2 pn xe tk hp) hsu
end Vf

namespace GQ2
open PySem PySem.SeqAt
open AutoSeq1 (wpAny_loadPart')
open MeetsSeq MeetsSeq2 MeetsSeq3 SeqRoads2
section
variable {prog : Program} {w : World} {A : Around} {R : Result → Shared → Prop}
theorem tuple_neG (l b : Addr) (items items2 : Array Value) (n n2 : Nat) (dd dd2 : Option Addr) (sl sl2 : Array (Option Value)) (hsz : items.size = items2.size) (I : Nat → Shared → Prop)
    (turn : ∀ i (h1 : i < items.size) (h2 : i < items2.size) s, I i s → wpAny (model prog w) A.in1 (eqBool items[i] items2[i]) (fun r s' => r = true ∧ I (i + 1) s') (fun e s' => R (.error e) s') s)
    (fin : ∀ s, I items.size s → R (.ok (.ret (.bool false))) s) {s : Shared} (hl1 : s.heap.get? l = some { cls := .type "tuple", dict := dd, data := .seq items n, slots := sl }) (hb1 : s.heap.get? b = some { cls := .type "tuple", dict := dd2, data := .seq items2 n2, slots := sl2 }) (h : I 0 s) :
    wpAny (model prog w) A.in1 (Builtin.«tuple.__ne__» ⟨[.ref l, .ref b], []⟩) (GQ.FinOf prog w A R) (fun e s' => R (.error e) s') s := by
  have f2 := AutoSeq1.sub_tuple_tuple
  have hZ : (items.toList.zip items2.toList).length = items.size := by simp [hsz]
  have h0 := h
  obtain ⟨hp, g, d, tk, os⟩ := s
  wp_walk using wpAny_loadPart' hl1, wpAny_loadPart' hb1, wpAny_forIn_list _ (fun rest b s' => b.1 = none ∧ ∃ i, rest = (items.toList.zip items2.toList).drop i ∧ i ≤ items.size ∧ I i s') _
  case turn =>
    rintro ⟨y, x⟩ rest b s' ⟨hb', i, hz, hi, hI⟩
    have hlt : i < (items.toList.zip items2.toList).length := by
      rcases Nat.lt_or_ge i (items.toList.zip items2.toList).length with h' | h'
      · exact h'
      · rw [List.drop_of_length_le h'] at hz; cases hz
    have h1 : i < items.size := hZ ▸ hlt
    have h2 : i < items2.size := hsz ▸ h1
    rw [List.drop_eq_getElem_cons hlt] at hz
    injection hz with hyx hrest
    have hy : y = items[i] := by have := congrArg Prod.fst hyx; simpa using this
    have hx : x = items2[i] := by have := congrArg Prod.snd hyx; simpa using this
    subst hy hx
    refine wpAny_bind (wpAny_mono (turn i h1 h2 s' hI) (fun r s2 q2 => ?_) fun _ _ x => x)
    obtain ⟨hr, q2⟩ := q2
    subst hr
    wp_walk
    exact ⟨rfl, i + 1, hrest, h1, q2⟩
  case fin =>
    rintro ⟨b1, b2⟩ s' ⟨hb', i, hz, hi, hI⟩
    simp only at hb'
    subst hb'
    have hge : items.size ≤ i := by
      rcases Nat.lt_or_ge i (items.toList.zip items2.toList).length with h' | h'
      · rw [List.drop_eq_getElem_cons h'] at hz; cases hz
      · exact hZ ▸ h'
    have hi' : i = items.size := by omega
    have hR : R (.ok (.ret (.bool false))) s' := fin s' (hi' ▸ hI)
    wp_walk
    simpa [Builtin.Tuple.tupleCompareSizes, hsz] using hR
  case h =>
    exact ⟨rfl, 0, rfl, Nat.zero_le _, h0⟩
end
section
variable {prog : Program} {w : World} {A : Around} {E : Value → Shared → Prop} {s : Shared}
theorem rc_tupN {l b : Addr} {items items2 : Array Value} {Q : Value → Shared → Prop} (hsz : items.size = items2.size) (hu : A.units < cLine) (I : Nat → Shared → Prop)
    (hl : s.heap.IsTuple l items) (hb : s.heap.IsTuple b items2)
    (turn : ∀ i (h1 : i < items.size) (h2 : i < items2.size) s, I i s → wpAny (model prog w) A.in1 (eqBool items[i] items2[i]) (fun r s' => r = true ∧ I (i + 1) s') E s)
    (fin : ∀ s, I items.size s → Q (.bool false) s) (h : I 0 s) : wpAny (model prog w) A (richCompare .NotEq (.ref l) (.ref b)) Q E s := by
  obtain ⟨⟨cls, dd, data, sl⟩, ho, hc, n, hd⟩ := id hl
  obtain ⟨⟨cls2, dd2, data2, sl2⟩, ho2, hc2, n2, hd2⟩ := id hb
  simp only at hc hd hc2 hd2
  subst hc hd hc2 hd2
  refine wpAny_richCompare_same_room (op := .NotEq) ⟨_, ho, rfl⟩ ⟨_, ho2, rfl⟩ F.slot_tuple_ne (GQ.call_here F.slot_tuple_ne ⟨_, ho, rfl⟩ F.entry_tuple_ne (F.args_tuple_ne_2 _ _) ?_) hu
  exact tuple_neG (R := wants (fun v s' => v ≠ .notImplemented ∧ Q v s') E) l b items items2 n n2 dd dd2 sl sl2 hsz I turn (fun s' q => ⟨(fun x => nomatch x), fin s' q⟩) ho ho2 h
end
end GQ2
namespace Vf
open PySem L2 PySem.Spec PyProof.Rows He RZ
/-- x != y of two tuples whose items are all equal -/
def rNeG (D : L2.Eqv) : R2 := fun x y H Q => D x y H ∧ ∀ H', L2.Ext H H' → Q (.bl false) H'
theorem op_neG {X : Cx} {n : Nat} {D : L2.Eqv} (hD : L2.Mon D) (h : L2.EqG X n D) (hr : Room (n + 1) X.A) : OpR X (compareOp .NotEq) (rNeG (L2.DTup X.K D)) := by
  intro pins s σ H x y v u Q I rx ry hq
  obtain ⟨d, q⟩ := hq
  show wpAny (model X.prog X.w) X.A (richCompare .NotEq v u) (EP X pins σ Q) X.xe s
  obtain ⟨a, b, xs, ys, rfl, rfl, ha, hb, p⟩ := d
  cases rx
  cases ry
  have sb : L2.Sub X (n + 1) X.A := ⟨hr, rfl⟩
  obtain ⟨its, r, e, z⟩ := I.tuple ha
  obtain ⟨its2, r2, e2, z2⟩ := I.tuple hb
  have hsz : its.toArray.size = its2.toArray.size := by rw [List.size_toArray, List.size_toArray, ← r.length, ← r2.length]; exact p.1
  exact GQ2.rc_tupN hsz sb.room.units0 (fun _ s' => L2.LoopI X pins σ H s') e e2 (fun i h1 h2 s' q => L2.turnG hD h sb p r r2 i h1 h2 s' q) (fun s' l => by
    obtain ⟨H', I', ex⟩ := l
    exact ⟨.bl false, H', I', rfl, q H' ex⟩) ⟨H, I, L2.Ext.rfl'⟩
end Vf

namespace SrtO
open PySem PyProof.Rows Srt
section
variable {prog : Program} {w : World} {A : Around} {E : Value → Shared → Prop} {s : Shared}
theorem collect_tupS {l : Addr} {vs : List Value} {Q : List Value → Shared → Prop} (hl : s.heap.IsTuple l vs.toArray) (hz : vs.length ≤ sizeLine)
    (h : Q vs { s with heap := (s.heap.push (seqObj "list" #[] 0)).update s.heap.objs.size (Obj.mapSeq (· ++ vs.toArray)) }) :
    wpAny (model prog w) A (collect (.ref l)) Q E s := by
  obtain ⟨o, ho, hc, n, hd⟩ := id hl
  unfold collect
  refine wpAny_bind (wpAny_runValue (codeAny_builtin entry_proto_collect' ?_))
  show wpAny _ _ (do again (.builtin "list.__iadd__" ⟨[← newList [], .ref l], []⟩)) _ _ s
  refine wpAny_bind (wpAny_newList (wpAny_pure ⟨Code.quiet_builtin _ (by decide +kernel), codeAny_builtin entry_list_iadd' ?_⟩))
  show wpAny _ _ (Builtin.List.listExtendWith (.ref s.heap.objs.size) (.ref l) (.ref s.heap.objs.size)) _ _ { s with heap := s.heap.push (seqObj "list" #[] 0) }
  unfold Builtin.List.listExtendWith
  have ho' : (s.heap.push (seqObj "list" #[] 0)).get? l = some o := Heap.get?_push_of_some _ ho
  refine wpAny_bind (wpAny_typeOf (T := "tuple") ⟨o, ho', hc⟩ ?_)
  have ht : (Value.type "tuple" == Value.type "tuple") = true := by rfl
  rw [if_pos (by rw [ht]; simp)]
  refine wpAny_bind (listItems_at ho' hd ?_)
  refine wpAny_bind (listItems_at (xs := #[]) (n := 0) (Heap.get?_push_size _ rfl) rfl ?_)
  rw [if_neg (by simp)]
  refine wpAny_bind (listUpdate_at (xs := #[]) (n := 0) (Heap.get?_push_size _ rfl) rfl ?_ (Nat.zero_le _) (by show (#[] ++ vs.toArray).size ≤ sizeLine + 1; simp only [Array.size_append, List.size_toArray, List.length_nil]; omega))
  refine wpAny_pure ?_
  show wpAny (model prog w) A (do
      let o ← load s.heap.objs.size
      match o.data with
      | .seq xs _ => pure xs.toList
      | _ => unsupported "internal:collect") Q E { s with heap := (s.heap.push (seqObj "list" #[] 0)).update s.heap.objs.size (Obj.mapSeq (· ++ vs.toArray)) }
  refine wpAny_bind (wpAny_load (get?_update_seq (Heap.get?_push_size _ rfl) _) ?_)
  show wpAny _ _ (pure ((#[] : Array Value) ++ vs.toArray).toList) Q E _
  rw [show ((#[] : Array Value) ++ vs.toArray).toList = vs by simp]
  exact wpAny_pure h
theorem sorted_ordT {l : Addr} {vs : List Value} {ltv : Value → Value → Bool} {Q : Value → Shared → Prop} (O : Swo ltv) (hl : s.heap.IsTuple l vs.toArray) (hz : vs.length ≤ sizeLine)
    (hS : 2 ≤ vs.length → ∀ (h₁ : Heap) (a : Addr), h₁.get? a = some (seqObj "list" vs.toArray 0) → (∀ b o, s.heap.get? b = some o → b ≠ a ∧ h₁.get? b = some o) → SortableO prog w A.in1.in1 { s with heap := h₁ } a vs ltv)
    (h : ∀ out : List Value, Srtd ltv out → Stb ltv out vs → Q (.ref (s.heap.objs.size + 1)) { s with heap := sortedAll s.heap vs out.toArray }) :
    wpAny (model prog w) A (call (.builtin "sorted") [.ref l]) Q E s := by
  refine Calls.call_function_entry kind_sorted plain_sorted entry_sorted (args_sorted1 _) ?_
  unfold Builtin.«sorted»
  refine wpAny_bind (m := checkCount "sorted" 1 1 _) (wpAny_pure ?_)
  refine wpAny_bind (collect_tupS hl hz ?_)
  refine wpAny_bind (wpAny_newList ?_ hz)
  have hsz : ((s.heap.push (seqObj "list" #[] 0)).update s.heap.objs.size (Obj.mapSeq (· ++ vs.toArray))).objs.size = s.heap.objs.size + 1 := by
    rw [Heap.size_update, size_push']
  have hoL : (((s.heap.push (seqObj "list" #[] 0)).update s.heap.objs.size (Obj.mapSeq (· ++ vs.toArray))).push (seqObj "list" vs.toArray 0)).get? (s.heap.objs.size + 1) = some (seqObj "list" vs.toArray 0) := by
    rw [← hsz]; exact Heap.get?_push_size _ rfl
  have keep : ∀ b o, s.heap.get? b = some o → b ≠ s.heap.objs.size + 1 ∧ (((s.heap.push (seqObj "list" #[] 0)).update s.heap.objs.size (Obj.mapSeq (· ++ vs.toArray))).push (seqObj "list" vs.toArray 0)).get? b = some o := fun b o q => by
    have hlt : b < s.heap.objs.size := Heap.lt_size q
    refine ⟨Nat.ne_of_lt (Nat.lt_succ_of_lt hlt), Heap.get?_push_of_some _ ?_⟩
    rw [Heap.get?_update_ne _ _ _ _ (Nat.ne_of_lt hlt)]
    exact Heap.get?_push_of_some _ q
  show wpAny _ _ _ _ _ { s with heap := ((s.heap.push (seqObj "list" #[] 0)).update s.heap.objs.size (Obj.mapSeq (· ++ vs.toArray))).push (seqObj "list" vs.toArray 0) }
  rw [hsz]
  refine wpAny_bind (wpAny_holding (wpAny_call_entry slot_list_sort ⟨_, hoL, rfl⟩ entry_list_sort (list_sort_ord O hoL hz (fun h2 => hS h2 _ _ hoL keep) fun out hs hb => ⟨_, rfl, ?_⟩) (args_list_sort _)))
  exact wpAny_pure ⟨_, rfl, h out hs hb⟩
theorem sorted_pairsOT {l : Addr} {vs : List Value} {k : Value → Int × Int} {Q : Value → Shared → Prop} (hl : s.heap.IsTuple l vs.toArray) (hz : vs.length ≤ sizeLine) (hp : ∀ v ∈ vs, IsPair s.heap v (k v).1 (k v).2)
    (h : ∀ (h' : Heap) (d : Addr) (out : List Value), Srtd (fun v u => lexB (k v) (k u)) out → Stb (fun v u => lexB (k v) (k u)) out vs → (∀ b o, s.heap.get? b = some o → h'.get? b = some o) → s.heap.objs.size ≤ d → (∃ n, h'.get? d = some (seqObj "list" out.toArray n)) → Q (.ref d) { s with heap := h' }) :
    wpAny (model prog w) A (call (.builtin "sorted") [.ref l]) Q E s := by
  refine sorted_ordT (swo_lex k) hl hz (fun h2 h₁ a ha kk => ?_) fun out hs hb => ?_
  · refine pairs_sortableO (s := { s with heap := h₁ }) (by omega) (fun v hm => (hp v hm).keeps fun b o e _ => (kk b o e).2) fun o e => ?_
    have e' : some o = some (seqObj "list" vs.toArray 0) := e.symm.trans ha
    cases e'
    intro c
    exact absurd (Value.type.inj c) (by decide)
  · exact h _ _ out hs hb (fun b o e => sortedAll_old e) (Nat.le_succ _) (sortedAll_at s.heap vs out.toArray)
end
end SrtO
namespace Vf
open PySem L2 PySem.Spec PyProof.Rows He RZ
/-- sorted(t), t a tuple of pairs of ints -/
def rSortedPT (K : PySem.W.Frag) : List V → Hp → VK → Prop := fun vs H Q => ∃ (a : Addr) (xs : List V) (k : V → Int × Int), vs = [V.ref a] ∧ SqT K H a xs ∧ (∀ x ∈ xs, ∃ t, x = V.ref t ∧ H t = some (.tup [.int (k x).1, .int (k x).2])) ∧
  ∀ ys p, SrtO.Srtd (ltP k) ys → SrtO.Stb (ltP k) ys xs → H p = none → Q (.ref p) (upd H p (.lst ys))
theorem cr_sortedPT {X : Cx} : CallR X (.builtin "sorted") (rSortedPT X.K) := by
  intro pins s σ H vs us Q I r h
  obtain ⟨a, xs, k, rfl, hs, hx, q⟩ := h
  obtain ⟨its, rv, hl, hz⟩ := I.tuple hs
  obtain ⟨u, rfl, ru⟩ := vals1 r
  obtain rfl : u = Value.ref a := ru
  obtain ⟨e1, e2⟩ := refs_back rv fun x m => by
    obtain ⟨t, e, _⟩ := hx x m
    exact ⟨t, e⟩
  refine SrtO.sorted_pairsOT (k := fun u => k (backV u)) hl (by rw [← rv.length]; exact hz) (fun v hv => ?_) fun h' d out h1 h2 kp hd hn => ?_
  · obtain ⟨t, rfl⟩ := e2 v hv
    have hm : V.ref t ∈ xs := by rw [e1]; exact List.mem_map.mpr ⟨_, hv, rfl⟩
    obtain ⟨t', e, ht⟩ := hx _ hm
    cases e
    obtain ⟨_, its2, r2, o, ho, hc, n, hd⟩ := I.hok _ _ ht
    obtain ⟨u1, u2, rfl, ri, rj⟩ := vals2 r2
    obtain ⟨t1, rfl⟩ := ri
    obtain ⟨t2, rfl⟩ := rj
    exact ⟨t, o, t1, t2, n, rfl, ho, hc, hd⟩
  · have h3 : ∀ u ∈ out, ∃ a, u = Value.ref a := fun u hu => e2 u (h2.perm.mem_iff.mp hu)
    obtain ⟨n, hn⟩ := hn
    have hb : SrtO.Stb (ltP k) (out.map backV) xs := by
      rw [e1]
      exact SrtO.Stb.map (ltP_swo k) backV h2
    refine ⟨.ref d, upd H d (.lst (out.map backV)), I.laid (t' := s.toks) kp hd ⟨?_, out, n, vals_back h3, hn⟩, rfl, q _ d (SrtO.srtd_map h1) hb (I.hok.fresh hd)⟩
    rw [hb.len]
    exact hz
end Vf

namespace Vf
open PySem L2 PySem.Spec PyProof.Rows
/-! max(xs, default=d), xs a list of ints -/
def rMaxDf (K : PySem.W.Frag) : List V → List V → Hp → VK → Prop := fun vs zs H Q => ∃ (a : Addr) (ns : List Int) (d : Int), vs = [V.ref a] ∧ zs = [.int d] ∧ SqL K H a (ns.map V.int) ∧ (ns = [] → Q (.int d) H) ∧ ∀ m, m ∈ ns → (∀ y, y ∈ ns → y ≤ m) → Q (.int m) H
theorem reads_intsAre {h : Heap} : ∀ {its : List Value} {ns : List Int}, IntsAre its ns → ReadsAll h its (ns.map .int) []
  | _, _, .nil => .nil
  | _, _, .cons n t r => .cons (.int n t) (reads_intsAre r)
theorem alike_ints (ns : List Int) : PySem.W.AlikeAll (ns.map PyData.int) := by
  refine ⟨fun x hx y hy => ?_, fun x hx => ?_⟩
  · obtain ⟨a, _, rfl⟩ := List.mem_map.mp hx
    obtain ⟨b, _, rfl⟩ := List.mem_map.mp hy
    rfl
  · obtain ⟨a, _, rfl⟩ := List.mem_map.mp hx
    exact fun z => by cases z
theorem depthZ : ∀ ns : List Int, PyData.depthAll (ns.map .int) = 0
  | [] => rfl
  | n :: r => by simp only [List.map, PyData.depthAll, PyData.depth, depthZ r, Nat.max_self]
theorem foldl_max (n : Int) : ∀ ns : List Int, ns.foldl max n ∈ n :: ns ∧ ∀ y ∈ n :: ns, y ≤ ns.foldl max n
  | [] => ⟨by simp, fun y hy => by simp at hy; rw [hy]; exact Int.le_refl _⟩
  | a :: ns => by
    obtain ⟨h1, h2⟩ := foldl_max (max n a) ns
    refine ⟨?_, fun y hy => ?_⟩
    · rcases List.mem_cons.mp h1 with e | h
      · show ns.foldl max (max n a) ∈ _
        rw [e]
        rcases Int.le_total n a with z | z
        · rw [Int.max_eq_right z]; simp
        · rw [Int.max_eq_left z]; simp
      · exact List.mem_cons_of_mem _ (List.mem_cons_of_mem _ h)
    · have h3 := h2 (max n a) (List.mem_cons_self ..)
      show y ≤ ns.foldl max (max n a)
      rcases List.mem_cons.mp hy with e | h
      · rw [e]; exact Int.le_trans (Int.le_max_left ..) h3
      · rcases List.mem_cons.mp h with e | h
        · rw [e]; exact Int.le_trans (Int.le_max_right ..) h3
        · exact h2 y (List.mem_cons_of_mem _ h)
theorem cr_maxDf {X : Cx} (hc : X.calm = true) (hu : X.A.units + 64 < cLine) : CallRK X (.builtin "max") [Str.ofString "default"] (rMaxDf X.K) := by
  intro pins s σ H vs zs us ws Q I r rz hq
  obtain ⟨a, ns, d, rfl, rfl, hs, q0, q1⟩ := hq
  obtain ⟨its, rv, hl, _⟩ := I.list hs
  rw [Vals.ref1 r]
  obtain ⟨u, rfl, ru⟩ := vals1 rz
  obtain ⟨t, rfl⟩ := ru
  have hr := reads_intsAre (h := s.heap) rv.ints
  refine PySem.W.max_list_default (I.ok.hd hc) hl.isList hr (alike_ints ns) (by rw [depthZ]; omega) (fun e h' tk hk => ?_) fun y ys i v h' tk bs e hi hv hk => ?_
  · exact ⟨.int d, H, I.kept hk, ⟨t, rfl⟩, q0 (List.map_eq_nil_iff.mp e)⟩
  · cases ns with
    | nil => cases e
    | cons n ns =>
      rw [List.map_cons] at e
      injection e with e1 e2
      subst e1 e2
      rw [PySem.W.maxD_ints] at hv
      obtain ⟨t2, rfl, _⟩ := reads_int_inv hv
      obtain ⟨h1, h2⟩ := foldl_max n ns
      exact ⟨.int _, H, I.kept hk, ⟨t2, rfl⟩, q1 _ h1 h2⟩
theorem pe_maxDf {X : Cx} {p p3 pos : Pos} {e d : Expr} {t : TA} {td : TE} (hc : X.calm = true) (hu : X.A.units + 64 < cLine) (hg : Gl X "max") (hm : X.mg "max" = none) (ha : PA X [e] t) (hd : PE X d td)
    (he : backTo pos (starEach [e] X.env) = (false, eval e X.env) :: backTo pos (starEach [] X.env) := by rfl) (hpl : (backTo pos (starEach [e] X.env)).any (·.1) = false := by rfl)
    (hall : (backToKw pos (keywordEach [⟨some "default", d, p3⟩] X.env)).all (·.1.isSome) = true := by rfl) (hnone : (backToKw pos (keywordEach [⟨some "default", d, p3⟩] X.env)).any (·.1.isNone) = false := by rfl) (hks : (backToKw pos (keywordEach [⟨some "default", d, p3⟩] X.env)).filterMap (·.1) = [Str.ofString "default"] := by rfl) :
    PE X (.Call (.Name "max" p) [e] [⟨some "default", d, p3⟩] pos) (tCKw (rMaxDf X.K) t (tCons td tNil)) :=
  pe_callBK (cr_maxDf hc hu) hg hm (by first | rfl | decide +kernel) ha (pk_cons hd pk_nil) (by decide) (by decide) he hpl hall hnone hks
/-- xs.count(x) within a comprehension -/
theorem pe_lcountK (K : PySem.W.Frag) {X : Cx} {o e : Expr} {apos cpos : Pos} {to : TE} {t : TA} (ho : PE X o to) (ha : PA X [e] t) (hK : X.K = K := by rfl)
    (hbase : attributeBase o "count" X.env (eval o X.env) = eval o X.env := by rfl)
    (hfew : ((backTo cpos (starEach [e] X.env)).all (fun x => !x.1) && (backToKw cpos (keywordEach [] X.env)).all (fun x => x.1.isSome)
      && decide ([e].length + ([] : List Keyword).length + (if ([] : List Keyword).isEmpty then 0 else 1) < 30)) = true := by rfl)
    (hline : (apos.endLine == cpos.line) = true := by rfl) (hs : starEach [e] X.env = (false, eval e X.env) :: starEach [] X.env := by rfl) (hplain : (backTo cpos (starEach [] X.env)).any (·.1) = false := by rfl) :
    PE X (.Call (.Attribute o "count" apos) [e] [] cpos) (tBM K "list" (rCntI K) to t) := by
  subst hK
  exact pe_bm PySem.F.plainAttrs_list PySem.F.slot_list_count PySem.F.type_list_count mt_lcount ho ha hbase hfew hline hs hplain
/-- len(d), a dict with int or text keys -/
theorem cr_lenDK {X : Cx} : CallR X (.builtin "len") (fun xs H Q => ∃ p kvs, xs = [.ref p] ∧ Rd H p (.dK kvs) ∧ Q (.int (kvs.length : Nat)) H) := by
  intro pins s σ H xs us Q I r h
  obtain ⟨p, kvs, rfl, hd, q⟩ := h
  rw [Vals.ref1 r]
  exact d_len I hd fun t s' I' => ⟨.int _, H, I', ⟨t, rfl⟩, q⟩
/-- len of a set of ints -/
def rLenS (w : World) : List V → Hp → VK → Prop := fun xs H Q => ∃ p S n, xs = [.ref p] ∧ H p = some (SetO w p S n) ∧ ∀ N : List Int, N.Nodup → (∀ k, S k = true ↔ k ∈ N) → Q (.int (N.length : Nat)) H
theorem cr_lenS {X : Cx} : CallR X (.builtin "len") (rLenS X.w) := by
  intro pins s σ H xs us Q I r h
  obtain ⟨p, S, n, rfl, hp, q⟩ := h
  rw [Vals.ref1 r]
  obtain ⟨o, es, ep, t, ho, hex, hd, _, nd, hS, hb, hf, hn, _⟩ := setO_get I hp
  have q2 := q _ nd hS
  rw [List.length_map, Array.length_toList] at q2
  have : scanBound < 2 ^ 63 := by decide
  exact call_len_set ho hex hd hf (by omega) ⟨.int _, H, I.tok _, ⟨_, rfl⟩, q2⟩
end Vf

namespace Vf
open PySem L2 PySem.Spec PyProof.Rows
/-! d.update(e), two dicts with number or text keys -/
def rUpdD : V → List V → Hp → VK → Prop := fun x xs H Q => ∃ (a b : Addr) (kvs more : List (L2.Key × V)), x = .ref a ∧ xs = [.ref b] ∧ a ≠ b ∧ H a = some (.dK kvs) ∧ H b = some (.dK more) ∧ kvs.length + more.length ≤ sizeLine ∧ Q .non (upd H a (.dK (mergeK kvs more)))
theorem mt_updD {X : Cx} : MtR X "dict.update" rUpdD := by
  intro pins s σ H x xs v us Q I rx rxs h
  obtain ⟨a, b, kvs, more, rfl, rfl, ne, ha, hb, hl, q⟩ := h
  cases rx
  obtain ⟨u, rfl, ru⟩ := vals1 rxs
  cases ru
  obtain ⟨z, hd, vs, rel, dd⟩ := dk_of I.hok ha
  obtain ⟨z2, hd2, vs2, rel2, dd2⟩ := dk_of I.hok hb
  refine call_meetsIn PySem.F.slot_dict_update dd.typeIs PySem.F.entry_dict_update (PySem.F.args_dict_update_2 _ _) (meets_dict_update (mixKind X.prog X.w) a b ne hd2)
    ⟨vs, vs2, dd, dd2, by rw [← rel.length, ← rel2.length]; exact hl, fun h' dd' _ hs => ?_⟩
  have he : ∃ q, h'.get? a = some q := let ⟨q, _, _, hq, _⟩ := dd'; ⟨q, hq⟩
  exact ⟨.non, _, d_write (t' := s.toks) I (by rw [ha]; exact True.intro) hs he (dk_new (Nat.le_trans (length_mergeK more kvs) hl) hd (KV.merge rel2 rel) dd'), rfl, q⟩
end Vf

namespace Vf
open PySem L2 PySem.Spec PyProof.Rows He
/-! ### t[::-1], any tuple -/
theorem rev_places (n : Nat) : Builtin.Slice.slicePlaces ((n : Int) - 1) (-1) (-1) = n := by
  unfold Builtin.Slice.slicePlaces
  rw [if_neg (by decide)]
  by_cases h : (n : Int) - 1 > -1
  · rw [if_pos h, show (-(-1) : Int) = 1 from rfl, Int.ediv_one]; omega
  · rw [if_neg h]; omega
theorem rev_adjust (n : Nat) : Builtin.Slice.sliceAdjust none none (-1) (n : Int) = ((n : Int) - 1, -1) := rfl
theorem range_self {α : Type} : ∀ m : List α, ((List.range m.length).filterMap fun k => m[k]?) = m
  | [] => rfl
  | a :: t => by
    rw [List.length_cons, List.range_succ_eq_map, List.filterMap_cons]
    show a :: _ = _
    rw [List.filterMap_map]
    exact congrArg _ (range_self t)
theorem filterMap_on {α β : Type} {f g : α → Option β} : ∀ {l : List α}, (∀ x ∈ l, f x = g x) → l.filterMap f = l.filterMap g
  | [], _ => rfl
  | a :: l, h => by
    rw [List.filterMap_cons, List.filterMap_cons, h a (List.mem_cons_self ..), filterMap_on fun x m => h x (List.mem_cons_of_mem _ m)]
theorem rev_items {α : Type} (xs : Array α) : ((List.range xs.size).filterMap fun (k : Nat) => xs[(((xs.size : Nat) : Int) - 1 + (k : Int) * (-1)).toNat]?) = xs.toList.reverse := by
  have h : ((List.range xs.size).filterMap fun (k : Nat) => xs[(((xs.size : Nat) : Int) - 1 + (k : Int) * (-1)).toNat]?) = ((List.range xs.size).filterMap fun (k : Nat) => xs.toList.reverse[k]?) := by
    refine filterMap_on fun k hk => ?_
    have hk := List.mem_range.mp hk
    rw [List.getElem?_reverse (by rw [Array.length_toList]; exact hk), Array.getElem?_toList, Array.length_toList]
    congr 1
    omega
  rw [h]
  have := range_self xs.toList.reverse
  rw [List.length_reverse, Array.length_toList] at this
  exact this
section
variable {prog : Program} {w : World} {A : Around} {E : Value → Shared → Prop} {s : Shared}
theorem revN_applied {n : Nat} {sl : Addr} {u : Tok} {Q : Int × Int × Nat → Shared → Prop} (hs : s.heap.IsSliceOf sl .none .none (.int (-1) u)) (h : Q ((n : Int) - 1, -1, n) s) :
    wpAny (model prog w) A (Builtin.Slice.sliceApplied (.ref sl) (pure ((n : Nat) : Int))) Q E s := by
  obtain ⟨os, hos, hcs, hds⟩ := id hs
  unfold Builtin.Slice.sliceApplied Builtin.Slice.sliceFields
  refine wpAny_bind (wpAny_bind (wpAny_field hos hds (x := .none) rfl (wpAny_bind (wpAny_field hos hds (x := .none) rfl (wpAny_bind (wpAny_field hos hds (x := .int (-1) u) rfl (wpAny_pure ?_)))))))
  refine wpAny_bind (slicePart_int ?_)
  show wpAny _ _ (if ((-1 : Int) == 0) = true then _ else _) _ _ s
  rw [if_neg (by decide)]
  refine wpAny_bind (slicePart_none (wpAny_bind (slicePart_none (wpAny_bind (wpAny_pure ?_)))))
  show wpAny _ _ (match Builtin.Slice.sliceAdjust none none (-1) ((n : Nat) : Int) with | (lo, hi) => pure (lo, (-1 : Int), Builtin.Slice.slicePlaces lo hi (-1))) _ _ s
  rw [rev_adjust]
  show wpAny _ _ (pure ((n : Int) - 1, (-1 : Int), Builtin.Slice.slicePlaces ((n : Int) - 1) (-1) (-1))) _ _ s
  rw [rev_places]
  exact wpAny_pure h
theorem getItem_tup_rev {t sl : Addr} {its : Array Value} {u : Tok} {Q : Value → Shared → Prop} (ht : IsTup s.heap t its) (hz : its.size ≤ sizeLine) (hs : s.heap.IsSliceOf sl .none .none (.int (-1) u))
    (h : Q (.ref s.heap.objs.size) { s with heap := s.heap.push { cls := .type "tuple", data := .seq its.toList.reverse.toArray } }) : wpAny (model prog w) A (getItem (.ref t) (.ref sl)) Q E s := by
  obtain ⟨os, hos, hcs, hds⟩ := id hs
  have hTs : s.TypeIs (.ref sl) "slice" := ⟨os, hos, hcs⟩
  unfold getItem
  try with_reducible refine wpAny_holding ?_
  first | refine wpAny_bind (wpAny_pure ?_) | skip
  refine wpAny_bind (wpAny_sequenceKey ht.typeIs (by decide) ?_)
  refine wpAny_bind (wpAny_callSpecial?_slot (name := Str.ofString "__getitem__") ht.typeIs PyProof.Rows.slot_tuple_getitem
    (wpAny_call_entry PyProof.Rows.slot_tuple_getitem ht.typeIs entry_tuple_getitem ?_ (args_tuple_getitem _ _)))
  show wpAny _ _ (Builtin.Tuple.tupleItemsOf (.ref t) >>= _) _ _ s
  refine wpAny_bind (tupleItemsOf_ ht ?_)
  refine wpAny_bind (wpAny_typeOf hTs ?_)
  rw [if_pos (by decide)]
  refine wpAny_bind (revN_applied hs ?_)
  show wpAny _ _ (if ((((its.size : Nat) : Int) - 1) == 0 && (-1 : Int) == 1 && (its.size == its.size)) = true then _ else _) _ _ s
  rw [if_neg (by rw [show ((-1 : Int) == 1) = false from by decide, Bool.and_false, Bool.false_and]; exact Bool.false_ne_true)]
  rw [rev_items]
  have hz : sizeOk (.seq its.toList.reverse.toArray) := by show its.toList.reverse.toArray.size ≤ sizeLine; simpa using hz
  first
    | exact wpAny_bind (m := Builtin.Tuple.tupleExact _) (wpAny_newObj_type (wpAny_pure ⟨_, rfl, wpAny_pure h⟩) hz)
    | exact wpAny_bind (m := Builtin.Tuple.tupleExact _) (wpAny_newObj_type (wpAny_bind (wpAny_pure (wpAny_pure ⟨_, rfl, wpAny_pure h⟩))) hz)
    | exact wpAny_bind (wpAny_bind (m := Builtin.Tuple.tupleExact _) (wpAny_newObj_type (wpAny_pure (wpAny_pure ⟨_, rfl, wpAny_pure h⟩)) hz))
    | exact wpAny_bind (wpAny_bind (m := Builtin.Tuple.tupleExact _) (wpAny_newObj_type (wpAny_pure ⟨_, rfl, wpAny_pure h⟩) hz))
end
section
variable {X : Cx}
def tRevTN (K : PySem.W.Frag) (te : TE) : TE := fun σ H Q => te σ H fun x H1 => ∃ a xs, x = .ref a ∧ SqT K H1 a xs ∧ ∀ p, H1 p = none → Q (.ref p) (upd H1 p (.tup xs.reverse))
theorem vals_rev : ∀ {xs : List V} {us : List Value}, Vals xs us → Vals xs.reverse us.reverse
  | _, _, .nil => .nil
  | _, _, .cons r t => by
    rw [List.reverse_cons, List.reverse_cons]
    exact (vals_rev t).append (.cons r .nil)
theorem pe_revTN {e : Expr} {te : TE} {k : Nat} {p1 p2 p3 pos : Pos} (he : PE X e te) : PE X (.Subscript e (.Slice none none (some (.UnaryOp .USub (.Constant (.int 1) k p1) p2)) p3) pos) (tRevTN X.K te) := by
  refine ⟨fun pins s σ H Q I h => ?_⟩
  refine Subscript_ (thn (he.run pins s σ H _ I h) fun v s1 ⟨x, H1, I1, r1, q1⟩ => ?_)
  obtain ⟨a, xs, ex, hx, q⟩ := q1
  subst ex
  cases r1
  have hst : PO X (some (.UnaryOp .USub (.Constant (.int 1) k p1) p2)) (tPart (tUn (rU fun i => .int (-i)) (tC (.int 1)))) := po_some (pe_un un_neg pe_int)
  refine wpAny_Slice (thn (po_none.run pins s1 σ H1 (fun o H2 => o = none ∧ H2 = H1) I1 ⟨rfl, rfl⟩) fun vl s2 ⟨l, H2, I2, pl, el, e2⟩ => ?_)
  subst el e2
  refine thn (po_none.run pins s2 σ H2 (fun o H3 => o = none ∧ H3 = H2) I2 ⟨rfl, rfl⟩) fun vu s3 ⟨u, H3, I3, pu, eu, e3⟩ => ?_
  subst eu e3
  refine thn (hst.run pins s3 σ H3 (fun o H4 => o = some (-1) ∧ H4 = H3) I3 ⟨1, rfl, -1, rfl, rfl, rfl⟩) fun vs s4 ⟨o, H4, I4, ps, eo, e4⟩ => ?_
  subst eo e4
  cases pl
  cases pu
  cases ps with
  | int i tk =>
  have I5 : Inv X pins σ H4 { s4 with heap := s4.heap.push { cls := .type "slice", data := .fields #[.none, .none, .int (-1) tk] } } := I4.kept (t' := s4.toks) fun b ob q => Heap.get?_push_of_some _ q
  obtain ⟨its, r, ht, hz⟩ := I5.tuple hx
  show wpAny (model X.prog X.w) X.A (subscriptTail e (.Slice none none (some (.UnaryOp .USub (.Constant (.int 1) k p1) p2)) p3) (.ref a) (.ref s4.heap.objs.size)) (EP X pins σ Q) X.xe { s4 with heap := s4.heap.push { cls := .type "slice", data := .fields #[.none, .none, .int (-1) tk] } }
  refine tail_any (ops := [.ref a, .ref s4.heap.objs.size]) ht.typeIs PyProof.Rows.slot_tuple_getitem.lookup ?_ (by with_unfolding_all rfl)
  have hz2 : its.toArray.size ≤ sizeLine := by rw [List.size_toArray, ← r.length]; exact hz
  refine getItem_tup_rev ht hz2 (Heap.IsSliceOf.new _ _ _ _) ?_
  have hl : xs.reverse.length ≤ sizeLine := by rw [List.length_reverse]; exact hz
  refine ⟨.ref _, _, I5.laid (t' := s4.toks) (o := .tup xs.reverse) (fun b ob q => Heap.get?_push_of_some _ q) (Nat.le_refl _) ?_, rfl, q _ (I5.hok.fresh (Nat.le_refl _))⟩
  exact ⟨hl, _, vals_rev r, IsTup.new _ _⟩
end
end Vf

namespace Vf
open PySem L2 PySem.Spec PyProof.Rows
/-! t * n, n at least 1 -/
theorem tuple_mul1 (l : Addr) (items : Array Value) (n : Nat) (dd : Option Addr) (sl : Array (Option Value)) (u : Tok) :
    Meets (Builtin.«tuple.__mul__» ⟨[.ref l, .int 1 u], []⟩) (fun _ R s => s.heap.get? l = some { cls := .type "tuple", dict := dd, data := .seq items n, slots := sl } ∧
      R (.ok (.ret (Value.ref l))) s) :=
  .of_wp fun prog w A R s h => by
    obtain ⟨hp, g, d, tk, os⟩ := s
    obtain ⟨hl, h⟩ := h
    have f1 := AutoSeq1.idx_int
    wp_walk using wpAny_loadPart' hl
    repeat (first
      | (refine wpAny_ite_false (decide_eq_false (by decide)) ?_; wp_walk using wpAny_loadPart' hl)
      | (refine wpAny_ite_true (decide_eq_true (by simp)) ?_; wp_walk using wpAny_loadPart' hl))
    exact ⟨_, rfl, h⟩
def rRepU (K : PySem.W.Frag) : R2 := fun x y H Q => ∃ l k xs, x = .ref l ∧ y = .int k ∧ SqT K H l xs ∧ xs ≠ [] ∧ 1 ≤ k ∧ k ≤ 1000 ∧ xs.length ≤ 1000 ∧ (k = 1 → Q (.ref l) H) ∧ (2 ≤ k → ∀ p, H p = none → Q (.ref p) (upd H p (.tup (List.replicate k.toNat xs).flatten)))
theorem op_repU {X : Cx} : OpR X (binaryOp .Mult) (rRepU X.K) := by
  intro pins s σ H x y v u Q I rx ry h
  obtain ⟨l, k, xs, rfl, rfl, hT, hne, h1, h2, hz, q1, q2⟩ := h
  by_cases hk : k = 1
  rotate_left
  · exact op_repT pins s σ H _ _ v u Q I rx ry ⟨l, k, xs, rfl, rfl, hT, hne, by omega, h2, hz, q2 (by omega)⟩
  subst hk
  cases rx
  obtain ⟨t, rfl⟩ := ry
  obtain ⟨its, r, ⟨⟨cls, dd, data, sl⟩, ho, hc, n, hd⟩, hs⟩ := I.tuple hT
  simp only at hc hd
  subst hc hd
  refine wpAny_binaryOp_repeat_ref (T := "tuple") (U := "int") (by decide) ⟨_, ho, rfl⟩ (fun s' => typeIs_int s' 1 t) noFill_tuple_mul F.fills_int_mul F.slot_int_rmul repeat_tuple F.slot_int_index.lookup
    (call_meets F.slot_int_rmul (typeIs_int s 1 t) F.entry_int_rmul (F.args_int_rmul_2 _ _) (int_rmul_tuple 1 t l its.toArray n dd sl)
      ⟨ho, rfl, ⟨_, ho, rfl⟩, call_meets F.slot_tuple_mul ⟨_, ho, rfl⟩ F.entry_tuple_mul (F.args_tuple_mul_2 _ _) (tuple_mul1 l its.toArray n dd sl t) ⟨ho, ?_⟩⟩)
  exact ⟨.ref l, H, I, rfl, q1 rfl⟩
end Vf

namespace Vf
open PySem L2 PySem.Spec PyProof.Rows
/-! a law that asks for repr: its body is told at the caller's own surroundings, where nothing is being shown -/
theorem enterG {CX : CXT} {P : Program} {w : World} {K : PySem.W.Frag} {mg : Str → Option Value} {base : Heap} {k : Nat} {f : Addr} {x qual : Str} {params : Arguments} {body : List Stmt} {scope : Scope} {fd : FuncData} {N ps : List Str} {A : Around} {outer : List Env} {s : Shared} {H : Hp} {args : Args} {us : List Value} {vs : List V} {Q : VK} {E : XK}
    (F : FunD K x qual params body scope [] [] f fd) (S : FnScope N ps scope) (room : Room (k + 1) A) (e0 : Env0 P w K mg base A outer s H) (bind : BindsTo s fd args (ps.zip us)) (rv : Vals vs us) (hl : vs.length = ps.length)
    (go : ∀ cdv, ∃ t, PSs (cxOf CX P w K mg base N qual scope f cdv A outer s H E) body t ∧ t ⟨fun _ H' => Q .non H', Q, fun _ _ => False, fun _ _ => False⟩ (start N vs) H) : codeAny (model P w) A (.call (.ref f) args) (CR CX outer P w H s Q E) s := by
  obtain ⟨oc, od, dV, kV, doc, pm, an, cdv, ct, osl, rfl, lk, hcd, _, _⟩ := F.ex
  obtain ⟨t, ht, hq⟩ := go cdv
  have here : ∀ b o, base.get? b = some o → s.heap.get? b = some o := fun b o e => (e0.bs b o e).1
  have inK : K.In s.heap := e0.mod.kin.keeps here
  refine codeAny_call_function room.depth (inK _ _ lk) rfl S.co S.gen rfl (PySem.W.codeRec_of inK hcd) (bind _ _ _ _ ?_)
  refine wpAny_newFunctionEnv_cells S.kind (fun y hy => ?_) fun env he s1 ic => ?_
  · obtain ⟨n, v⟩ := y
    rcases S.par n (List.of_mem_zip hy).1 with q | q
    · exact .inl q
    · exact .inr ⟨q, PySem.W.cellsFrom_some _ _ _ (.inl q)⟩
  subst he
  refine ⟨(e0.mod.nolimit.keeps here).keeps ic.toInCall.keep, codeAny_func ?_⟩
  have I := inv_start (CX := CX) (E := E) S room.hd e0 hl rv ic
  refine wpAny_mono (ht.run [] s1 (start N vs) H _ I hq) (fun fl s' hs => ?_) fun _ _ hs => hs
  cases fl with
  | ret u =>
    obtain ⟨v, σ', H', J, rr, q⟩ := hs
    exact ⟨v, H', J.os, J.bare, J.base, J.hok, rr, q⟩
  | next =>
    obtain ⟨σ', H', J, q⟩ := hs
    exact ⟨.non, H', J.os, J.bare, J.base, J.hok, rfl, q⟩
  | brk =>
    obtain ⟨_, _, _, q⟩ := hs
    exact q.elim
  | cont =>
    obtain ⟨_, _, _, q⟩ := hs
    exact q.elim
theorem topG {P : Program} {w : World} {K : PySem.W.Frag} {mg mb : Str → Option Value} {fa a : Addr} {s1 : Shared} {vs : List Value} {ns : List Int}
    (KX : K.In s1.heap) (g1 : s1.heap.Ns mainGlobals mg) (g2 : s1.heap.Ns builtinsNs mb) (g3 : ∀ x : Str, x ≠ "__name__" → mb x = bootBuiltins x) (g4 : s1.heap.NoLimit) (g5 : s1.gens = #[])
    (ha : s1.heap.get? a = some { cls := .type "list", data := .seq vs.toArray }) (hi : IntsAre vs ns) (hl : ns.length ≤ sizeLine)
    (F : ∀ (base : Heap) (H : Hp), K.In base → base.Ns mainGlobals mg → Env0 P w K mg base callerA [] s1 H → SqL K H a (ns.map V.int) →
      codeAny (model P w) callerA (.call (.ref fa) ⟨[.ref a], []⟩) (CR CX0 [] P w H s1 (fun v _ => v = .bl true) (fun _ _ _ => False)) s1) :
    codeAny (model P w) callerA (.call (.ref fa) ⟨[.ref a], []⟩) (fun r s' => r = .ok (.ret (.bool true)) ∧ OldK s1.heap s'.heap ∧ s'.os = s1.os ∧ AllBare s'.gens) s1 := by
  have go : ∀ (base : Heap) (H : Hp), (∀ b o, base.get? b = some o → s1.heap.get? b = some o ∧ H b = none) → base.objs.size ≤ s1.heap.objs.size → K.In base → (∀ {n m}, s1.heap.Ns n m → base.Ns n m) → HOk P w H s1.heap → Only H → SqL K H a (ns.map V.int) →
      codeAny (model P w) callerA (.call (.ref fa) ⟨[.ref a], []⟩) (fun r s' => r = .ok (.ret (.bool true)) ∧ OldK s1.heap s'.heap ∧ s'.os = s1.os ∧ AllBare s'.gens) s1 := by
    intro base H hbs hsz hK hN ok only hS
    have e0 : Env0 P w K mg base callerA [] s1 H := ⟨rfl, ⟨hK, hN g1, ⟨mb, hN g2, g3⟩, let ⟨mc, h1, h2⟩ := g4; ⟨mc, hN h1, h2⟩⟩, hbs, hsz, trivial, fun b m => (by cases m), ok, .of_eq g5⟩
    refine codeAny_mono (F base H hK (hN g1) e0 hS) fun r s' h => ?_
    match r, h with
    | .error e, h => exact (show False from h).elim
    | .ok .next, h => exact (show False from h).elim
    | .ok .brk, h => exact (show False from h).elim
    | .ok .cont, h => exact (show False from h).elim
    | .ok (.ret u), ⟨v, H', hos, hbare, un, ok', rel, hv⟩ =>
      have hv : v = .bl true := hv
      subst hv
      have hu : u = Value.bool true := rel
      subst hu
      refine ⟨rfl, OldK.of_keep fun b o e => ?_, hos, hbare⟩
      match q : H b with
      | none => exact un.keep b o e q (fun m => by cases m) (by simp)
      | some u =>
        rcases only b with z | ⟨ob, xs, z⟩
        · rw [q] at z; cases z
        · have h1 := (ok b _ z).1
          have h2 := (ok' b _ (un.frzs b ob _ z)).1
          rw [e] at h1
          cases h1
          exact h2
  by_cases hk : K.lookup a = none
  · have Hd : ∀ b, (fun b => if b = a then some (HO.frz { cls := .type "list", data := .seq vs.toArray } (.lst (ns.map V.int))) else none : Hp) b = none ∨ b = a := fun b => by
      by_cases z : b = a
      · exact .inr z
      · exact .inl (if_neg z)
    generalize hH : (fun b => if b = a then some (HO.frz { cls := .type "list", data := .seq vs.toArray } (.lst (ns.map V.int))) else none : Hp) = H at Hd
    have hHa : H a = some (.frz { cls := .type "list", data := .seq vs.toArray } (.lst (ns.map V.int))) := by rw [← hH]; exact if_pos rfl
    have off : ∀ {b o}, s1.heap.get? b = some o → b ≠ a → (hidT s1.heap H).get? b = some o := fun {b o} e n => hidT_get e ((Hd b).resolve_right n)
    refine go (hidT s1.heap H) H (fun b o e => of_hidT e) (Nat.le_of_eq (hidT_size _ _)) (fun b o e => off (KX b o e) fun z => ?_) (fun {n m} h => ?_) (fun b u e => ?_) (fun b => ?_) (.inl (.inr ⟨_, hHa⟩))
    · rw [z, hk] at e; cases e
    · obtain ⟨o, es, ep, e, d, rest⟩ := h
      refine ⟨o, es, ep, off e fun z => ?_, d, rest⟩
      rw [z, ha] at e
      cases e
      cases d
    · rcases Hd b with z | z
      · rw [z] at e; cases e
      · subst z
        rw [hHa] at e
        cases e
        exact ⟨ha, by rw [List.length_map]; exact hl, vs, _, vals_ints hi, ha⟩
    · rcases Hd b with z | z
      · exact .inl z
      · exact .inr ⟨_, _, by rw [z]; exact hHa⟩
  · obtain ⟨o, ho⟩ := Option.ne_none_iff_exists'.mp hk
    have e := KX a o ho
    rw [ha] at e
    cases e
    refine go s1.heap (fun _ => none) (fun b o e => ⟨e, rfl⟩) (Nat.le_refl _) KX id (fun b u e => by cases e) (fun b => .inl rfl) (.inr ⟨_, vs.toArray, _, ho, rfl, rfl, rfl, ?_, ?_⟩)
    · rw [List.size_toArray, hi.length]; exact hl
    · exact vals_ints hi
/-- the law at the caller's surroundings gives True -/
def TopOk (P : Program) (w : World) (K : PySem.W.Frag) (mg : Str → Option Value) (n : Nat) (fa : Addr) : Prop := ∀ (a : Addr) (ns : List Int), ns.length ≤ n → ∀ (base : Heap) (H : Hp) (s1 : Shared), K.In base → base.Ns mainGlobals mg → Env0 P w K mg base callerA [] s1 H → SqL K H a (ns.map V.int) →
  codeAny (model P w) callerA (.call (.ref fa) ⟨[.ref a], []⟩) (CR CX0 [] P w H s1 (fun v _ => v = .bl true) fun _ _ _ => False) s1
theorem walk_ofG {l : PySem.W.OpenLaw} {n : Nat} {q : Program} {loose : List Str} {XP : (Str → Option Value) → Heap → Prop} {YP : World → Heap → Prop} {d : DefRec} (m1 : l.most = some n) (m2 : n ≤ sizeLine) (nod : d.params.defaults = [])
    (F : ∀ (w : World) (mg : Str → Option Value) (fa : Addr) (h : Heap), YP w h → h.Ns mainGlobals mg → mg d.name = some (.ref fa) → ∃ K : PySem.W.Frag, K.In h ∧ TopOk l.prog w K mg n fa) : PySem.W.WalkO q loose XP YP l.row.toRowW d [] (fun f vs => PySem.call f vs) :=
  Att.attach_call m1 nod fun w _ s1 mg _ fa _ _ _ _ a _ ns G Y _ _ _ named obj hints len gens =>
    let ⟨_, KX, top⟩ := F w mg fa _ Y G.T.g named
    topG KX G.T.g G.T.b G.T.builtins G.T.nolimit gens obj hints (Nat.le_trans len m2) fun base H hb hn e0 hS => top a ns len base H s1 hb hn e0 hS
theorem topRoom : Room 60 callerA := ⟨rfl, by decide, by decide⟩
theorem topGuards (env : Env) : (callerA.deeper env).guards = some [] := rfl
end Vf

namespace Vf
open PySem L2 PySem.Spec PyProof.Rows
/-! repr(d), d a dict of tuples of numbers; nothing is being shown around -/
def offD (O : List (Int × List Int)) : List (PyData × PyData) := O.map fun o => (PyData.int o.1, PyData.tuple (o.2.map PyData.int))
theorem reads_off {X : Cx} {pins : List (Addr × Obj)} {σ : L2.St} {H : Hp} {s : Shared} (I : Inv X pins σ H s) : ∀ {w : List (Int × Addr)} {O : List (Int × List Int)} {vs : List (L2.Key × Value)} {es : List DictEntry},
    Paired (fun x o => x.1 = o.1 ∧ SqT X.K H x.2 (o.2.map V.int)) w O → KV (w.map fun x => ((Sum.inl x.1 : L2.Key), V.ref x.2)) vs → Pairs (mixKind X.prog X.w) es vs →
    ReadsAll s.heap (es.map (·.key)) ((offD O).map (·.1)) [] ∧ ReadsAll s.heap (es.map (·.val)) ((offD O).map (·.2)) []
  | [], [], _, _, .nil, h2, h3 => by
    cases h2
    cases h3
    exact ⟨.nil, .nil⟩
  | x :: w, o :: O, _, _, .cons h1 t1, h2, h3 => by
    cases h2 with
    | cons r2 t2 =>
      cases h3 with
      | cons k3 v3 t3 =>
        obtain ⟨i1, i2⟩ := reads_off I t1 t2 t3
        obtain ⟨e1, r2⟩ := r2
        rcases keyIs_shape k3 with ⟨i, t, e4, e5⟩ | ⟨y, t, e4, e5⟩
        · have e6 : i = o.1 := by
            rw [e4] at e1
            exact (Sum.inl.inj e1).symm.trans h1.1
          obtain ⟨its, rv, ⟨ob, ho, hc, n, hd⟩, _⟩ := I.tuple h1.2
          refine ⟨?_, ?_⟩
          · rw [List.map_cons, e5, e6]
            exact ReadsAll.cons (.int _ t) i1
          · rw [List.map_cons, v3]
            have e7 : _ = Value.ref x.2 := r2
            rw [e7]
            exact ReadsAll.cons (.tuple ho hc hd (reads_intsAre (intsAre_of rv))) i2
        · rw [e4] at e1
          cases e1
theorem shown_ints : ∀ l : List Int, (∀ q ∈ l, 0 ≤ q ∧ q < 10) → piled (PyData.shownAll (l.map PyData.int)) ≤ 3 * l.length
  | [], _ => Nat.le_refl _
  | q :: l, h => by
    have ih := shown_ints l fun x hx => h x (List.mem_cons_of_mem _ hx)
    have h1 := h q (List.mem_cons_self ..)
    have h2 := toString_length_le (v := q) h1.1 (k := 1) (by decide) (by simpa using h1.2)
    rw [List.map_cons, PyData.shownAll, piled_cons, PyData.shown, List.length_cons]
    omega
structure OffS (O : List (Int × List Int)) : Prop where
  len : O.length ≤ 1000
  row : ∀ o ∈ O, 0 ≤ o.1 ∧ o.1 < 10 ^ 10 ∧ o.2.length ≤ 4 ∧ ∀ q ∈ o.2, 0 ≤ q ∧ q < 10
theorem shown_off : ∀ O : List (Int × List Int), (∀ o ∈ O, 0 ≤ o.1 ∧ o.1 < 10 ^ 10 ∧ o.2.length ≤ 4 ∧ ∀ q ∈ o.2, 0 ≤ q ∧ q < 10) → piled (PyData.shownKv (offD O)) ≤ 30 * O.length
  | [], _ => Nat.le_refl _
  | o :: O, h => by
    have ih := shown_off O fun x hx => h x (List.mem_cons_of_mem _ hx)
    obtain ⟨h1, h2, h3, h4⟩ := h o (List.mem_cons_self ..)
    have g1 := toString_length_le (v := o.1) h1 (k := 10) (by decide) h2
    have g2 := shown_ints o.2 h4
    have g3 := fmt_text (PyData.shownAll (o.2.map PyData.int))
    have e : offD (o :: O) = (PyData.int o.1, PyData.tuple (o.2.map PyData.int)) :: offD O := rfl
    rw [e, PyData.shownKv, piled_cons, PyData.shown, PyData.shown, strLen_append, strLen_append, List.length_cons]
    have g4 : ((": " : String) : Str).length = 2 := rfl
    omega
theorem dict_text (ts : List Str) : (dictText ts).length ≤ piled ts + 2 := by
  unfold dictText
  rw [strLen_append, strLen_append]
  have e1 : (("{" : String) : Str).length = 1 := rfl
  have e2 : (("}" : String) : Str).length = 1 := rfl
  rw [e1, e2]
  by_cases h : ts = []
  · subst h
    decide +kernel
  · have := join_length_add ts h
    omega
theorem showable_ints : ∀ l : List Int, (∀ q ∈ l, 0 ≤ q ∧ q < 10) → PyData.showableAll (l.map PyData.int) = true
  | [], _ => by simp [PyData.showableAll]
  | q :: l, h => by
    have h1 := h q (List.mem_cons_self ..)
    rw [List.map_cons, PyData.showableAll, showable_ints l fun x hx => h x (List.mem_cons_of_mem _ hx), PyData.showable, Bool.and_true, decide_eq_true_iff]
    have h2 : q.natAbs < 10 := by omega
    exact Nat.lt_of_le_of_lt (Nat.log2_le_self _) (by omega)
theorem showable_off : ∀ O : List (Int × List Int), (∀ o ∈ O, 0 ≤ o.1 ∧ o.1 < 10 ^ 10 ∧ o.2.length ≤ 4 ∧ ∀ q ∈ o.2, 0 ≤ q ∧ q < 10) → PyData.showableKv (offD O) = true
  | [], _ => by simp [offD, PyData.showableKv]
  | o :: O, h => by
    obtain ⟨h1, h2, h3, h4⟩ := h o (List.mem_cons_self ..)
    have e : offD (o :: O) = (PyData.int o.1, PyData.tuple (o.2.map PyData.int)) :: offD O := rfl
    rw [e, PyData.showableKv, showable_off O fun x hx => h x (List.mem_cons_of_mem _ hx), PyData.showable, PyData.showable, showable_ints o.2 h4, Bool.and_true, Bool.and_true, decide_eq_true_iff]
    have h5 : o.1.natAbs < 2 ^ 40 := by omega
    by_cases z : o.1.natAbs = 0
    · rw [z]; decide
    · exact Nat.lt_trans ((Nat.log2_lt z).mpr h5) (by decide)
theorem depth_ints2 : ∀ l : List Int, PyData.depthAll (l.map PyData.int) ≤ 1 := fun l => by
  rw [Vf.depthAll_ints]; decide
def rReprD (K : PySem.W.Frag) : List V → Hp → VK → Prop := fun xs H Q => ∃ (a : Addr) (w : List (Int × Addr)) (O : List (Int × List Int)), xs = [.ref a] ∧ H a = some (.dK (w.map fun x => ((Sum.inl x.1 : L2.Key), V.ref x.2))) ∧ Paired (fun x o => x.1 = o.1 ∧ SqT K H x.2 (o.2.map V.int)) w O ∧ OffS O ∧ Q (.str (dictText (PyData.shownKv (offD O)))) H
theorem depth_off : ∀ O : List (Int × List Int), PyData.depthKv (offD O) ≤ 1
  | [] => by simp [offD, PyData.depthKv]
  | o :: O => by
    have e : offD (o :: O) = (PyData.int o.1, PyData.tuple (o.2.map PyData.int)) :: offD O := rfl
    have h0 : PyData.depthAll (o.2.map PyData.int) = 0 := Vf.depthAll_ints o.2
    have ih := depth_off O
    rw [e, PyData.depthKv, PyData.depth, PyData.depth, h0]
    omega
theorem cr_reprD {X : Cx} (hg : X.A.guards = some []) (hu : X.A.units + 64 < cLine) : CallR X (.builtin "repr") (rReprD X.K) := by
  intro pins s σ H xs us Q I r q
  obtain ⟨a, w, O, rfl, ha, hw, small, q⟩ := q
  obtain ⟨u, rfl, ru⟩ := vals1 r
  cases ru
  obtain ⟨z, hd, vs, rel, o, es, ep, ho, hx, hdat, _, hp, _⟩ := dk_of I.hok ha
  obtain ⟨k1, k2⟩ := reads_off I hw rel hp
  have rd : Reads s.heap (.ref a) (.dict (offD O)) (a :: [] ++ []) := .dict ho hx.1 hdat k1 k2
  have hdp : (PyData.dict (offD O)).depth ≤ 2 := by
    rw [PyData.depth]
    have := depth_off O
    omega
  have hsz : (PyData.dict (offD O)).shown.length ≤ sizeLine := by
    rw [PyData.shown, sizeLine_eq]
    have h1 := dict_text (PyData.shownKv (offD O))
    have h2 := shown_off O small.row
    have h3 := small.len
    omega
  refine repr_of_reads' (hsz := hsz) rd (by rw [PyData.showable]; exact showable_off O small.row) (fun _ m => ?_) hg (by omega) (fun _ _ e => e) fun h' u tk hk => ?_
  · have e : sysModules = a := by simpa using m
    rw [← e] at hd
    simp at hd
  · refine ⟨.str (dictText (PyData.shownKv (offD O))), H, I.kept hk, ⟨u, by rw [PyData.shown]⟩, q⟩
theorem catAK (K : PySem.W.Frag) {X : Cx} (hK : X.K = K := by rfl) : OpR X (binaryOp .Add) (rCatA K) := hK ▸ op_catA
end Vf

namespace Vk81
open PySem PySem.Spec PyProof.Rows L2 Vf
def topS (i : Nat) : Stmt := PySem.Challenge.pw_folderkin_k81_least_shares.main.body.getD i (.Pass ⟨0, 0, 0, 0⟩)
abbrev s_is_integer : Stmt := topS 1
abbrev N_is_integer : List Str := ["value"]
theorem sc_is_integer : FnScope N_is_integer ["value"] (defScope s_is_integer) := ⟨rfl, rfl, rfl, by decide +kernel, rfl, by decide +kernel, by decide +kernel⟩
abbrev s_share : Stmt := topS 3
abbrev N_share : List Str := ["offers", "shown", "most", "lacking"]
theorem sc_share : FnScope N_share ["offers"] (defScope s_share) := ⟨rfl, rfl, rfl, by decide +kernel, rfl, by decide +kernel, by decide +kernel⟩
abbrev s_lacking : Stmt := topS 4
abbrev N_lacking : List Str := ["offers", "most", "plan", "block", "tried", "other"]
theorem sc_lacking : FnScope N_lacking ["offers", "most"] (defScope s_lacking) := ⟨rfl, rfl, rfl, by decide +kernel, rfl, by decide +kernel, by decide +kernel⟩
abbrev s_assign : Stmt := topS 5
abbrev N_assign : List Str := ["offers", "plan", "most", "block", "tried", "peer", "others", "other"]
theorem sc_assign : FnScope N_assign ["offers", "plan", "most", "block", "tried"] (defScope s_assign) := ⟨rfl, rfl, rfl, by decide +kernel, rfl, by decide +kernel, by decide +kernel⟩
abbrev s_moves_one : Stmt := topS 6
abbrev N_moves_one : List Str := ["offers", "plan", "most", "blocks", "tried", "block"]
theorem sc_moves_one : FnScope N_moves_one ["offers", "plan", "most", "blocks", "tried"] (defScope s_moves_one) := ⟨rfl, rfl, rfl, by decide +kernel, rfl, by decide +kernel, by decide +kernel⟩
abbrev s_first_plan : Stmt := topS 7
abbrev N_first_plan : List Str := ["offers", "most", "left", "block", "peer"]
theorem sc_first_plan : FnScope N_first_plan ["offers", "most"] (defScope s_first_plan) := ⟨rfl, rfl, rfl, by decide +kernel, rfl, by decide +kernel, by decide +kernel⟩
abbrev s_judge_share : Stmt := topS 8
abbrev N_judge_share : List Str := ["offers", "paper", "most", "plan", "blocks"]
theorem sc_judge_share : FnScope N_judge_share ["offers", "paper"] (defScope s_judge_share) := ⟨rfl, rfl, rfl, by decide +kernel, rfl, by decide +kernel, by decide +kernel⟩
abbrev s_is_plan : Stmt := topS 9
abbrev N_is_plan : List Str := ["offers", "plan", "block", "pair"]
theorem sc_is_plan : FnScope N_is_plan ["offers", "plan"] (defScope s_is_plan) := ⟨rfl, rfl, rfl, by decide +kernel, rfl, by decide +kernel, by decide +kernel⟩
abbrev s_most_of : Stmt := topS 10
abbrev N_most_of : List Str := ["plan", "peers", "_", "peer"]
theorem sc_most_of : FnScope N_most_of ["plan"] (defScope s_most_of) := ⟨rfl, rfl, rfl, by decide +kernel, rfl, by decide +kernel, by decide +kernel⟩
abbrev s_shows : Stmt := topS 11
abbrev N_shows : List Str := ["offers", "most", "blocks", "peers", "block", "first", "second", "peer"]
theorem sc_shows : FnScope N_shows ["offers", "most", "blocks"] (defScope s_shows) := ⟨rfl, rfl, rfl, by decide +kernel, rfl, by decide +kernel, by decide +kernel⟩
abbrev s_law_draws : Stmt := topS 13
abbrev N_law_draws : List Str := ["script"]
theorem sc_law_draws : FnScope N_law_draws ["script"] (defScope s_law_draws) := ⟨rfl, rfl, rfl, by decide +kernel, rfl, by decide +kernel, by decide +kernel⟩
abbrev s_law_draw : Stmt := topS 14
abbrev N_law_draw : List Str := ["draws", "limit", "cell", "value"]
theorem sc_law_draw : FnScope N_law_draw ["draws", "limit"] (defScope s_law_draw) := ⟨rfl, rfl, rfl, by decide +kernel, rfl, by decide +kernel, by decide +kernel⟩
abbrev s_law_offers : Stmt := topS 15
abbrev N_law_offers : List Str := ["draws", "offers", "k", "peers", "peer"]
theorem sc_law_offers : FnScope N_law_offers ["draws"] (defScope s_law_offers) := ⟨rfl, rfl, rfl, by decide +kernel, rfl, by decide +kernel, by decide +kernel⟩
abbrev s_law_most : Stmt := topS 16
abbrev N_law_most : List Str := ["plan", "peers", "row", "peer"]
theorem sc_law_most : FnScope N_law_most ["plan"] (defScope s_law_most) := ⟨rfl, rfl, rfl, by decide +kernel, rfl, by decide +kernel, by decide +kernel⟩
abbrev s_law_plans : Stmt := topS 17
abbrev N_law_plans : List Str := ["offers", "plans", "block", "longer", "plan", "peer"]
theorem sc_law_plans : FnScope N_law_plans ["offers"] (defScope s_law_plans) := ⟨rfl, rfl, rfl, by decide +kernel, rfl, by decide +kernel, by decide +kernel⟩
abbrev s_law : Stmt := topS 18
abbrev N_law : List Str := ["script", "draws", "offers", "plans", "least", "before", "found", "blocks", "peers", "block", "plan", "peer"]
theorem sc_law : FnScope N_law ["script"] (defScope s_law) := ⟨rfl, rfl, rfl, by decide +kernel, rfl, by decide +kernel, by decide +kernel⟩
structure Txt (K : PySem.W.Frag) (mg : Str → Option Value) : Prop where
  f_abs : mg "abs" = none
  f_all : mg "all" = none
  f_bool : mg "bool" = none
  f_dict : mg "dict" = none
  f_int : mg "int" = none
  f_isinstance : mg "isinstance" = none
  f_len : mg "len" = none
  f_list : mg "list" = none
  f_max : mg "max" = none
  f_min : mg "min" = none
  f_range : mg "range" = none
  f_repr : mg "repr" = none
  f_set : mg "set" = none
  f_sorted : mg "sorted" = none
  f_tuple : mg "tuple" = none
  f_zip : mg "zip" = none
theorem same_tup {K : PySem.W.Frag} {H H' : Hp} {a : Addr} {xs : List V} (e : Same H H') (h : SqT K H a xs) : SqT K H' a xs := by
  rcases h with (h | ⟨o, h⟩) | h
  · exact .inl (.inl (e _ _ h))
  · exact .inl (.inr ⟨o, e _ _ h⟩)
  · exact .inr h
abbrev Vc := List (Int × Int)
def cnt : Vc → Int → Int
  | [], _ => 0
  | c :: r, d => if c.1 = d then c.2 else cnt r d
def madeN (n : Nat) (f : Nat → Int) : Vc := ((List.range n).filter fun k => decide (0 < f k)).map fun k => (((k : Nat) : Int) + 1, f k)
abbrev made (f : Nat → Int) : Vc := madeN 9 f
theorem madeN_succ (n : Nat) (f : Nat → Int) : madeN (n + 1) f = madeN n f ++ (if 0 < f n then [(((n : Nat) : Int) + 1, f n)] else []) := by
  unfold madeN
  rw [List.range_succ, List.filter_append, List.map_append]
  by_cases h : 0 < f n
  · rw [if_pos h, List.filter_cons_of_pos (by rw [decide_eq_true h])]; rfl
  · rw [if_neg h, List.filter_cons_of_neg (by rw [decide_eq_false h]; exact Bool.false_ne_true)]; rfl
theorem madeN_mem {n : Nat} {f : Nat → Int} {c : Int × Int} (h : c ∈ madeN n f) : ∃ k : Nat, k < n ∧ c = (((k : Nat) : Int) + 1, f k) ∧ 0 < f k := by
  obtain ⟨k, hk, rfl⟩ := List.mem_map.mp h
  obtain ⟨h1, h2⟩ := List.mem_filter.mp hk
  exact ⟨k, List.mem_range.mp h1, rfl, of_decide_eq_true h2⟩
theorem cnt_app_ne {u : Vc} {c : Int × Int} {d : Int} (h : ¬ c.1 = d) : cnt (u ++ [c]) d = cnt u d := by
  induction u with
  | nil => show (if c.1 = d then _ else _) = _; rw [if_neg h]
  | cons x r ih => show (if x.1 = d then _ else cnt (r ++ [c]) d) = if x.1 = d then _ else _; rw [ih]
theorem cnt_app_out {u w : Vc} {d : Int} (h : ∀ c ∈ u, ¬ c.1 = d) : cnt (u ++ w) d = cnt w d := by
  induction u with
  | nil => rfl
  | cons x r ih =>
    show (if x.1 = d then _ else cnt (r ++ w) d) = _
    rw [if_neg (h x (List.mem_cons_self ..)), ih fun c hc => h c (List.mem_cons_of_mem _ hc)]
theorem cnt_madeN {f : Nat → Int} (hf : ∀ k, 0 ≤ f k) (k : Nat) : ∀ n, cnt (madeN n f) (((k : Nat) : Int) + 1) = if k < n then f k else 0
  | 0 => by rw [if_neg (by omega)]; rfl
  | n + 1 => by
    have ih := cnt_madeN hf k n
    rw [madeN_succ]
    by_cases h : k = n
    · subst h
      rw [if_pos (show k < k + 1 by omega), cnt_app_out fun c hc => ?_]
      · by_cases h0 : 0 < f k
        · rw [if_pos h0]
          show (if ((k : Nat) : Int) + 1 = ((k : Nat) : Int) + 1 then f k else 0) = _
          rw [if_pos rfl]
        · rw [if_neg h0]; have := hf k; show (0 : Int) = _; omega
      · obtain ⟨j, hj, rfl, _⟩ := madeN_mem hc
        show ¬ ((j : Nat) : Int) + 1 = _
        omega
    · have e : (if k < n + 1 then f k else 0) = if k < n then f k else 0 := by
        by_cases h2 : k < n
        · rw [if_pos h2, if_pos (by omega)]
        · rw [if_neg h2, if_neg (by omega)]
      rw [e, ← ih]
      by_cases h0 : 0 < f n
      · rw [if_pos h0, cnt_app_ne (by show ¬ ((n : Nat) : Int) + 1 = _; omega)]
      · rw [if_neg h0, List.append_nil]
theorem cnt_made {f : Nat → Int} (hf : ∀ k, 0 ≤ f k) {k : Nat} (hk : k < 9) : cnt (made f) (((k : Nat) : Int) + 1) = f k := by
  rw [cnt_madeN hf, if_pos hk]
/-- the last that was told, along a row -/
def told (g : Int → Int → Int) (v : Vc) (d i : Int) : Int := v.foldl (fun acc c => if c.1 = d then g c.2 acc else acc) i
theorem told_app (g : Int → Int → Int) (u w : Vc) (d i : Int) : told g (u ++ w) d i = told g w d (told g u d i) := by
  unfold told; rw [List.foldl_append]
theorem told_one (g : Int → Int → Int) (c : Int × Int) (d i : Int) : told g [c] d i = if c.1 = d then g c.2 i else i := rfl
theorem told_madeN (g : Int → Int → Int) {f : Nat → Int} (k : Nat) (i : Int) : ∀ n, told g (madeN n f) (((k : Nat) : Int) + 1) i = if k < n ∧ 0 < f k then g (f k) i else i
  | 0 => by rw [if_neg (by omega)]; rfl
  | n + 1 => by
    have ih := told_madeN g (f := f) k i n
    rw [madeN_succ, told_app, ih]
    by_cases h0 : 0 < f n
    · rw [if_pos h0, told_one]
      by_cases h : k = n
      · subst h
        show (if ((k : Nat) : Int) + 1 = _ then _ else _) = _
        rw [if_pos rfl, if_neg (show ¬ (k < k ∧ 0 < f k) by omega), if_pos ⟨by omega, h0⟩]
      · show (if ((n : Nat) : Int) + 1 = _ then _ else _) = _
        rw [if_neg (by omega)]
        by_cases h2 : k < n ∧ 0 < f k
        · rw [if_pos h2, if_pos ⟨by omega, h2.2⟩]
        · rw [if_neg h2, if_neg (by omega)]
    · rw [if_neg h0]
      show (if k < n ∧ 0 < f k then g (f k) i else i) = _
      by_cases h2 : k < n ∧ 0 < f k
      · rw [if_pos h2, if_pos ⟨by omega, h2.2⟩]
      · by_cases h : k = n
        · subst h
          rw [if_neg h2, if_neg (by omega)]
        · rw [if_neg h2, if_neg (by omega)]
theorem last_made {f : Nat → Int} (hf : ∀ k, 0 ≤ f k) {k : Nat} (hk : k < 9) : told (fun c _ => c) (made f) (((k : Nat) : Int) + 1) 0 = f k := by
  rw [told_madeN]
  by_cases h : 0 < f k
  · rw [if_pos ⟨hk, h⟩]
  · have := hf k
    rw [if_neg (by omega)]; omega
def mx (i j : Int) : Int := if j > i then j else i
theorem max_made {f g : Nat → Int} (hf : ∀ k, 0 ≤ f k) {k : Nat} (hk : k < 9) : told mx (made g) (((k : Nat) : Int) + 1) (f k) = mx (f k) (g k) := by
  rw [told_madeN]
  have := hf k
  by_cases h : 0 < g k
  · rw [if_pos ⟨hk, h⟩]
    unfold mx
    split <;> split <;> omega
  · rw [if_neg (by omega)]
    unfold mx
    rw [if_neg (by omega)]
def lessF (n : Nat) (f g : Nat → Int) : Bool := (List.range n).any fun k => decide (f k < g k)
theorem less_madeN {f g : Nat → Int} (hf : ∀ k, 0 ≤ f k) : ∀ n, n ≤ 9 → ((madeN n g).any fun c => decide (cnt (made f) c.1 < c.2)) = lessF n f g
  | 0, _ => rfl
  | n + 1, h => by
    have ih := less_madeN (g := g) hf n (by omega)
    have e : lessF (n + 1) f g = (lessF n f g || decide (f n < g n)) := by
      unfold lessF
      rw [List.range_succ, List.any_append]
      simp
    rw [madeN_succ, List.any_append, ih, e]
    have := hf n
    by_cases h0 : 0 < g n
    · rw [if_pos h0]
      show (_ || (decide (cnt (made f) (((n : Nat) : Int) + 1) < g n) || false)) = _
      rw [cnt_made hf (by omega), Bool.or_false]
    · rw [if_neg h0, decide_eq_false (by omega : ¬ f n < g n)]
      rfl
/-! a dict of counts -/
def kvl (m : Vc) : List (Key × V) := m.map fun c => (Sum.inl c.1, V.int c.2)
def dput (m : Vc) (k c : Int) : Vc := if (m.any fun x => decide (x.1 = k)) = true then m.map (fun x => if x.1 = k then (k, c) else x) else m ++ [(k, c)]
structure Good (m : Vc) : Prop where
  nd : (m.map (·.1)).Nodup
  rg : ∀ c ∈ m, 1 ≤ c.1 ∧ c.1 ≤ 9 ∧ 0 < c.2
theorem putK_kvl (m : Vc) (k c : Int) : putK (kvl m) (Sum.inl k) (V.int c) = kvl (dput m k c) := by
  have e1 : ((kvl m).any fun kv => decide (kv.1 = (Sum.inl k : Key))) = (m.any fun x => decide (x.1 = k)) := by
    unfold kvl
    rw [List.any_map]
    congr 1
    funext x
    exact decide_eq_decide.mpr ⟨fun h => Sum.inl.inj h, fun h => congrArg Sum.inl h⟩
  unfold putK dput
  rw [e1]
  split
  · unfold kvl
    rw [List.map_map, List.map_map]
    refine List.map_congr_left fun x _ => ?_
    show (if (Sum.inl x.1 : Key) = Sum.inl k then _ else _) = (fun c : Int × Int => ((Sum.inl c.1 : Key), V.int c.2)) (if x.1 = k then (k, c) else x)
    by_cases h : x.1 = k
    · rw [if_pos h, if_pos (congrArg Sum.inl h)]
      show ((Sum.inl x.1 : Key), V.int c) = (Sum.inl k, V.int c)
      rw [h]
    · rw [if_neg h, if_neg fun q => h (Sum.inl.inj q)]
  · unfold kvl
    rw [List.map_append]
    rfl
theorem valV_kvl (m : Vc) (d : Int) : ((valV (kvl m) (Sum.inl d : Key)).getD (.int 0) = .int (cnt m d)) ∧ (∀ c ∈ m, c.1 = d → valV (kvl m) (Sum.inl d : Key) = some (.int (cnt m d))) := by
  induction m with
  | nil => exact ⟨rfl, fun c hc => by cases hc⟩
  | cons x r ih =>
    have e : valV (kvl (x :: r)) (Sum.inl d : Key) = if x.1 = d then some (.int x.2) else valV (kvl r) (Sum.inl d : Key) := by
      unfold valV kvl
      rw [List.map_cons, List.find?_cons]
      by_cases h : x.1 = d
      · rw [if_pos h, decide_eq_true (congrArg Sum.inl h)]; rfl
      · rw [if_neg h, decide_eq_false fun q => h (Sum.inl.inj q)]
    rw [e]
    show (_ = V.int (if x.1 = d then x.2 else cnt r d)) ∧ _
    by_cases h : x.1 = d
    · rw [if_pos h, if_pos h]
      exact ⟨rfl, fun _ _ _ => by show _ = some (V.int (if x.1 = d then x.2 else cnt r d)); rw [if_pos h]⟩
    · rw [if_neg h, if_neg h]
      refine ⟨ih.1, fun c hc q => ?_⟩
      show _ = some (V.int (if x.1 = d then x.2 else cnt r d))
      rw [if_neg h]
      rcases List.mem_cons.mp hc with rfl | hc
      · exact absurd q h
      · exact ih.2 c hc q
theorem cnt_pos {m : Vc} (g : Good m) {d : Int} : (∃ c ∈ m, c.1 = d) ↔ 0 < cnt m d := by
  have := g.rg
  clear g
  induction m with
  | nil => exact ⟨fun ⟨c, hc, _⟩ => (by cases hc), fun h => absurd h (by show ¬ (0 : Int) < 0; omega)⟩
  | cons x r ih =>
    have ih : (∃ c ∈ r, c.1 = d) ↔ 0 < cnt r d := ih fun c hc => this c (List.mem_cons_of_mem _ hc)
    have hx := this x (List.mem_cons_self ..)
    show _ ↔ 0 < if x.1 = d then x.2 else cnt r d
    by_cases h : x.1 = d
    · rw [if_pos h]
      exact ⟨fun _ => hx.2.2, fun _ => ⟨x, List.mem_cons_self .., h⟩⟩
    · rw [if_neg h]
      refine Iff.trans ?_ ih
      constructor
      · rintro ⟨c, hc, q⟩
        rcases List.mem_cons.mp hc with rfl | hc
        · exact absurd q h
        · exact ⟨c, hc, q⟩
      · rintro ⟨c, hc, q⟩
        exact ⟨c, List.mem_cons_of_mem _ hc, q⟩
theorem cnt_dput (m : Vc) (k c d : Int) : cnt (dput m k c) d = if k = d then c else cnt m d := by
  unfold dput
  split
  · rename_i h
    have key : ∀ m : Vc, (m.any fun x => decide (x.1 = k)) = true → cnt (m.map fun x => if x.1 = k then (k, c) else x) d = if k = d then c else cnt m d := by
      intro m
      have none : ∀ m : Vc, ¬ k = d → cnt (m.map fun x => if x.1 = k then (k, c) else x) d = cnt m d := by
        intro m hk
        induction m with
        | nil => rfl
        | cons x r ih =>
          show cnt ((if x.1 = k then (k, c) else x) :: r.map _) d = if x.1 = d then x.2 else cnt r d
          by_cases hx : x.1 = k
          · rw [if_pos hx]
            show (if k = d then c else _) = _
            rw [if_neg hk, if_neg (by rw [hx]; exact hk), ih]
          · rw [if_neg hx]
            show (if x.1 = d then x.2 else _) = _
            rw [ih]
      induction m with
      | nil => intro h; cases h
      | cons x r ih =>
        intro h
        by_cases hk : k = d
        · rw [if_pos hk]
          show cnt ((if x.1 = k then (k, c) else x) :: r.map _) d = c
          by_cases hx : x.1 = k
          · rw [if_pos hx]
            show (if k = d then c else _) = _
            rw [if_pos hk]
          · rw [if_neg hx]
            show (if x.1 = d then x.2 else _) = _
            rw [if_neg (by rw [← hk]; exact hx)]
            have h2 : (r.any fun x => decide (x.1 = k)) = true := by
              rw [List.any_cons, decide_eq_false hx, Bool.false_or] at h
              exact h
            rw [ih h2, if_pos hk]
        · rw [if_neg hk]
          exact none _ hk
    exact key m h
  · rename_i h
    have out : ∀ x ∈ m, ¬ x.1 = k := fun x hx q => h (List.any_eq_true.mpr ⟨x, hx, decide_eq_true q⟩)
    by_cases hk : k = d
    · rw [if_pos hk, cnt_app_out (by rw [← hk]; exact out)]
      show (if k = d then c else _) = _
      rw [if_pos hk]
    · rw [if_neg hk, cnt_app_ne hk]
theorem good_dput {m : Vc} (g : Good m) {k c : Int} (h1 : 1 ≤ k) (h9 : k ≤ 9) (hc : 0 < c) : Good (dput m k c) := by
  unfold dput
  split
  · refine ⟨?_, fun x hx => ?_⟩
    · have e : (m.map fun x => if x.1 = k then (k, c) else x).map (·.1) = m.map (·.1) := by
        rw [List.map_map]
        refine List.map_congr_left fun x _ => ?_
        show (if x.1 = k then (k, c) else x).1 = x.1
        by_cases h : x.1 = k
        · rw [if_pos h, h]
        · rw [if_neg h]
      rw [e]; exact g.nd
    · obtain ⟨y, hy, rfl⟩ := List.mem_map.mp hx
      by_cases h : y.1 = k
      · rw [if_pos h]; exact ⟨h1, h9, hc⟩
      · rw [if_neg h]; exact g.rg y hy
  · rename_i h
    have out : ∀ x ∈ m, ¬ x.1 = k := fun x hx q => h (List.any_eq_true.mpr ⟨x, hx, decide_eq_true q⟩)
    refine ⟨?_, fun x hx => ?_⟩
    · rw [List.map_append, List.nodup_append]
      refine ⟨g.nd, by simp, fun a ha b hb => ?_⟩
      obtain ⟨x, hx, rfl⟩ := List.mem_map.mp ha
      have hb : b = k := by simpa using hb
      rw [hb]; exact out x hx
    · rcases List.mem_append.mp hx with hx | hx
      · exact g.rg x hx
      · rw [List.mem_singleton.mp hx]; exact ⟨h1, h9, hc⟩
theorem merge_kvl (v : Vc) : ∀ m : Vc, mergeK (kvl m) (kvl v) = kvl (v.foldl (fun m c => dput m c.1 c.2) m) := by
  induction v with
  | nil => intro m; rfl
  | cons x r ih =>
    intro m
    show mergeK (putK (kvl m) (Sum.inl x.1) (V.int x.2)) (kvl r) = _
    rw [putK_kvl, ih]
    rfl
theorem fold_good (v : Vc) (hv : ∀ c ∈ v, 1 ≤ c.1 ∧ c.1 ≤ 9 ∧ 0 < c.2) : ∀ m : Vc, Good m → Good (v.foldl (fun m c => dput m c.1 c.2) m) := by
  induction v with
  | nil => intro m g; exact g
  | cons x r ih =>
    intro m g
    have hx := hv x (List.mem_cons_self ..)
    exact ih (fun c hc => hv c (List.mem_cons_of_mem _ hc)) _ (good_dput g hx.1 hx.2.1 hx.2.2)
theorem fold_cnt (v : Vc) (d : Int) : ∀ m : Vc, cnt (v.foldl (fun m c => dput m c.1 c.2) m) d = told (fun c _ => c) v d (cnt m d) := by
  induction v with
  | nil => intro m; rfl
  | cons x r ih =>
    intro m
    show cnt (r.foldl (fun m c => dput m c.1 c.2) (dput m x.1 x.2)) d = told (fun c _ => c) r d (if x.1 = d then x.2 else cnt m d)
    rw [ih, cnt_dput]
theorem made_rg {f : Nat → Int} : ∀ c ∈ made f, 1 ≤ c.1 ∧ c.1 ≤ 9 ∧ 0 < c.2 := fun c hc => by
  obtain ⟨k, hk, rfl, h0⟩ := madeN_mem hc
  exact ⟨by show (1 : Int) ≤ ((k : Nat) : Int) + 1; omega, by show ((k : Nat) : Int) + 1 ≤ 9; omega, h0⟩
/-- a rising row of numbers from 1 to n is told by what is in it -/
theorem rising (n : Nat) : ∀ ys : List Int, ys.Pairwise (· < ·) → (∀ y ∈ ys, 1 ≤ y ∧ y ≤ n) → ys = ((List.range n).filter fun k => decide ((((k : Nat) : Int) + 1) ∈ ys)).map fun k => ((k : Nat) : Int) + 1 := by
  induction n with
  | zero =>
    intro ys _ h
    cases ys with
    | nil => rfl
    | cons y r => have := h y (List.mem_cons_self ..); omega
  | succ n ih =>
    intro ys hp h
    by_cases hm : (((n : Nat) : Int) + 1) ∈ ys
    · obtain ⟨u, w, e⟩ := List.append_of_mem hm
      have hw : w = [] := by
        cases w with
        | nil => rfl
        | cons z w =>
          rw [e, List.pairwise_append] at hp
          have h1 := (List.pairwise_cons.mp hp.2.1).1 z (List.mem_cons_self ..)
          have h2 := h z (by rw [e]; simp)
          omega
      subst hw
      have hu : u.Pairwise (· < ·) := by rw [e, List.pairwise_append] at hp; exact hp.1
      have hlt : ∀ y ∈ u, y < ((n : Nat) : Int) + 1 := fun y hy => by
        rw [e, List.pairwise_append] at hp
        exact hp.2.2 y hy _ (by simp)
      have iu := ih u hu fun y hy => ⟨(h y (by rw [e]; simp [hy])).1, by have := hlt y hy; omega⟩
      have ef : ((List.range (n + 1)).filter fun k => decide ((((k : Nat) : Int) + 1) ∈ ys)) = ((List.range n).filter fun k => decide ((((k : Nat) : Int) + 1) ∈ u)) ++ [n] := by
        have e1 : ((List.range n).filter fun k => decide ((((k : Nat) : Int) + 1) ∈ ys)) = ((List.range n).filter fun k => decide ((((k : Nat) : Int) + 1) ∈ u)) := by
          refine List.filter_congr fun k hk => ?_
          have hk := List.mem_range.mp hk
          refine decide_eq_decide.mpr ?_
          rw [e, List.mem_append, List.mem_singleton]
          exact ⟨fun q => q.resolve_right (by omega), .inl⟩
        rw [List.range_succ, List.filter_append, List.filter_cons_of_pos (by rw [decide_eq_true hm]), List.filter_nil, e1]
      rw [ef, List.map_append, ← iu, e]
      rfl
    · have iu := ih ys hp fun y hy => ⟨(h y hy).1, by
        have h1 := (h y hy).2
        have h2 : ¬ y = ((n : Nat) : Int) + 1 := fun q => hm (q ▸ hy)
        omega⟩
      rw [List.range_succ, List.filter_append, List.filter_cons_of_neg (by rw [decide_eq_false hm]; exact Bool.false_ne_true), List.filter_nil, List.append_nil]
      exact iu
/-- sorted keys with their counts -/
theorem vector_made {m : Vc} (g : Good m) {ys : List Int} (hp : ys.Perm (m.map (·.1))) (hs : ys.Pairwise (· ≤ ·)) : ys.map (fun y => (y, cnt m y)) = made fun k => cnt m (((k : Nat) : Int) + 1) := by
  have nd : ys.Nodup := hp.nodup_iff.mpr g.nd
  have lt : ys.Pairwise (· < ·) := by
    have := List.Pairwise.and hs nd
    exact this.imp fun h => by omega
  have mem : ∀ y, y ∈ ys ↔ ∃ c ∈ m, c.1 = y := fun y => by rw [hp.mem_iff, List.mem_map]
  have rg : ∀ y ∈ ys, 1 ≤ y ∧ y ≤ ((9 : Nat) : Int) := fun y hy => by
    obtain ⟨c, hc, rfl⟩ := (mem y).mp hy
    have := g.rg c hc
    omega
  have e := rising 9 ys lt rg
  have ef : ((List.range 9).filter fun k => decide ((((k : Nat) : Int) + 1) ∈ ys)) = ((List.range 9).filter fun k => decide (0 < cnt m (((k : Nat) : Int) + 1))) :=
    List.filter_congr fun k _ => decide_eq_decide.mpr ((mem _).trans (cnt_pos g))
  rw [ef] at e
  rw [e, List.map_map]
  rfl
theorem paired_imp {α β : Type} {R S : α → β → Prop} (h : ∀ a b, R a b → S a b) : ∀ {xs : List α} {ys : List β}, Paired R xs ys → Paired S xs ys
  | _, _, .nil => .nil
  | _, _, .cons a b => .cons (h _ _ a) (paired_imp h b)
theorem paired_get {α β : Type} {R : α → β → Prop} : ∀ {xs : List α} {ys : List β}, Paired R xs ys → ∀ (i : Nat) (x : α), xs[i]? = some x → ∃ y, ys[i]? = some y ∧ R x y
  | _, _, .nil, i, x, h => by simp at h
  | _, _, .cons a b, 0, x, h => by cases (Option.some.inj h); exact ⟨_, rfl, a⟩
  | _, _, .cons a b, i + 1, x, h => by
    obtain ⟨y, h1, h2⟩ := paired_get b i x (by simpa using h)
    exact ⟨y, by simpa using h1, h2⟩
theorem paired_len {α β : Type} {R : α → β → Prop} : ∀ {xs : List α} {ys : List β}, Paired R xs ys → xs.length = ys.length
  | _, _, .nil => rfl
  | _, _, .cons a b => by rw [List.length_cons, List.length_cons, paired_len b]
theorem paired_snoc {α β : Type} {R : α → β → Prop} : ∀ {xs : List α} {ys : List β} {x : α} {y : β}, Paired R xs ys → R x y → Paired R (xs ++ [x]) (ys ++ [y])
  | _, _, _, _, .nil, h => .cons h .nil
  | _, _, _, _, .cons a b, h => .cons a (paired_snoc b h)
abbrev Prs (K : PySem.W.Frag) (H : Hp) (ps : List Addr) (v : Vc) : Prop := Paired (fun p (c : Int × Int) => SqT K H p [.int c.1, .int c.2]) ps v
def Vec (K : PySem.W.Frag) (H : Hp) (a : Addr) (v : Vc) : Prop := ∃ ps : List Addr, SqT K H a (ps.map V.ref) ∧ Prs K H ps v
def PVec (K : PySem.W.Frag) (H : Hp) (a : Addr) (v : Vc) : Prop := ∃ ps : List Addr, PlT H a (ps.map V.ref) ∧ Prs K H ps v
theorem prs_same {K : PySem.W.Frag} {H H' : Hp} {ps : List Addr} {v : Vc} (e : Same H H') (h : Prs K H ps v) : Prs K H' ps v := paired_imp (fun _ _ q => same_tup e q) h
theorem Vec.same {K : PySem.W.Frag} {H H' : Hp} {a : Addr} {v : Vc} (h : Vec K H a v) (e : Same H H') : Vec K H' a v := by
  obtain ⟨ps, h1, h2⟩ := h
  exact ⟨ps, same_tup e h1, prs_same e h2⟩
theorem PVec.same {K : PySem.W.Frag} {H H' : Hp} {a : Addr} {v : Vc} (h : PVec K H a v) (e : Same H H') : PVec K H' a v := by
  obtain ⟨ps, h1, h2⟩ := h
  exact ⟨ps, h1.same e, prs_same e h2⟩
theorem PVec.vec {K : PySem.W.Frag} {H : Hp} {a : Addr} {v : Vc} (h : PVec K H a v) : Vec K H a v := by
  obtain ⟨ps, h1, h2⟩ := h
  exact ⟨ps, h1.seq, h2⟩
theorem for_vec {K : PySem.W.Frag} {g : TG} {t : TS} {D : Ends} {σ : L2.St} {H H0 : Hp} {a : Addr} {v : Vc} {ps : List Addr} (hS : SqT K H0 a (ps.map V.ref)) (hP : Prs K H0 ps v) (Pv : Vc → L2.St → Hp → Prop) (h0 : Pv [] σ H) (hl : ∀ pre σ H, Pv pre σ H → Same H0 H)
    (hs : ∀ (pre : Vc) (c : Int × Int) (post : Vc) (T : Addr) σ H, v = pre ++ c :: post → Pv pre σ H → SqT K H T [.int c.1, .int c.2] → g (.ref T) σ H fun σ2 H2 => t { D with nx := Pv (pre ++ [c]), ct := Pv (pre ++ [c]), bk := D.nx } σ2 H2)
    (hd : ∀ σ H, Pv v σ H → D.nx σ H) : ForB (Itt K a) g t D σ H := by
  refine for_tup (xs := ps.map V.ref) (fun i => Pv (v.take i)) (by simpa using h0) (fun i σ H _ p => same_tup (hl _ σ H p) hS) (fun i x σ H hx p => ?_) (fun σ H p => ?_)
  · rw [List.getElem?_map] at hx
    obtain ⟨T, hT, rfl⟩ := Option.map_eq_some_iff.mp hx
    obtain ⟨c, hc, q⟩ := paired_get hP i T hT
    have e2 := (List.getElem?_eq_some_iff.mp hc).2
    have e1 : v = v.take i ++ c :: v.drop (i + 1) := by rw [← e2, List.getElem_cons_drop, List.take_append_drop]
    rw [List.take_add_one, hc]
    exact hs _ c _ T σ H e1 p (same_tup (hl _ σ H p) q)
  · rw [List.length_map, paired_len hP, List.take_length] at p
    exact hd σ H p
def lessV (v w : Vc) : Bool := w.any fun c => decide (cnt v c.1 < c.2)
def cmpS (a b : Bool) : Str := if a = true then (if b = true then "apart" else "less") else if b = true then "greater" else "equal"
theorem dput_len (m : Vc) (k c : Int) : (dput m k c).length ≤ m.length + 1 := by
  unfold dput
  split <;> simp
theorem fold_len (v : Vc) : ∀ m : Vc, (v.foldl (fun m c => dput m c.1 c.2) m).length ≤ m.length + v.length := by
  induction v with
  | nil => intro m; exact Nat.le_refl _
  | cons x r ih =>
    intro m
    have h1 := ih (dput m x.1 x.2)
    have h2 := dput_len m x.1 x.2
    show (r.foldl (fun m c => dput m c.1 c.2) (dput m x.1 x.2)).length ≤ _
    rw [List.length_cons]
    omega
theorem made_len (f : Nat → Int) : (made f).length ≤ 9 := by
  unfold made madeN
  rw [List.length_map]
  exact Nat.le_trans (List.length_filter_le ..) (by rw [List.length_range]; exact Nat.le_refl _)
theorem made_congr {f g : Nat → Int} (h : ∀ k, k < 9 → f k = g k) : made f = made g := by
  unfold made madeN
  have e : ((List.range 9).filter fun k => decide (0 < f k)) = ((List.range 9).filter fun k => decide (0 < g k)) :=
    List.filter_congr fun k hk => by rw [h k (List.mem_range.mp hk)]
  rw [e]
  refine List.map_congr_left fun k hk => ?_
  rw [h k (List.mem_range.mp (List.mem_filter.mp hk).1)]
def row9 (f : Nat → Int) : List Int := (List.range 9).map f
def sp_count_of (K : PySem.W.Frag) : Sp := sp2 fun x y H Q => ∃ (a : Addr) (v : Vc) (d : Int), x = .ref a ∧ y = .int d ∧ Vec K H a v ∧ Q (.int (cnt v d)) H
def sp_is_less_somewhere (K : PySem.W.Frag) : Sp := sp2 fun x y H Q => ∃ (a b : Addr) (v w : Vc), x = .ref a ∧ y = .ref b ∧ Vec K H a v ∧ Vec K H b w ∧ Q (.bl (lessV v w)) H
def sp_compare (K : PySem.W.Frag) : Sp := sp2 fun x y H Q => ∃ (a b : Addr) (v w : Vc), x = .ref a ∧ y = .ref b ∧ Vec K H a v ∧ Vec K H b w ∧ Q (.str (cmpS (lessV v w) (lessV w v))) H
def sp_vector (K : PySem.W.Frag) : Sp := sp1 fun x H Q => ∃ (D : Addr) (m : Vc), x = .ref D ∧ H D = some (.dK (kvl m)) ∧ Good m ∧ m.length ≤ 40 ∧ ∀ (r : Addr) (H' : Hp), Same H H' → PVec K H' r (made fun k => cnt m (((k : Nat) : Int) + 1)) → Q (.ref r) H'
def sp_join (K : PySem.W.Frag) : Sp := sp2 fun x y H Q => ∃ (a b : Addr) (f g : Nat → Int), x = .ref a ∧ y = .ref b ∧ (∀ k, 0 ≤ f k) ∧ (∀ k, 0 ≤ g k) ∧ PVec K H a (made f) ∧ Vec K H b (made g) ∧ ∀ (r : Addr) (H' : Hp), Same H H' → PVec K H' r (made fun k => mx (f k) (g k)) → Q (.ref r) H'
def sp_raised (K : PySem.W.Frag) : Sp := sp3 fun x y z H Q => ∃ (a : Addr) (f : Nat → Int) (j : Nat) (n : Int), x = .ref a ∧ y = .int (((j : Nat) : Int) + 1) ∧ z = .int n ∧ j < 9 ∧ 0 < n ∧ (∀ k, 0 ≤ f k) ∧ PVec K H a (made f) ∧ ∀ (r : Addr) (H' : Hp), Same H H' → PVec K H' r (made fun k => if k = j then n else f k) → Q (.ref r) H'
def sp_counts_of (K : PySem.W.Frag) : Sp := sp1 fun x H Q => ∃ (a : Addr) (f : Nat → Int), x = .ref a ∧ (∀ k, 0 ≤ f k) ∧ Vec K H a (made f) ∧ ∀ (r : Addr) (H' : Hp), Same H H' → SqT K H' r ((row9 f).map V.int) → Q (.ref r) H'
def sp_law_cell (K : PySem.W.Frag) : Sp := sp2 fun x y H Q => ∃ (a : Addr) (ns : List Int) (i : Nat), x = .ref a ∧ y = .int i ∧ SqL K H a (ns.map V.int) ∧ ns.length ≤ 1000 ∧ i ≤ 1000 ∧ ∀ n, Q (.int n) H
def sp_law_counts (K : PySem.W.Frag) : Sp := sp1 fun x H Q => ∃ (a : Addr) (f : Nat → Int), x = .ref a ∧ (∀ k, 0 ≤ f k) ∧ Vec K H a (made f) ∧ ∀ (r : Addr) (H' : Hp), H r = none → Same H H' → H' r = some (.lst ((row9 f).map V.int)) → Q (.ref r) H'
def sp_law_made (K : PySem.W.Frag) : Sp := sp1 fun x H Q => ∃ (a : Addr) (f : Nat → Int), x = .ref a ∧ SqL K H a ((row9 f).map V.int) ∧ ∀ (r : Addr) (H' : Hp), Same H H' → Vec K H' r (made f) → Q (.ref r) H'
theorem e_tDGet {td ty : TE} {σ : L2.St} {H : Hp} {Q : VK} (q : td σ H fun x H1 => ty σ H1 fun y H2 => ∃ a v, x = .ref a ∧ DGet H2 a y (some v) ∧ Q v H2) : tDGet td ty σ H Q := q
theorem e_tDGet2 {td ty tx : TE} {σ : L2.St} {H : Hp} {Q : VK} (q : td σ H fun x H1 => ∃ a, x = .ref a ∧ IsD H1 a ∧ ty σ H1 fun y H2 => tx σ H2 fun z H3 => ∃ o, DGet H3 a y o ∧ Q (o.getD z) H3) : tDGet2 td ty tx σ H Q := q
theorem e_sDPut {td ty tv : TE} {σ : L2.St} {H : Hp} {D : Ends} (q : tv σ H fun v H1 => td σ H1 fun x H2 => ty σ H2 fun y H3 => ∃ a H4, x = .ref a ∧ DPut H3 a y v H4 ∧ D.nx σ H4) : sDPut td ty tv D σ H := q
theorem dg_some {H : Hp} {D : Addr} {m : Vc} {d : Int} {Q : V → Prop} (h : H D = some (.dK (kvl m))) (hc : ∃ c ∈ m, c.1 = d) (q : Q (.int (cnt m d))) : ∃ a v, V.ref D = .ref a ∧ DGet H a (.int d) (some v) ∧ Q v := by
  obtain ⟨c, h1, h2⟩ := hc
  refine ⟨D, _, rfl, ?_, q⟩
  rw [← (valV_kvl m d).2 c h1 h2]
  exact DGet.k (k := Sum.inl d) h
theorem dg_or {H : Hp} {D : Addr} {m : Vc} {d : Int} {Q : Option V → Prop} (h : H D = some (.dK (kvl m))) (q : ∀ o : Option V, o.getD (.int 0) = .int (cnt m d) → Q o) : ∃ o, DGet H D (.int d) o ∧ Q o :=
  ⟨_, DGet.k (k := Sum.inl d) h, q _ (valV_kvl m d).1⟩
theorem dp_put {H : Hp} {D : Addr} {m : Vc} {k c : Int} {Q : Hp → Prop} (h : H D = some (.dK (kvl m))) (hl : m.length ≤ 100) (q : Q (upd H D (.dK (kvl (dput m k c))))) : ∃ a H4, V.ref D = .ref a ∧ DPut H a (.int k) (.int c) H4 ∧ Q H4 :=
  ⟨D, _, rfl, .inl ⟨kvl m, Sum.inl k, h, rfl, Nat.lt_of_le_of_lt (by unfold kvl; rw [List.length_map]; exact hl) (by decide), rfl⟩, by rw [putK_kvl]; exact q⟩
theorem prs_kvl {K : PySem.W.Frag} {H : Hp} : ∀ {ps : List Addr} {v : Vc}, Prs K H ps v → Paired (fun p (kv : Key × V) => SqT K H p [kV kv.1, kv.2]) ps (kvl v)
  | _, _, .nil => .nil
  | _, _, .cons a b => .cons a (prs_kvl b)
theorem dict_made {f : Nat → Int} (hf : ∀ k, 0 ≤ f k) : ∃ m, mergeK [] (kvl (made f)) = kvl m ∧ Good m ∧ m.length ≤ 9 ∧ ∀ k : Nat, k < 9 → cnt m (((k : Nat) : Int) + 1) = f k :=
  ⟨_, merge_kvl (made f) [], fold_good (made f) made_rg [] ⟨by simp, fun c hc => by cases hc⟩, Nat.le_trans (fold_len (made f) []) (by rw [List.length_nil, Nat.zero_add]; exact made_len f), fun k hk => by rw [fold_cnt]; exact last_made hf hk⟩
abbrev Prx (H : Hp) (ps : List Addr) (v : Vc) : Prop := Paired (fun p (c : Int × Int) => H p = some (.tup [.int c.1, .int c.2])) ps v
theorem Prx.upd {H : Hp} {ps : List Addr} {v : Vc} {E : Addr} {l : List V} {o : HO} (h : Prx H ps v) (e : H E = some (.lst l)) : Prx (upd H E o) ps v :=
  paired_imp (fun p c q => by
    have n : p ≠ E := fun z => by
      rw [z, e] at q
      cases q
    rw [upd_ne n]; exact q) h
theorem Prx.same {H H' : Hp} {ps : List Addr} {v : Vc} (h : Prx H ps v) (e : Same H H') : Prx H' ps v := paired_imp (fun _ _ q => e _ _ q) h
theorem Prx.prs {K : PySem.W.Frag} {H : Hp} {ps : List Addr} {v : Vc} (h : Prx H ps v) : Prs K H ps v := paired_imp (fun _ _ q => SqT.of q) h
theorem row9_at (f : Nat → Int) {i : Nat} (h : i < 9) {j : Int} (hj : j = i) : atI ((row9 f).map V.int) j = some (.int (f i)) :=
  at_of (j := i) hj (by rw [List.getElem?_map, row9, List.getElem?_map, List.getElem?_range h]; rfl)
theorem row9_set (f : Nat → Int) {i : Nat} (h : i < 9) (n : Int) : (row9 f).set i n = row9 fun k => if k = i then n else f k := by
  refine List.ext_getElem? fun k => ?_
  rw [List.getElem?_set]
  unfold row9
  by_cases hk : k < 9
  · have r1 : ((List.range 9).map fun k => if k = i then n else f k)[k]? = some (if k = i then n else f k) := by rw [List.getElem?_map, List.getElem?_range hk]; rfl
    have r2 : ((List.range 9).map f)[k]? = some (f k) := by rw [List.getElem?_map, List.getElem?_range hk]; rfl
    rw [r1, r2]
    by_cases e : i = k
    · rw [if_pos e, if_pos (by simp; omega), if_pos e.symm]
    · rw [if_neg e, if_neg fun q => e q.symm]
  · rw [List.getElem?_eq_none (l := (List.range 9).map fun k => if k = i then n else f k) (by simp; omega)]
    by_cases e : i = k
    · omega
    · rw [if_neg e, List.getElem?_eq_none (by simp; omega)]
theorem row9_inj {f g : Nat → Int} (h : ∀ k, k < 9 → f k = g k) : row9 f = row9 g := List.map_congr_left fun k hk => h k (List.mem_range.mp hk)
theorem row9_len (f : Nat → Int) : ((row9 f).map V.int).length = 9 := by unfold row9; simp
theorem p2 (n : Int) {i : Nat} (h : i < 9) : CDivW n (1 * 2 ^ (1 + (i : Int)).toNat) := by
  have e : (1 + (i : Int)).toNat = i + 1 := by omega
  rw [e]
  have : i = 0 ∨ i = 1 ∨ i = 2 ∨ i = 3 ∨ i = 4 ∨ i = 5 ∨ i = 6 ∨ i = 7 ∨ i = 8 := by omega
  rcases this with h | h | h | h | h | h | h | h | h <;> rw [h] <;> exact ⟨by decide, by decide⟩
theorem lc_filt {K : PySem.W.Frag} {g : TG} {tt : TT} {te : TE} {vs : List Nat} {σ : L2.St} {Da : Addr} {H0 : Hp} {Q : VK} {lo : Int} {n : Nat} (hD : H0 Da = none) (hn : n ≤ 1000000) (p : Nat → Bool) (f : Nat → V)
    (hs : ∀ (i : Nat) (H2 : Hp) (C : VK) (E : Hp → Prop), i < n → Same H0 H2 → (p i = true → ∀ H3, Same H2 H3 → C (f i) H3) → (p i = false → ∀ H3, Same H2 H3 → E H3) →
      g (.int (lo + (i : Nat))) (wipe σ vs) H2 fun σ2 H2 => wipe σ2 vs = wipe σ vs ∧ tt σ2 H2 fun b H3 => if b = true then te σ2 H3 C else E H3)
    (hd : ∀ (H : Hp), Same H0 H → H Da = some (.lst (((List.range n).filter p).map f)) → Q (.ref Da) H) : LcB (Itr lo n) g tt te vs σ Da H0 Q := by
  refine lc_rng (fun i H2 => Same H0 H2 ∧ H2 Da = some (.lst (((List.range i).filter p).map f))) ⟨same_new hD, upd_same⟩ (fun i H2 hi q => ?_) (fun H2 q => hd H2 q.1 q.2)
  obtain ⟨s4, e4⟩ := q
  refine hs i H2 _ _ hi s4 (fun hp H3 s5 => ?_) (fun hp H3 s5 => ?_)
  · refine ⟨_, s5 _ _ e4, Nat.lt_of_le_of_lt (Nat.le_trans (by rw [List.length_map]; exact List.length_filter_le ..) (by rw [List.length_range]; omega : _ ≤ 1000000)) (by decide), Same.mut (s4.trans s5) hD, ?_⟩
    rw [upd_same, List.range_succ, List.filter_append, List.filter_cons_of_pos hp, List.map_append]
    rfl
  · refine ⟨s4.trans s5, ?_⟩
    rw [s5 _ _ e4, List.range_succ, List.filter_append, List.filter_cons_of_neg (by rw [hp]; exact Bool.false_ne_true), List.filter_nil, List.append_nil]
theorem nil_less (f g : Nat → Int) (h : Nat → Int) : decide ((((List.range 9).filter fun k => decide (f k < g k)).map h) = []) = !lessF 9 f g := by
  unfold lessF
  cases e : (List.range 9).any fun k => decide (f k < g k) with
  | true =>
    obtain ⟨k, hk, q⟩ := List.any_eq_true.mp e
    refine decide_eq_false fun z => ?_
    have : (List.range 9).filter (fun k => decide (f k < g k)) = [] := List.map_eq_nil_iff.mp z
    have m : k ∈ (List.range 9).filter (fun k => decide (f k < g k)) := List.mem_filter.mpr ⟨hk, q⟩
    rw [this] at m
    cases m
  | false =>
    refine decide_eq_true ?_
    rw [List.filter_eq_nil_iff.mpr fun k hk => by
      have := List.any_eq_false.mp e k hk
      exact this]
    rfl
/-! vectors as data -/
abbrev Dv (v : Vc) : List PyData := v.map fun c => .tuple [.int c.1, .int c.2]
theorem dv_all {K : PySem.W.Frag} {H : Hp} : ∀ {ps : List Addr} {v : Vc}, Prs K H ps v → DpAll K H (ps.map V.ref) (Dv v)
  | _, _, .nil => .nil
  | _, _, .cons (b := c) a b => .cons (.tup (xs := [.int c.1, .int c.2]) a (.cons (.int _) (.cons (.int _) .nil))) (dv_all b)
theorem dv_eqv : ∀ v w : Vc, PyData.eqvAll (Dv v) (Dv w) = decide (v = w)
  | [], [] => by
    simp [PyData.eqvAll]
  | [], _ :: _ => by
    simp [PyData.eqvAll]
  | _ :: _, [] => by
    simp [PyData.eqvAll]
  | c :: v, d :: w => by
    have ih := dv_eqv v w
    show (PyData.eqvAll (Di [c.1, c.2]) (Di [d.1, d.2]) && PyData.eqvAll (Dv v) (Dv w)) = _
    rw [ih, eqvAll_ints]
    obtain ⟨c1, c2⟩ := c
    obtain ⟨d1, d2⟩ := d
    by_cases h1 : c1 = d1 <;> by_cases h2 : c2 = d2 <;> by_cases h3 : v = w <;> simp [h1, h2, h3]
theorem dv_can : ∀ v : Vc, PyData.canLayAll0 (Dv v) = true
  | [] => rfl
  | c :: v => by
    show (PyData.canLayAll0 (Di [c.1, c.2]) && PyData.canLayAll0 (Dv v)) = true
    rw [dv_can v, canAll_ints]; rfl
theorem dv_depth : ∀ v : Vc, PyData.depthAll (Dv v) ≤ 1
  | [] => by
    show 0 ≤ 1
    omega
  | c :: v => by
    have ih := dv_depth v
    show max (PyData.depthAll (Di [c.1, c.2]) + 1) (PyData.depthAll (Dv v)) ≤ 1
    rw [Vf.depthAll_ints]
    omega
theorem e_neVV {K : PySem.W.Frag} {H : Hp} {Q : VK} {a b : Addr} {v w : Vc} (h1 : Vec K H a v) (h2 : Vec K H b w) (q : Q (.bl (!decide (v = w))) H) : rNeD K (.ref a) (.ref b) H Q := by
  obtain ⟨ps, s1, p1⟩ := h1
  obtain ⟨qs, s2, p2⟩ := h2
  refine ⟨_, _, .tup s1 (dv_all p1), .tup s2 (dv_all p2), shaped_tuple (dv_can v) (Nat.le_trans (dv_depth v) (by decide)), shaped_tuple (dv_can w) (Nat.le_trans (dv_depth w) (by decide)), ?_⟩
  rw [show PyData.eqv (.tuple (Dv v)) (.tuple (Dv w)) = PyData.eqvAll (Dv v) (Dv w) from rfl, dv_eqv]
  exact q
theorem e_tWhile {tc : TT} {tb : TS} {D : Ends} {σ : L2.St} {H : Hp} (q : ∃ W : Nat → L2.St → Hp → Prop, (∃ m, W m σ H) ∧ ∀ m σ H, W m σ H → tc σ H fun b H1 => if b = true then ∃ N : L2.St → Hp → Prop, (∀ σ' H', N σ' H' → ∃ m', m' < m ∧ W m' σ' H') ∧ tb { D with nx := N, ct := N, bk := D.nx } σ H1 else D.nx σ H1) : tWhile tc tb D σ H := q
theorem e_revR3 {tr : L2.St → Hp → (Int → Int → Int → Nat → Hp → Prop) → Prop} {σ : L2.St} {H : Hp} {R : It → Hp → Prop} (q : tr σ H fun a _ c n H1 => R (Itc (a + ((n : Int) - 1) * c) (-c) n) H1) : iRevR3 tr σ H R := q
theorem e_tRg3 {ta : TA} {σ : L2.St} {H : Hp} {Q : Int → Int → Int → Nat → Hp → Prop} (q : ta σ H fun vs H1 => ∃ i j k n, vs = [.int i, .int j, .int k] ∧ RgC i j k n ∧ Builtin.Range.handS_smallRev i j k = true ∧ Q i j k n H1) : tRg3 ta σ H Q := q
theorem e_par {i j : Nat} {ta : TA} {D : Ends} {σ : L2.St} {H : Hp} (q : ta σ H fun vs H1 => ∃ v w, vs = [v, w] ∧ D.nx ((σ.set i (some v)).set j (some w)) H1) : tPar i j ta D σ H := q
theorem e_tRevL {K : PySem.W.Frag} {t : TE} {σ : L2.St} {H : Hp} {Q : VK} (q : t σ H fun x H1 => ∃ p xs, x = .ref p ∧ SqL K H1 p xs ∧ ∀ l, H1 l = none → Q (.ref l) (upd H1 l (.lst xs.reverse))) : tRevL K t σ H Q := q
theorem e_tDIn {td ty : TE} {σ : L2.St} {H : Hp} {Q : VK} (q : ty σ H fun y H1 => td σ H1 fun x H2 => ∃ a o, x = .ref a ∧ DGet H2 a y o ∧ Q (.bl o.isSome) H2) : tDIn ty td σ H Q := q
theorem e_lockE {t : TE} {σ : L2.St} {H : Hp} {Q : VK} (q : ∃ d u, H d = some u ∧ Mut (some u) ∧ ∀ od, t σ (upd H d (.frz od u)) fun v H' => H' d = some (.frz od u) ∧ Q v (upd H' d u)) : tLockE t σ H Q := q
theorem e_iKeys {td : TE} {σ : L2.St} {H : Hp} {R : It → Hp → Prop} (q : td σ H fun x H1 => ∃ d o, x = .ref d ∧ ((∃ kvs, H1 d = some (.frz o (.dK kvs)) ∧ R (Itk d o kvs) H1) ∨ ∃ kvs, H1 d = some (.frz o (.dT kvs)) ∧ R (Itkt d o kvs) H1)) : iKeys td σ H R := q
theorem e_tDNotIn {ty td : TE} {σ : L2.St} {H : Hp} {Q : VK} (q : ty σ H fun y H1 => td σ H1 fun x H2 => ∃ a o, x = .ref a ∧ DGet H2 a y o ∧ Q (.bl (!o.isSome)) H2) : tDNotIn ty td σ H Q := q
theorem e_lock {t : TS} {D : Ends} {σ : L2.St} {H : Hp} (q : ∃ d u, H d = some u ∧ Mut (some u) ∧ ∀ od, t ⟨fun σ' H' => H' d = some (.frz od u) ∧ D.nx σ' (upd H' d u), fun v H' => H' d = some (.frz od u) ∧ D.rt v (upd H' d u), fun σ' H' => H' d = some (.frz od u) ∧ D.bk σ' (upd H' d u), fun σ' H' => H' d = some (.frz od u) ∧ D.ct σ' (upd H' d u)⟩ σ (upd H d (.frz od u))) : tLock t D σ H := q
/-- the keys of a locked dict, some of them left out -/
theorem lc_keysF {d : Addr} {o : Obj} {kvs : List (Key × V)} {g : TG} {tt : TT} {te : TE} {vs : List Nat} {σ : L2.St} {Da : Addr} {H0 : Hp} {Q : VK} (hD : H0 Da = none) (hd0 : H0 d = some (.frz o (.dK kvs))) (hn : kvs.length ≤ 1000000) (p : Key × V → Bool) (f : Key × V → V)
    (hs : ∀ (c : Key × V) (H2 : Hp) (C : VK) (E : Hp → Prop), c ∈ kvs → Same H0 H2 → (p c = true → ∀ H3, Same H2 H3 → C (f c) H3) → (p c = false → ∀ H3, Same H2 H3 → E H3) →
      g (kV c.1) (wipe σ vs) H2 fun σ2 H2 => wipe σ2 vs = wipe σ vs ∧ tt σ2 H2 fun b H3 => if b = true then te σ2 H3 C else E H3)
    (hd : ∀ (H : Hp), Same H0 H → H Da = some (.lst ((kvs.filter p).map f)) → Q (.ref Da) H) : LcB (Itk d o kvs) g tt te vs σ Da H0 Q := by
  refine lc_it walk_keys (fun i H2 => Same H0 H2 ∧ H2 Da = some (.lst (((kvs.take i).filter p).map f))) ⟨same_new hD, upd_same⟩ (fun i H2 _ q => q.1 _ _ hd0) (fun i x H2 H3 hi q y => ?_) (fun H2 q => hd H2 q.1 (by rw [List.take_of_length_le (Nat.le_refl _)] at q; exact q.2))
  obtain ⟨s4, e4⟩ := q
  obtain ⟨rfl, k, v, hk, rfl⟩ := y
  have hc : (k, v) ∈ kvs := List.mem_of_getElem? hk
  have ht : kvs.take (i + 1) = kvs.take i ++ [(k, v)] := by
    rw [List.take_succ, hk]
    rfl
  refine hs (k, v) H3 _ _ hc s4 (fun hp H5 s5 => ?_) (fun hp H5 s5 => ?_)
  · refine ⟨_, s5 _ _ e4, Nat.lt_of_le_of_lt (Nat.le_trans (by rw [List.length_map]; exact List.length_filter_le ..) (by rw [List.length_take]; omega : _ ≤ 1000000)) (by decide), Same.mut (s4.trans s5) hD, ?_⟩
    rw [upd_same, ht, List.filter_append, List.filter_cons_of_pos hp, List.map_append]
    rfl
  · refine ⟨s4.trans s5, ?_⟩
    rw [s5 _ _ e4, ht, List.filter_append, List.filter_cons_of_neg (by rw [hp]; exact Bool.false_ne_true), List.filter_nil, List.append_nil]
theorem e_ckw {r : List V → List V → Hp → VK → Prop} {t tk : TA} {σ : L2.St} {H : Hp} {Q : VK} (q : t σ H fun vs H1 => tk σ H1 fun zs H2 => r vs zs H2 Q) : tCKw r t tk σ H Q := q
theorem e_tBM2 {K : PySem.W.Frag} {T : String} {r : V → List V → Hp → VK → Prop} {to : TE} {t : TA} {σ : L2.St} {H : Hp} {Q : VK} (q : tBM K T r to t σ H Q) : tBM K T r to t σ H Q := q
/-- [e for x in t], t a tuple -/
theorem lc_tupM {K : PySem.W.Frag} {a : Addr} {xs : List V} {g : TG} {te : TE} {vs : List Nat} {σ : L2.St} {Da : Addr} {H0 : Hp} {Q : VK} (hD : H0 Da = none) (hl : SqT K H0 a xs) (hn : xs.length ≤ 1000000) (f : V → V)
    (hs : ∀ (x : V) (H2 : Hp) (C : VK) (E : Hp → Prop), x ∈ xs → Same H0 H2 → (∀ H3, Same H2 H3 → C (f x) H3) →
      g x (wipe σ vs) H2 fun σ2 H2 => wipe σ2 vs = wipe σ vs ∧ tYes σ2 H2 fun b H3 => if b = true then te σ2 H3 C else E H3)
    (hd : ∀ (H : Hp), Same H0 H → H Da = some (.lst (xs.map f)) → Q (.ref Da) H) : LcB (Itt K a) g tYes te vs σ Da H0 Q := by
  refine lc_it walk_tup (fun i H2 => Same H0 H2 ∧ H2 Da = some (.lst ((xs.take i).map f))) ⟨same_new hD, upd_same⟩ (fun i H2 _ q => same_tup q.1 hl) (fun i x H2 H3 hi q y => ?_) (fun H2 q => hd H2 q.1 (by rw [List.take_length] at q; exact q.2))
  obtain ⟨s4, e4⟩ := q
  obtain ⟨rfl, hx⟩ := y
  refine hs x H3 _ _ (List.mem_of_getElem? hx) s4 fun H5 s5 => ?_
  refine ⟨_, s5 _ _ e4, Nat.lt_of_le_of_lt (by rw [List.length_map, List.length_take]; omega : _ ≤ 1000000) (by decide), Same.mut (s4.trans s5) hD, ?_⟩
  rw [upd_same, List.take_succ, hx, List.map_append]
  rfl
theorem e_iZipLT {K : PySem.W.Frag} {ta : TA} {σ : L2.St} {H : Hp} {R : It → Hp → Prop} (q : ta σ H fun vs H1 => ∃ a b xs ys, vs = [.ref a, .ref b] ∧ SqL K H1 a xs ∧ SqT K H1 b ys ∧ R (ItzLT K a b) H1) : iZipLT K ta σ H R := q
theorem e_iZipA {K : PySem.W.Frag} {ta : TA} {σ : L2.St} {H : Hp} {R : It → Hp → Prop} (q : ta σ H fun vs H1 => ∃ a b xs ys, vs = [.ref a, .ref b] ∧ ((SqL K H1 a xs ∧ SqL K H1 b ys ∧ R (Itz K a b) H1) ∨ (SqT K H1 a xs ∧ SqT K H1 b ys ∧ R (RZ.ItzT K a b) H1))) : RZ.iZipA K ta σ H R := q
theorem walk_zipTT {K : PySem.W.Frag} {a b : Addr} {xs ys : List V} {n : Nat} (hn : n = min xs.length ys.length) : Walk (RZ.ItzT K a b) n (fun H => SqT K H a xs ∧ SqT K H b ys) (YPair (fun i => xs[i]?) (fun i => ys[i]?)) := by
  subst hn
  refine ⟨fun i H hi q => ⟨xs, ys, xs[i]'(by omega), ys[i]'(by omega), q.1, q.2, List.getElem?_eq_getElem (by omega), List.getElem?_eq_getElem (by omega)⟩, fun H q => ⟨xs, ys, q.1, q.2, by omega⟩, fun i H v H' hi q y => ?_⟩
  obtain ⟨T, x, y, g1, g2, g3, g4, g5⟩ := y
  exact ⟨T, x, y, g1, g2, g3, g4 xs q.1, g5 ys q.2⟩
/-! ### what stands but at some places -/
def Fr (S : List Addr) (H H' : Hp) : Prop := ∀ x o, x ∉ S → H x = some o → H' x = some o
theorem Fr.of {S : List Addr} {H H' : Hp} (h : Same H H') : Fr S H H' := fun x o _ e => h x o e
theorem Fr.refl (S : List Addr) (H : Hp) : Fr S H H := fun _ _ _ e => e
theorem Fr.trans {S : List Addr} {H H1 H2 : Hp} (h : Fr S H H1) (g : Fr S H1 H2) : Fr S H H2 := fun x o n e => g x o n (h x o n e)
theorem Fr.same {S : List Addr} {H H1 H2 : Hp} (h : Fr S H H1) (g : Same H1 H2) : Fr S H H2 := fun x o n e => g x o (h x o n e)
theorem Fr.put {S : List Addr} {H H1 : Hp} {a : Addr} {o : HO} (h : Fr S H H1) (m : a ∈ S) : Fr S H (upd H1 a o) := fun x o' n e => by
  rw [upd_ne fun z => n (by rw [z]; exact m)]
  exact h x o' n e
theorem Fr.mono {S S' : List Addr} {H H1 : Hp} (h : Fr S H H1) (m : ∀ x ∈ S, x ∈ S') : Fr S' H H1 := fun x o n e => h x o (fun z => n (m x z)) e
theorem Fr.mut {S : List Addr} {H H1 : Hp} {a : Addr} {o : HO} (h : Fr S H H1) (m : H a = none) : Fr S H (upd H1 a o) := fun x o' n e => by
  rw [upd_ne (ne_of_none e m)]
  exact h x o' n e
theorem Fr.put2 {S : List Addr} {H H1 : Hp} {a : Addr} {o : HO} (h : Fr S H H1) (m : a ∈ S ∨ H a = none) : Fr S H (upd H1 a o) := m.elim (fun m => h.put m) fun m => h.mut m
/-! ### the heap without some places -/
def hid (D : List Addr) (H : Hp) : Hp := fun b => if b ∈ D then none else H b
theorem hid_at {D : List Addr} {H : Hp} {b : Addr} (n : b ∉ D) : hid D H b = H b := by unfold hid; rw [if_neg n]
theorem hid_in {D : List Addr} {H : Hp} {b : Addr} (m : b ∈ D) : hid D H b = none := by unfold hid; rw [if_pos m]
theorem hid_some {D : List Addr} {H : Hp} {b : Addr} {o : HO} (h : hid D H b = some o) : b ∉ D ∧ H b = some o := by
  by_cases m : b ∈ D
  · rw [hid_in m] at h; cases h
  · rw [hid_at m] at h; exact ⟨m, h⟩
theorem hid_upd {D : List Addr} {H : Hp} {p : Addr} {o : HO} (n : p ∉ D) : hid D (upd H p o) = upd (hid D H) p o := by
  funext b
  by_cases e : b = p
  · rw [e, hid_at n, upd_same, upd_same]
  · rw [upd_ne e]
    by_cases m : b ∈ D
    · rw [hid_in m, hid_in m]
    · rw [hid_at m, hid_at m, upd_ne e]
theorem hid_upd_in {D : List Addr} {H : Hp} {p : Addr} {o : HO} (m : p ∈ D) : hid D (upd H p o) = hid D H := by
  funext b
  by_cases m2 : b ∈ D
  · rw [hid_in m2, hid_in m2]
  · rw [hid_at m2, hid_at m2, upd_ne fun e => m2 (by rw [e]; exact m)]
theorem hid_fr {D : List Addr} {H H' : Hp} (f : Fr D H H') : Same (hid D H) (hid D H') := fun b o h => by
  obtain ⟨n, e⟩ := hid_some h
  rw [hid_at n]
  exact f b o n e
theorem hid_same {D : List Addr} {H H' : Hp} (s : Same H H') : Same (hid D H) (hid D H') := hid_fr (Fr.of s)
theorem hid_sub {D : List Addr} {H : Hp} : Same (hid D H) H := fun b o h => (hid_some h).2
theorem hid_nil {H : Hp} : hid [] H = H := by funext b; exact hid_at (by simp)
theorem hid_none {D : List Addr} {H : Hp} {b : Addr} (h : H b = none) : hid D H b = none := by
  by_cases m : b ∈ D
  · exact hid_in m
  · rw [hid_at m]; exact h
theorem hid_new {H : Hp} {D p : Addr} {o o' : HO} (hD : H D = some o') (hp : H p = none) : hid [D] (upd H p o) = upd (hid [D] H) p o := hid_upd (by
  intro m
  rw [List.mem_singleton.mp m, hD] at hp
  cases hp)
/-- a list made by a comprehension whose elements stand in a relation to their places -/
theorem lc_rel {J : It} {n : Nat} {G : Hp → Prop} {Y : Nat → Hp → V → Hp → Prop} (w : Walk J n G Y) {g : TG} {te : TE} {vs : List Nat} {σ : L2.St} {Da : Addr} {H0 : Hp} {Q : VK} (hD : H0 Da = none) (hn : n ≤ 1000000)
    (hG : ∀ H, Same H0 H → G H) (R : Nat → V → Hp → Prop) (mono : ∀ i v H H', R i v H → Same H H' → R i v H')
    (hs : ∀ (i : Nat) (x : V) (H H' : Hp) (C : VK) (E : Hp → Prop) (acc : List V), i < n → Same H0 H → H Da = some (.lst acc) → Y i H x H' → (∀ v H3, Same H H3 → R i v (hid [Da] H3) → C v H3) →
      g x (wipe σ vs) H' fun σ2 H2 => wipe σ2 vs = wipe σ vs ∧ tYes σ2 H2 fun b H3 => if b = true then te σ2 H3 C else E H3)
    (hd : ∀ (H : Hp) (us : List V), Same H0 H → H Da = some (.lst us) → us.length = n → (∀ i v, us[i]? = some v → R i v (hid [Da] H)) → Q (.ref Da) H) : LcB J g tYes te vs σ Da H0 Q := by
  refine lc_it w (fun i H => Same H0 H ∧ ∃ us, H Da = some (.lst us) ∧ us.length = i ∧ ∀ j v, us[j]? = some v → R j v (hid [Da] H)) ⟨same_new hD, [], upd_same, rfl, fun j v h => by simp at h⟩ (fun i H _ p => hG H p.1) (fun i x H H' hi p y => ?_) (fun H p => ?_)
  · obtain ⟨s1, us, e1, l1, r1⟩ := p
    refine hs i x H H' _ _ _ hi s1 e1 y fun v H3 s3 r3 => ?_
    refine ⟨us, s3 _ _ e1, Nat.lt_of_le_of_lt (by omega : _ ≤ 1000000) (by decide), Same.mut (s1.trans s3) hD, us ++ [v], upd_same, by simp [l1], fun j u hj => ?_⟩
    rw [hid_upd_in (List.mem_singleton.mpr rfl)]
    by_cases hl : j < us.length
    · rw [List.getElem?_append_left hl] at hj
      exact mono _ _ _ _ (r1 j u hj) (hid_same s3)
    · rw [List.getElem?_append_right (by omega)] at hj
      have hj2 := (List.getElem?_eq_some_iff.mp hj).1
      have z : j = i := by simp at hj2; omega
      subst z
      rw [l1, Nat.sub_self] at hj
      cases hj
      exact r3
  · obtain ⟨s1, us, e1, l1, r1⟩ := p
    exact hd H us s1 e1 l1 r1
theorem kp_fr {st : Addr} {H H' : Hp} (k : Kp st H H') : Fr [st] H H' := fun x o n e => k x o (fun z => n (List.mem_singleton.mpr z)) e
theorem kp_same {st : Addr} {H H' : Hp} (k : Kp st H H') : Same (hid [st] H) (hid [st] H') := hid_fr (kp_fr k)
theorem hid_le {D E : List Addr} {H : Hp} (h : ∀ x ∈ D, x ∈ E) : Same (hid E H) (hid D H) := fun b o e => by
  obtain ⟨n, e⟩ := hid_some e
  rw [hid_at fun m => n (h b m)]
  exact e
theorem prd_mk {α β : Type} {F : α → β → Prop} : ∀ {l : List α} {m : List β}, l.length = m.length → (∀ (i : Nat) (a : α) (b : β), l[i]? = some a → m[i]? = some b → F a b) → Paired F l m
  | [], [], _, _ => .nil
  | a :: l, b :: m, e, h => .cons (h 0 a b rfl rfl) (prd_mk (by simpa using e) fun i x y h1 h2 => h (i + 1) x y h1 h2)
def NT (H : Hp) (d : Addr) : Prop := (∀ xs, H d ≠ some (.tup xs)) ∧ ∀ c xs, H d ≠ some (.frz c (.tup xs))
theorem sqT_hid {K : PySem.W.Frag} {D : List Addr} {H : Hp} {p : Addr} {xs : List V} (h : SqT K H p xs) (n : ∀ d ∈ D, NT H d) : SqT K (hid D H) p xs := by
  rcases h with (h | ⟨c9, h⟩) | h
  · exact .inl (.inl (by rw [hid_at fun m => (n p m).1 _ h]; exact h))
  · exact .inl (.inr ⟨c9, by rw [hid_at fun m => (n p m).2 _ _ h]; exact h⟩)
  · exact .inr h
theorem vec_hid {K : PySem.W.Frag} {D : List Addr} {H : Hp} {a : Addr} {v : Vc} (h : Vec K H a v) (n : ∀ d ∈ D, NT H d) : Vec K (hid D H) a v := by
  obtain ⟨ps, h1, h2⟩ := h
  exact ⟨ps, sqT_hid h1 n, paired_imp (fun _ _ q => sqT_hid q n) h2⟩
theorem nt_lst {H : Hp} {d : Addr} {xs : List V} (h : H d = some (.lst xs)) : NT H d := ⟨fun _ z => (by rw [h] at z; cases z), fun _ _ z => (by rw [h] at z; cases z)⟩
theorem e_cat {H : Hp} {Q : VK} {a b : Addr} {xs ys : List V} (h1 : H a = some (.lst xs)) (h2 : H b = some (.lst ys)) (hn : xs.length + ys.length ≤ 100000) (q : ∀ p, H p = none → Q (.ref p) (upd H p (.lst (xs ++ ys)))) : rCat (.ref a) (.ref b) H Q :=
  ⟨a, b, xs, ys, rfl, rfl, h1, h2, Nat.le_trans hn (by decide), q⟩
theorem e_slA {K : PySem.W.Frag} {H : Hp} {Q : VK} {p : Addr} {xs : List V} {lo hi : Option Int} (h : SqT K H p xs) (q : ∀ r H', Same H H' → SqT K H' r (cutV xs lo hi) → Q (.ref r) H') : rSlA K (.ref p) lo hi H Q := by
  refine ⟨p, xs, rfl, h, fun w => q p H (Same.refl H) ?_, fun _ r hr => q r _ (same_new hr) (SqT.of upd_same)⟩
  have e : cutV xs lo hi = xs := by
    unfold cutV
    rw [w.1, w.2, List.drop_zero, Nat.sub_zero, List.take_length]
  rw [e]; exact h
theorem cut_toV (xs : List V) (c : Nat) : cutV xs none (some (c : Int)) = xs.take c := by
  unfold cutV
  rw [HT.sIx_nat, show HT.sIx xs.length 0 none = 0 from rfl, List.drop_zero, Nat.sub_zero]
  by_cases h : c ≤ xs.length
  · rw [Nat.min_eq_left h]
  · rw [Nat.min_eq_right (by omega), List.take_of_length_le (Nat.le_refl _), List.take_of_length_le (by omega)]
theorem cut_fromV (xs : List V) (c : Nat) : cutV xs (some (c : Int)) none = xs.drop c := by
  unfold cutV
  rw [HT.sIx_nat, show HT.sIx xs.length xs.length none = xs.length from rfl]
  by_cases h : c ≤ xs.length
  · rw [Nat.min_eq_left h, List.take_of_length_le (by simp)]
  · rw [Nat.min_eq_right (by omega), List.drop_eq_nil_of_le (Nat.le_refl _), List.drop_eq_nil_of_le (by omega)]
    simp
theorem cut_last (xs : List V) : cutV xs none (some (-1)) = xs.dropLast := by
  unfold cutV
  have e : HT.sIx xs.length xs.length (some (-1)) = xs.length - 1 := by
    show (if (-1 : Int) < 0 then ((-1 : Int) + (xs.length : Int)).toNat else min (-1 : Int).toNat xs.length) = _
    rw [if_pos (by decide)]
    omega
  rw [e, HT.sIx_none, List.drop_zero, Nat.sub_zero, List.dropLast_eq_take]
/-- the state of the draws: the script's copy, a place, a number that is kept, a mixed number -/
structure Dw (K : PySem.W.Frag) (st sc : Addr) (ns : List Int) (H : Hp) : Prop where
  s : ∃ a b c : Int, 0 ≤ a ∧ 0 ≤ b ∧ (0 ≤ c ∧ c < 2147483647) ∧ H st = some (.lst [.ref sc, .int a, .int b, .int c])
  l : H sc = some (.lst (ns.map V.int))
  ne : sc ≠ st
  len : ns.length ≤ 63
theorem Dw.kp {K : PySem.W.Frag} {st sc : Addr} {ns : List Int} {H H' : Hp} (d : Dw K st sc ns H) (k : Kp st H H') (s : ∃ a b c : Int, 0 ≤ a ∧ 0 ≤ b ∧ (0 ≤ c ∧ c < 2147483647) ∧ H' st = some (.lst [.ref sc, .int a, .int b, .int c])) : Dw K st sc ns H' :=
  ⟨s, k _ _ d.ne d.l, d.ne, d.len⟩
theorem Dw.same {K : PySem.W.Frag} {st sc : Addr} {ns : List Int} {H H' : Hp} (d : Dw K st sc ns H) (k : Same H H') : Dw K st sc ns H' := by
  obtain ⟨a, b, c, h1, h2, hc, h3⟩ := d.s
  exact d.kp (Kp.of k) ⟨a, b, c, h1, h2, hc, k _ _ h3⟩
theorem Dw.free {K : PySem.W.Frag} {st sc p : Addr} {ns : List Int} {H : Hp} (d : Dw K st sc ns H) (h : H p = none) : p ≠ st := by
  obtain ⟨a, b, c, _, _, _, h3⟩ := d.s
  intro e
  rw [e, h3] at h
  cases h
theorem Dw.mut {K : PySem.W.Frag} {st sc p : Addr} {ns : List Int} {H0 H1 : Hp} {o : HO} (d0 : Dw K st sc ns H0) (d : Dw K st sc ns H1) (hp : H0 p = none) (k : Kp st H0 H1) : Dw K st sc ns (upd H1 p o) := by
  obtain ⟨a, b, c, h1, h2, hc, h3⟩ := d.s
  exact d0.kp (k.mut hp) ⟨a, b, c, h1, h2, hc, by rw [upd_ne (d0.free hp).symm]; exact h3⟩
theorem Dw.some {K : PySem.W.Frag} {st sc : Addr} {ns : List Int} {H : Hp} (d : Dw K st sc ns H) : ∃ o, H st = some o := by
  obtain ⟨a, b, c, h1, h2, hc, h3⟩ := d.s
  exact ⟨_, h3⟩
section
variable {K : PySem.W.Frag} {g : TG} {σ : L2.St} {te : TE} {vs : List Nat} {Q : VK} {Da st sc : Addr} {ns : List Int} {H0 : Hp}
/-- [e for k in range(..)], e with draws -/
theorem lc_dw {lo : Int} {n : Nat} (d0 : Dw K st sc ns H0) (hD : H0 Da = none) (hn : n ≤ 1000000) (Pe : V → Prop)
    (hs : ∀ (i : Nat) (H2 : Hp) (C : VK) (E : Hp → Prop), i < n → Kp st H0 H2 → Dw K st sc ns H2 → (∀ y H3, Kp st H2 H3 → Dw K st sc ns H3 → Pe y → C y H3) →
      g (.int (lo + i)) (wipe σ vs) H2 fun σ2 H2 => wipe σ2 vs = wipe σ vs ∧ tYes σ2 H2 fun b H3 => if b = true then te σ2 H3 C else E H3)
    (hd : ∀ (H : Hp) (xs : List V), Kp st H0 H → Dw K st sc ns H → H Da = some (.lst xs) → xs.length = n → (∀ x ∈ xs, Pe x) → Q (.ref Da) H) : LcB (Itr lo n) g tYes te vs σ Da H0 Q := by
  have nD := d0.free hD
  refine lc_rng (fun i H2 => Kp st H0 H2 ∧ Dw K st sc ns H2 ∧ ∃ xs : List V, H2 Da = some (.lst xs) ∧ xs.length = i ∧ ∀ x ∈ xs, Pe x) ⟨Kp.new hD, d0.same (same_new hD), [], upd_same, rfl, fun _ hy => by cases hy⟩ (fun i H2 hi p => ?_) (fun H2 p => ?_)
  · obtain ⟨k4, d4, xs, e4, l4, o4⟩ := p
    refine hs i H2 _ _ hi k4 d4 fun y H3 k5 d5 hy => ?_
    refine ⟨xs, k5 _ _ nD e4, Nat.lt_of_le_of_lt (Nat.le_of_lt (by omega : xs.length < 1000001)) (by decide), (k4.trans k5).mut hD, Dw.mut d0 d5 hD (k4.trans k5), xs ++ [y], upd_same, by simp [l4], fun z hz => ?_⟩
    rcases List.mem_append.mp hz with h | h
    · exact o4 z h
    · rw [List.mem_singleton.mp h]; exact hy
  · obtain ⟨k4, d4, xs, e4, l4, o4⟩ := p
    exact hd H2 xs k4 d4 e4 l4 o4
end
theorem ints_of {n : Nat} {P : Int → Prop} : ∀ {xs : List V}, (∀ x ∈ xs, ∃ i, x = .int i ∧ P i) → ∃ ks : List Int, xs = ks.map V.int ∧ ∀ k ∈ ks, P k
  | [], _ => ⟨[], rfl, fun _ h => by cases h⟩
  | x :: xs, h => by
    obtain ⟨i, rfl, hi⟩ := h x (List.mem_cons_self ..)
    obtain ⟨ks, rfl, hk⟩ := ints_of (n := n) (P := P) (xs := xs) fun y hy => h y (List.mem_cons_of_mem _ hy)
    refine ⟨i :: ks, rfl, fun k hk2 => ?_⟩
    rcases List.mem_cons.mp hk2 with rfl | h2
    · exact hi
    · exact hk k h2
def sp_law_draws (K : PySem.W.Frag) : Sp := sp1 fun a H Q => ∃ (sa : Addr) (ns : List Int), a = .ref sa ∧ SqL K H sa (ns.map V.int) ∧ ns.length ≤ 63 ∧ ∀ (st sc : Addr) (H' : Hp), H st = none → Same H H' → Dw K st sc ns H' → Q (.ref st) H'
def sp_law_draw (K : PySem.W.Frag) : Sp := sp2 fun a b H Q => ∃ (st sc : Addr) (ns : List Int) (n : Int), a = .ref st ∧ b = .int n ∧ Dw K st sc ns H ∧ 0 < n ∧ n < 2 ^ 60 ∧
  ∀ (d : Int) (H' : Hp), 0 ≤ d → d < n → Kp st H H' → Dw K st sc ns H' → Q (.int d) H'
/-! ### reasons -/
theorem cr_maxDK (K : PySem.W.Frag) {X : Cx} (hc : X.calm = true) (hu : X.A.units + 64 < cLine) (hK : X.K = K := by rfl) : CallR X (.builtin "max") (rMaxD K) := hK ▸ cr_maxD hc hu
theorem isi_tq {K : PySem.W.Frag} {H : Hp} {Q : VK} {p : Addr} {xs : List V} (h : SqT K H p xs) (q : Q (.bl true) H) : rIsi K [.ref p, .ty "tuple"] H Q := by
  refine isi_ty (t := "tuple") ?_ (kit_ty (by decide +kernel)) q
  rcases h with (h | ⟨o, h⟩) | ⟨o, its, n, h1, h2, _⟩
  · exact .base (.tup h)
  · exact .fTuple h
  · exact .kTuple h1 h2
theorem isi_nt {K : PySem.W.Frag} {H : Hp} {Q : VK} (q : Q (.bl false) H) : rIsi K [.non, .ty "tuple"] H Q := isi_ty (.base .non) (kit_ty (by decide +kernel)) q
theorem isi_it {K : PySem.W.Frag} {H : Hp} {Q : VK} {i : Int} (q : Q (.bl false) H) : rIsi K [.int i, .ty "tuple"] H Q := isi_ty (.base (.int i)) (kit_ty (by decide +kernel)) q
theorem isi_lt {K : PySem.W.Frag} {H : Hp} {Q : VK} {p : Addr} {xs : List V} (h : H p = some (.lst xs)) (q : Q (.bl false) H) : rIsi K [.ref p, .ty "tuple"] H Q := isi_ty (.base (.lst h)) (kit_ty (by decide +kernel)) q
theorem isi_nI {K : PySem.W.Frag} {H : Hp} {Q : VK} (q : Q (.bl false) H) : rIsi K [.non, .ty "int"] H Q := isi_ty (.base .non) (kit_ty (by decide +kernel)) q
/-! ### shares: plans, what a search tries, what it leaves -/
abbrev OfT := List (Int × List Int)
def rowO (O : OfT) (x : Int) : List Int := ((O.find? fun r => decide (r.1 = x)).map (·.2)).getD []
def keyO (O : OfT) : List Int := O.map (·.1)
/-- how many blocks a peer has -/
def cP (P : Vc) (q : Int) : Nat := (P.filter fun c => decide (c.2 = q)).length
structure PlanOk (O : OfT) (m : Nat) (P : Vc) : Prop where
  nd : (P.map (·.1)).Nodup
  mem : ∀ c ∈ P, c.1 ∈ keyO O ∧ c.2 ∈ rowO O c.1
  le : ∀ q, cP P q ≤ m
theorem nd_pair {P : Vc} (h : (P.map (·.1)).Nodup) : P.Nodup := by
  induction P with
  | nil => exact List.nodup_nil
  | cons c P ih =>
    rw [List.map_cons, List.nodup_cons] at h
    exact List.nodup_cons.mpr ⟨fun m => h.1 (List.mem_map.mpr ⟨c, m, rfl⟩), ih h.2⟩
theorem nd_un {P : Vc} (h : (P.map (·.1)).Nodup) {x q r : Int} (h1 : (x, q) ∈ P) (h2 : (x, r) ∈ P) : q = r := by
  induction P with
  | nil => cases h1
  | cons c P ih =>
    rw [List.map_cons, List.nodup_cons] at h
    rcases List.mem_cons.mp h1 with e1 | m1
    · rcases List.mem_cons.mp h2 with e2 | m2
      · rw [← e1] at e2; exact (Prod.mk.inj e2).2.symm
      · exact absurd (List.mem_map.mpr ⟨_, m2, rfl⟩) (by rw [← e1] at h; exact h.1)
    · rcases List.mem_cons.mp h2 with e2 | m2
      · exact absurd (List.mem_map.mpr ⟨_, m1, rfl⟩) (by rw [← e2] at h; exact h.1)
      · exact ih h.2 m1 m2
theorem dput_nd {P : Vc} (h : (P.map (·.1)).Nodup) (b p : Int) : ((dput P b p).map (·.1)).Nodup := by
  unfold dput
  by_cases z : (P.any fun x => decide (x.1 = b)) = true
  · rw [if_pos z, List.map_map]
    have e : P.map ((·.1) ∘ fun x => if x.1 = b then (b, p) else x) = P.map (·.1) := List.map_congr_left fun c _ => by
      show (if c.1 = b then (b, p) else c).1 = c.1
      by_cases y : c.1 = b
      · rw [if_pos y]; exact y.symm
      · rw [if_neg y]
    rw [e]; exact h
  · rw [if_neg z, List.map_append, List.nodup_append]
    refine ⟨h, by simp, fun x hx y hy e => z ?_⟩
    obtain ⟨c, hc, rfl⟩ := List.mem_map.mp hx
    have ey : y = b := by simpa using hy
    exact List.any_eq_true.mpr ⟨c, hc, decide_eq_true (e.trans ey)⟩
theorem dput_mem {P : Vc} (h : (P.map (·.1)).Nodup) (b p : Int) (c : Int × Int) : c ∈ dput P b p ↔ (c.1 ≠ b ∧ c ∈ P) ∨ c = (b, p) := by
  unfold dput
  by_cases z : (P.any fun x => decide (x.1 = b)) = true
  · rw [if_pos z, List.mem_map]
    obtain ⟨d, hd, ed⟩ := List.any_eq_true.mp z
    have ed := of_decide_eq_true ed
    constructor
    · rintro ⟨x, hx, rfl⟩
      by_cases y : x.1 = b
      · rw [if_pos y]; exact .inr rfl
      · rw [if_neg y]; exact .inl ⟨y, hx⟩
    · rintro (⟨h1, h2⟩ | rfl)
      · exact ⟨c, h2, by rw [if_neg h1]⟩
      · exact ⟨d, hd, by rw [if_pos ed]⟩
  · rw [if_neg z, List.mem_append, List.mem_singleton]
    constructor
    · rintro (h1 | h1)
      · exact .inl ⟨fun e => z (List.any_eq_true.mpr ⟨c, h1, decide_eq_true e⟩), h1⟩
      · exact .inr h1
    · rintro (h1 | h1)
      · exact .inl h1.2
      · exact .inr h1
theorem cP_le {P P' : Vc} {q : Int} (h : (P'.map (·.1)).Nodup) (sub : ∀ x, (x, q) ∈ P' → (x, q) ∈ P) : cP P' q ≤ cP P q := by
  unfold cP
  refine List.Nodup.length_le_of_subset ((nd_pair h).filter _) fun c hc => ?_
  obtain ⟨h1, h2⟩ := List.mem_filter.mp hc
  have h2 := of_decide_eq_true h2
  refine List.mem_filter.mpr ⟨?_, decide_eq_true h2⟩
  have e : c = (c.1, q) := by rw [← h2]
  rw [e] at h1 ⊢
  exact sub _ h1
theorem cP_lt {P P' : Vc} {q o : Int} (h : (P'.map (·.1)).Nodup) (sub : ∀ x, (x, q) ∈ P' → x ≠ o ∧ (x, q) ∈ P) (ho : (o, q) ∈ P) : cP P' q + 1 ≤ cP P q := by
  unfold cP
  have h1 : (((o, q) :: P'.filter fun c => decide (c.2 = q)).length) ≤ (P.filter fun c => decide (c.2 = q)).length := by
    refine List.Nodup.length_le_of_subset (List.nodup_cons.mpr ⟨fun m => ?_, (nd_pair h).filter _⟩) fun c hc => ?_
    · obtain ⟨h1, _⟩ := List.mem_filter.mp m
      exact (sub _ h1).1 rfl
    · rcases List.mem_cons.mp hc with rfl | hc
      · exact List.mem_filter.mpr ⟨ho, decide_eq_true rfl⟩
      · obtain ⟨h1, h2⟩ := List.mem_filter.mp hc
        have h2 := of_decide_eq_true h2
        refine List.mem_filter.mpr ⟨?_, decide_eq_true h2⟩
        have e : c = (c.1, q) := by rw [← h2]
        rw [e] at h1 ⊢
        exact (sub _ h1).2
  rw [List.length_cons] at h1
  exact h1
theorem cP_put {P : Vc} (h : (P.map (·.1)).Nodup) (b p r : Int) : cP (dput P b p) r ≤ cP P r + (if r = p then 1 else 0) := by
  by_cases e : r = p
  · subst e
    rw [if_pos rfl]
    unfold cP
    have h1 : ((dput P b r).filter fun c => decide (c.2 = r)).length ≤ ((b, r) :: P.filter fun c => decide (c.2 = r)).length := by
      refine List.Nodup.length_le_of_subset ((nd_pair (dput_nd h b r)).filter _) fun c hc => ?_
      obtain ⟨h1, h2⟩ := List.mem_filter.mp hc
      rcases (dput_mem h b r c).mp h1 with z | z
      · exact List.mem_cons_of_mem _ (List.mem_filter.mpr ⟨z.2, h2⟩)
      · rw [z]; exact List.mem_cons_self ..
    rw [List.length_cons] at h1
    exact h1
  · rw [if_neg e, Nat.add_zero]
    refine cP_le (dput_nd h b p) fun x hx => ?_
    rcases (dput_mem h b p _).mp hx with z | z
    · exact z.2
    · exact absurd (Prod.mk.inj z).2 e
/-- a search that moved others and placed b: T were tried before -/
structure Suc (O : OfT) (m : Nat) (P P' : Vc) (b : Int) (T : List Int) : Prop where
  ok : PlanOk O m P'
  key : ∀ x, x ∈ P'.map (·.1) ↔ x ∈ P.map (·.1) ∨ x = b
  new : ∃ q, (b, q) ∈ P' ∧ q ∉ T
  fr : ∀ x, x ≠ b → ∀ q ∈ T, ((x, q) ∈ P' ↔ (x, q) ∈ P)
theorem dput_key {P : Vc} (h : (P.map (·.1)).Nodup) (b p x : Int) : x ∈ (dput P b p).map (·.1) ↔ x ∈ P.map (·.1) ∨ x = b := by
  constructor
  · intro hx
    obtain ⟨c, hc, rfl⟩ := List.mem_map.mp hx
    rcases (dput_mem h b p c).mp hc with z | z
    · exact .inl (List.mem_map.mpr ⟨c, z.2, rfl⟩)
    · rw [z]; exact .inr rfl
  · intro hx
    by_cases e : x = b
    · exact List.mem_map.mpr ⟨(b, p), (dput_mem h b p _).mpr (.inr rfl), e.symm⟩
    · rcases hx with hx | hx
      · obtain ⟨c, hc, rfl⟩ := List.mem_map.mp hx
        exact List.mem_map.mpr ⟨c, (dput_mem h b p c).mpr (.inl ⟨e, hc⟩), rfl⟩
      · exact absurd hx e
theorem Suc.room {O : OfT} {m : Nat} {P : Vc} {b p : Int} {T : List Int} (h : PlanOk O m P) (hb : b ∈ keyO O) (hp : p ∈ rowO O b) (nT : p ∉ T) (lt : cP P p < m) : Suc O m P (dput P b p) b T := by
  refine ⟨⟨dput_nd h.nd b p, fun c hc => ?_, fun q => ?_⟩, dput_key h.nd b p, ⟨p, (dput_mem h.nd b p _).mpr (.inr rfl), nT⟩, fun x hx q hq => ?_⟩
  · rcases (dput_mem h.nd b p c).mp hc with z | z
    · exact h.mem c z.2
    · rw [z]; exact ⟨hb, hp⟩
  · have h1 := cP_put h.nd b p q
    have h2 := h.le q
    by_cases e : q = p
    · rw [if_pos e] at h1; rw [e] at h1 ⊢; omega
    · rw [if_neg e] at h1; omega
  · rw [dput_mem h.nd]
    constructor
    · rintro (z | z)
      · exact z.2
      · exact absurd (Prod.mk.inj z).1 hx
    · exact fun z => .inl ⟨hx, z⟩
theorem Suc.move {O : OfT} {m : Nat} {P P' : Vc} {b p o : Int} {T T1 : List Int} (h : PlanOk O m P) (hb : b ∈ keyO O) (hp : p ∈ rowO O b) (nT : p ∉ T) (ho : (o, p) ∈ P) (hbT : ∀ q, (b, q) ∈ P → q ∈ T) (sT : ∀ q ∈ T, q ∈ T1) (pT : p ∈ T1) (s : Suc O m P P' o T1) :
    Suc O m P (dput P' b p) b T := by
  have hob : o ≠ b := fun e => nT (hbT p (by rw [← e]; exact ho))
  obtain ⟨q', hq', nq'⟩ := s.new
  have noP : (o, p) ∉ P' := fun z => nq' (by rw [nd_un s.ok.nd hq' z]; exact pT)
  refine ⟨⟨dput_nd s.ok.nd b p, fun c hc => ?_, fun q => ?_⟩, fun x => ?_, ⟨p, (dput_mem s.ok.nd b p _).mpr (.inr rfl), nT⟩, fun x hx q hq => ?_⟩
  · rcases (dput_mem s.ok.nd b p c).mp hc with z | z
    · exact s.ok.mem c z.2
    · rw [z]; exact ⟨hb, hp⟩
  · have h1 := cP_put s.ok.nd b p q
    have h2 := s.ok.le q
    by_cases e : q = p
    · rw [if_pos e] at h1
      rw [e] at h1 ⊢
      have h3 := cP_lt (P := P) (P' := P') (q := p) (o := o) s.ok.nd (fun x hx => by
        have hxo : x ≠ o := fun z => noP (by rw [← z]; exact hx)
        exact ⟨hxo, (s.fr x hxo p pT).mp hx⟩) ho
      have h4 := h.le p
      omega
    · rw [if_neg e] at h1; omega
  · rw [dput_key s.ok.nd, s.key]
    constructor
    · rintro ((z | z) | z)
      · exact .inl z
      · exact .inl (by rw [z]; exact List.mem_map.mpr ⟨_, ho, rfl⟩)
      · exact .inr z
    · rintro (z | z)
      · exact .inl (.inl z)
      · exact .inr z
  · rw [dput_mem s.ok.nd]
    have hiff : (x, q) ∈ P' ↔ (x, q) ∈ P := by
      by_cases e : x = o
      · subst e
        constructor
        · intro z
          exact absurd (sT q hq) (by rw [← nd_un s.ok.nd hq' z]; exact nq')
        · intro z
          exact absurd hq (by rw [nd_un h.nd z ho]; exact nT)
      · exact s.fr x e q (sT q hq)
    rw [← hiff]
    constructor
    · rintro (z | z)
      · exact z.2
      · exact absurd (Prod.mk.inj z).1 hx
    · exact fun z => .inl ⟨hx, z⟩
/-- a search that failed: what was tried since T is full, and closed -/
structure Clo (O : OfT) (m : Nat) (P : Vc) (T T' : List Int) : Prop where
  sub : ∀ q ∈ T, q ∈ T'
  full : ∀ q ∈ T', q ∉ T → m ≤ cP P q
  row : ∀ q ∈ T', q ∉ T → ∀ x, (x, q) ∈ P → ∀ r ∈ rowO O x, r ∈ T'
theorem Clo.refl (O : OfT) (m : Nat) (P : Vc) (T : List Int) : Clo O m P T T := ⟨fun _ h => h, fun _ h n => absurd h n, fun _ h n => absurd h n⟩
/-- one more after others -/
theorem Clo.trans {O : OfT} {m : Nat} {P : Vc} {T T1 T2 : List Int} (h : Clo O m P T T1) (g : Clo O m P T1 T2) : Clo O m P T T2 := by
  refine ⟨fun q hq => g.sub q (h.sub q hq), fun q hq n => ?_, fun q hq n x hx r hr => ?_⟩
  · by_cases z : q ∈ T1
    · exact h.full q z n
    · exact g.full q hq z
  · by_cases z : q ∈ T1
    · exact g.sub r (h.row q z n x hx r hr)
    · exact g.row q hq z x hx r hr
theorem Clo.peer {O : OfT} {m : Nat} {P : Vc} {T T' : List Int} {p : Int} (g : Clo O m P (T ++ [p]) T') (hc : m ≤ cP P p) (hr : ∀ x, (x, p) ∈ P → ∀ r ∈ rowO O x, r ∈ T') : Clo O m P T T' := by
  refine ⟨fun q hq => g.sub q (List.mem_append_left _ hq), fun q hq n => ?_, fun q hq n x hx r hr2 => ?_⟩
  · by_cases z : q = p
    · rw [z]; exact hc
    · exact g.full q hq fun m => by
        rcases List.mem_append.mp m with y | y
        · exact n y
        · exact z (List.mem_singleton.mp y)
  · by_cases z : q = p
    · rw [z] at hx; exact hr x hx r hr2
    · exact g.row q hq (fun m => by
        rcases List.mem_append.mp m with y | y
        · exact n y
        · exact z (List.mem_singleton.mp y)) x hx r hr2
/-! what shows a number -/
def Feas (O : OfT) (m : Nat) : Prop := ∃ P : Vc, PlanOk O m P ∧ ∀ x ∈ keyO O, x ∈ P.map (·.1)
structure Nei (O : OfT) (L N : List Int) : Prop where
  nd : N.Nodup
  iff : ∀ q, q ∈ N ↔ ∃ x ∈ L, q ∈ rowO O x
theorem Nei.len {O : OfT} {L N M : List Int} (h : Nei O L N) (g : Nei O L M) : N.length = M.length :=
  Nat.le_antisymm (List.Nodup.length_le_of_subset h.nd fun q hq => (g.iff q).mpr ((h.iff q).mp hq)) (List.Nodup.length_le_of_subset g.nd fun q hq => (h.iff q).mpr ((g.iff q).mp hq))
/-- L shows that one peer has more than m blocks -/
structure Shw (O : OfT) (m : Nat) (L : List Int) : Prop where
  asc : L.Pairwise (· < ·)
  mem : ∀ x ∈ L, x ∈ keyO O
  gt : ∀ N, Nei O L N → m * N.length < L.length
theorem sum_le {m : Nat} {α : Type} (f : α → Nat) : ∀ {l : List α}, (∀ x ∈ l, f x ≤ m) → (l.map f).sum ≤ m * l.length
  | [], _ => by simp
  | x :: l, h => by
    have h1 := h x (List.mem_cons_self ..)
    have h2 := sum_le (m := m) f (l := l) fun y hy => h y (List.mem_cons_of_mem _ hy)
    rw [List.map_cons, List.sum_cons, List.length_cons, Nat.mul_succ]
    omega
theorem le_sum {m : Nat} {α : Type} (f : α → Nat) : ∀ {l : List α}, (∀ x ∈ l, m ≤ f x) → m * l.length ≤ (l.map f).sum
  | [], _ => by simp
  | x :: l, h => by
    have h1 := h x (List.mem_cons_self ..)
    have h2 := le_sum (m := m) f (l := l) fun y hy => h y (List.mem_cons_of_mem _ hy)
    rw [List.map_cons, List.sum_cons, List.length_cons, Nat.mul_succ]
    omega
/-- the blocks of these peers, counted peer by peer -/
theorem sum_cP {P : Vc} : ∀ {N : List Int}, N.Nodup → (N.map (cP P)).sum = (P.filter fun c => decide (c.2 ∈ N)).length
  | [], _ => by
    rw [List.filter_eq_nil_iff.mpr (by simp)]
    rfl
  | q :: N, h => by
    rw [List.nodup_cons] at h
    rw [List.map_cons, List.sum_cons, sum_cP h.2]
    unfold cP
    induction P with
    | nil => rfl
    | cons c P ih =>
      rw [List.filter_cons, List.filter_cons, List.filter_cons]
      by_cases h1 : c.2 = q
      · have h2 : c.2 ∉ N := by rw [h1]; exact h.1
        rw [if_pos (decide_eq_true h1), if_neg (by simp [h2]), if_pos (by simp [h1]), List.length_cons, List.length_cons]
        omega
      · by_cases h2 : c.2 ∈ N
        · rw [if_neg (by simp [h1]), if_pos (by simp [h2]), if_pos (by simp [h1, h2]), List.length_cons, List.length_cons]
          omega
        · rw [if_neg (by simp [h1]), if_neg (by simp [h2]), if_neg (by simp [h1, h2])]
          exact ih
def ddp : List Int → List Int
  | [] => []
  | x :: l => if x ∈ l then ddp l else x :: ddp l
theorem ddp_mem {q : Int} : ∀ {l : List Int}, q ∈ ddp l ↔ q ∈ l
  | [] => Iff.rfl
  | x :: l => by
    have ih := ddp_mem (q := q) (l := l)
    unfold ddp
    by_cases h : x ∈ l
    · rw [if_pos h, ih, List.mem_cons]
      exact ⟨.inr, fun z => z.elim (fun e => by rw [e]; exact h) id⟩
    · rw [if_neg h, List.mem_cons, List.mem_cons, ih]
theorem ddp_nd : ∀ l : List Int, (ddp l).Nodup
  | [] => List.nodup_nil
  | x :: l => by
    unfold ddp
    by_cases h : x ∈ l
    · rw [if_pos h]; exact ddp_nd l
    · rw [if_neg h]; exact List.nodup_cons.mpr ⟨fun m => h (ddp_mem.mp m), ddp_nd l⟩
theorem nei_ex (O : OfT) (L : List Int) : ∃ N, Nei O L N := by
  refine ⟨ddp (L.flatMap (rowO O)), ddp_nd _, fun q => ?_⟩
  rw [ddp_mem, List.mem_flatMap]
theorem Shw.no {O : OfT} {m : Nat} {L : List Int} (h : Shw O m L) : ¬ Feas O m := fun ⟨P, ok, all⟩ => by
  obtain ⟨N, hN⟩ := nei_ex O L
  have h1 := h.gt N hN
  have h2 := sum_le (m := m) (cP P) (l := N) fun q _ => ok.le q
  rw [sum_cP hN.nd] at h2
  have h3 : L.length ≤ (P.filter fun c => decide (c.2 ∈ N)).length := by
    rw [← List.length_map (as := P.filter fun c => decide (c.2 ∈ N)) (·.1)]
    refine List.Nodup.length_le_of_subset (h.asc.imp fun h => Int.ne_of_lt h) fun x hx => ?_
    obtain ⟨c, hc, rfl⟩ := List.mem_map.mp (all x (h.mem x hx))
    exact List.mem_map.mpr ⟨c, List.mem_filter.mpr ⟨hc, decide_eq_true ((hN.iff _).mpr ⟨_, hx, (ok.mem c hc).2⟩)⟩, rfl⟩
  omega
/-- the search for b failed from nothing: b and what the tried ones have -/
theorem Clo.show {O : OfT} {m : Nat} {P : Vc} {b : Int} {T L : List Int} (ok : PlanOk O m P) (h : Clo O m P [] T) (nT : T.Nodup) (hb : ∀ r ∈ rowO O b, r ∈ T) (kb : b ∈ keyO O) (nb : b ∉ P.map (·.1))
    (hs : L.Pairwise (· ≤ ·)) (hp : L.Perm (b :: (P.filter fun c => decide (c.2 ∈ T)).map (·.1))) : Shw O m L := by
  have nd : (b :: (P.filter fun c => decide (c.2 ∈ T)).map (·.1)).Nodup := by
    refine List.nodup_cons.mpr ⟨fun m => nb ?_, ?_⟩
    · obtain ⟨c, hc, e⟩ := List.mem_map.mp m
      exact List.mem_map.mpr ⟨c, (List.mem_filter.mp hc).1, e⟩
    · exact List.Nodup.sublist (List.filter_sublist.map _) ok.nd
  have ndL : L.Nodup := hp.nodup_iff.mpr nd
  refine ⟨?_, fun x hx => ?_, fun N hN => ?_⟩
  · have h2 : L.Pairwise fun a b => a ≤ b ∧ a ≠ b := List.Pairwise.and hs ndL
    exact h2.imp fun h => by omega
  · rcases List.mem_cons.mp (hp.mem_iff.mp hx) with rfl | hx
    · exact kb
    · obtain ⟨c, hc, rfl⟩ := List.mem_map.mp hx
      exact (ok.mem c (List.mem_filter.mp hc).1).1
  · have h1 : N.length ≤ T.length := List.Nodup.length_le_of_subset hN.nd fun q hq => by
      obtain ⟨x, hx, hr⟩ := (hN.iff q).mp hq
      rcases List.mem_cons.mp (hp.mem_iff.mp hx) with rfl | hx
      · exact hb q hr
      · obtain ⟨c, hc, rfl⟩ := List.mem_map.mp hx
        obtain ⟨h3, h4⟩ := List.mem_filter.mp hc
        exact h.row c.2 (of_decide_eq_true h4) (by simp) c.1 h3 q hr
    have h2 := le_sum (m := m) (cP P) (l := T) fun q hq => h.full q hq (by simp)
    rw [sum_cP nT] at h2
    rw [hp.length_eq, List.length_cons, List.length_map]
    have h3 : m * N.length ≤ m * T.length := Nat.mul_le_mul_left m h1
    omega
/-! ### the search as a function -/
def mvsF (f : Vc → List Int → Int → Bool × Vc × List Int) : List Int → Vc → List Int → Bool × Vc × List Int
  | [], P, T => (false, P, T)
  | b :: bs, P, T => match f P T b with
    | (true, P1, T1) => (true, P1, T1)
    | (false, P1, T1) => mvsF f bs P1 T1
def asgF (f : List Int → Vc → List Int → Bool × Vc × List Int) (m : Nat) (b : Int) : List Int → Vc → List Int → Bool × Vc × List Int
  | [], P, T => (false, P, T)
  | q :: qs, P, T => if q ∈ T then asgF f m b qs P T else if cP P q < m then (true, dput P b q, T ++ [q]) else
    match f ((P.filter fun c => decide (c.2 = q)).map (·.1)) P (T ++ [q]) with
    | (true, P1, T1) => (true, dput P1 b q, T1)
    | (false, P1, T1) => asgF f m b qs P1 T1
def asg (O : OfT) (m : Nat) : Nat → Vc → List Int → Int → Bool × Vc × List Int
  | 0, P, T, _ => (false, P, T)
  | n + 1, P, T, b => asgF (mvsF (asg O m n)) m b (rowO O b) P T
theorem mvsF_yes {f : Vc → List Int → Int → Bool × Vc × List Int} {b : Int} {bs : List Int} {P P1 : Vc} {T T1 : List Int} (h : f P T b = (true, P1, T1)) : mvsF f (b :: bs) P T = (true, P1, T1) := by rw [mvsF, h]
theorem mvsF_no {f : Vc → List Int → Int → Bool × Vc × List Int} {b : Int} {bs : List Int} {P P1 : Vc} {T T1 : List Int} (h : f P T b = (false, P1, T1)) : mvsF f (b :: bs) P T = mvsF f bs P1 T1 := by rw [mvsF, h]
theorem asgF_old {f : List Int → Vc → List Int → Bool × Vc × List Int} {m : Nat} {b q : Int} {qs : List Int} {P : Vc} {T : List Int} (h : q ∈ T) : asgF f m b (q :: qs) P T = asgF f m b qs P T := by rw [asgF, if_pos h]
theorem asgF_room {f : List Int → Vc → List Int → Bool × Vc × List Int} {m : Nat} {b q : Int} {qs : List Int} {P : Vc} {T : List Int} (h : q ∉ T) (g : cP P q < m) : asgF f m b (q :: qs) P T = (true, dput P b q, T ++ [q]) := by rw [asgF, if_neg h, if_pos g]
theorem asgF_yes {f : List Int → Vc → List Int → Bool × Vc × List Int} {m : Nat} {b q : Int} {qs : List Int} {P P1 : Vc} {T T1 : List Int} (h : q ∉ T) (g : ¬ cP P q < m) (e : f ((P.filter fun c => decide (c.2 = q)).map (·.1)) P (T ++ [q]) = (true, P1, T1)) : asgF f m b (q :: qs) P T = (true, dput P1 b q, T1) := by rw [asgF, if_neg h, if_neg g, e]
theorem asgF_no {f : List Int → Vc → List Int → Bool × Vc × List Int} {m : Nat} {b q : Int} {qs : List Int} {P P1 : Vc} {T T1 : List Int} (h : q ∉ T) (g : ¬ cP P q < m) (e : f ((P.filter fun c => decide (c.2 = q)).map (·.1)) P (T ++ [q]) = (false, P1, T1)) : asgF f m b (q :: qs) P T = asgF f m b qs P1 T1 := by rw [asgF, if_neg h, if_neg g, e]
def lckF (O : OfT) (m : Nat) : List Int → Vc → Option (List Int)
  | [], _ => none
  | b :: bs, P => match asg O m 10 P [] b with
    | (true, P1, _) => lckF O m bs P1
    | (false, P1, T1) => some ([b] ++ (P1.filter fun c => decide (c.2 ∈ T1)).map (·.1))
theorem lckF_yes {O : OfT} {m : Nat} {b : Int} {bs : List Int} {P P1 : Vc} {T1 : List Int} (h : asg O m 10 P [] b = (true, P1, T1)) : lckF O m (b :: bs) P = lckF O m bs P1 := by rw [lckF, h]
theorem lckF_no {O : OfT} {m : Nat} {b : Int} {bs : List Int} {P P1 : Vc} {T1 : List Int} (h : asg O m 10 P [] b = (false, P1, T1)) : lckF O m (b :: bs) P = some ([b] ++ (P1.filter fun c => decide (c.2 ∈ T1)).map (·.1)) := by rw [lckF, h]
def setW (w : List (Int × Addr)) (x : Int) (q : Addr) : List (Int × Addr) := w.map fun y => if y.1 = x then (y.1, q) else y
def setO (O : OfT) (x : Int) (l : List Int) : OfT := O.map fun r => if r.1 = x then (r.1, l) else r
/-! offers, plans and what was tried, in the heap -/
def dcO (w : List (Int × Addr)) : List (Key × V) := w.map fun x => (Sum.inl x.1, V.ref x.2)
def tks (T : List Int) : List (Key × V) := T.map fun q => (Sum.inl q, V.bl true)
def OfA (K : PySem.W.Frag) (H : Hp) (d : Addr) (O : OfT) : Prop := ∃ w : List (Int × Addr), H d = some (.dK (dcO w)) ∧ Paired (fun x o => x.1 = o.1 ∧ SqT K H x.2 (o.2.map V.int)) w O
structure OOk (O : OfT) : Prop where
  nd : (keyO O).Nodup
  len : O.length ≤ 40
  rows : ∀ r ∈ O, r.2 ≠ [] ∧ r.2.length ≤ 4 ∧ ∀ q ∈ r.2, 1 ≤ q ∧ q ≤ 9
def In9 (T : List Int) : Prop := T.Nodup ∧ ∀ q ∈ T, 1 ≤ q ∧ q ≤ 9
theorem OfA.same {K : PySem.W.Frag} {H H' : Hp} {d : Addr} {O : OfT} (h : OfA K H d O) (s : Same H H') : OfA K H' d O := let ⟨w, h1, h2⟩ := h; ⟨w, s _ _ h1, paired_imp (fun _ _ q => ⟨q.1, same_tup s q.2⟩) h2⟩
theorem val_dcO {R : Addr → List Int → Prop} (x : Int) : ∀ {w : List (Int × Addr)} {O : OfT}, Paired (fun y o => y.1 = o.1 ∧ R y.2 o.2) w O → x ∈ keyO O → ∃ q, valV (dcO w) (Sum.inl x) = some (.ref q) ∧ R q (rowO O x)
  | _, _, .nil, h => by cases h
  | y :: ws, o :: os, .cons h t, hx => by
    have e : valV (dcO (y :: ws)) (Sum.inl x) = if y.1 = x then some (.ref y.2) else valV (dcO ws) (Sum.inl x) := by
      unfold valV dcO
      rw [List.map_cons, List.find?_cons]
      by_cases z : y.1 = x
      · rw [if_pos z, decide_eq_true (congrArg Sum.inl z)]; rfl
      · rw [if_neg z, decide_eq_false fun q => z (Sum.inl.inj q)]
    have e2 : rowO (o :: os) x = if o.1 = x then o.2 else rowO os x := by
      unfold rowO
      rw [List.find?_cons]
      by_cases z : o.1 = x
      · rw [if_pos z, decide_eq_true z]; rfl
      · rw [if_neg z, decide_eq_false z]
    by_cases z : y.1 = x
    · refine ⟨y.2, by rw [e, if_pos z], ?_⟩
      rw [e2, if_pos (h.1.symm.trans z)]
      exact h.2
    · have z2 : ¬ o.1 = x := fun q => z (h.1.trans q)
      rcases List.mem_cons.mp hx with hx | hx
      · exact absurd hx.symm z2
      · obtain ⟨q, h1, h2⟩ := val_dcO x t hx
        exact ⟨q, by rw [e, if_neg z]; exact h1, by rw [e2, if_neg z2]; exact h2⟩
theorem val_tks (x : Int) : ∀ T : List Int, (valV (tks T) (Sum.inl x)).isSome = decide (x ∈ T)
  | [] => rfl
  | q :: T => by
    have ih := val_tks x T
    unfold valV tks at ih ⊢
    rw [List.map_cons, List.find?_cons]
    by_cases z : q = x
    · rw [decide_eq_true (congrArg Sum.inl z)]
      simp [z]
    · rw [decide_eq_false fun e => z (Sum.inl.inj e)]
      have : (x ∈ q :: T) ↔ x ∈ T := by
        rw [List.mem_cons]
        exact ⟨fun h => h.elim (fun e => absurd e.symm z) id, .inr⟩
      rw [decide_eq_decide.mpr this]
      exact ih
theorem tks_none {x : Int} {T : List Int} (h : x ∉ T) : valV (tks T) (Sum.inl x) = none := by
  have := val_tks x T
  rw [decide_eq_false h] at this
  cases e : valV (tks T) (Sum.inl x) with
  | none => rfl
  | some v => rw [e] at this; cases this
theorem put_tks {x : Int} {T : List Int} (h : x ∉ T) : putK (tks T) (Sum.inl x) (V.bl true) = tks (T ++ [x]) := by
  rw [putK_new _ (tks_none h)]
  unfold tks
  rw [List.map_append]
  rfl
theorem row_in {O : OfT} (ok : OOk O) {x : Int} (hx : x ∈ keyO O) : ∃ r ∈ O, r.2 = rowO O x := by
  obtain ⟨r, hr, e⟩ := List.mem_map.mp hx
  have : ∃ r, O.find? (fun r => decide (r.1 = x)) = some r := by
    cases h : O.find? (fun r => decide (r.1 = x)) with
    | some r => exact ⟨r, rfl⟩
    | none =>
      have := List.find?_eq_none.mp h r hr
      simp [e] at this
  obtain ⟨r2, h2⟩ := this
  exact ⟨r2, List.mem_of_find?_eq_some h2, by unfold rowO; rw [h2]; rfl⟩
theorem plan_len {O : OfT} {m : Nat} {P : Vc} (ok : OOk O) (h : PlanOk O m P) : P.length ≤ 40 := by
  have h1 : (P.map (·.1)).length ≤ (keyO O).length := List.Nodup.length_le_of_subset h.nd fun x hx => by
    obtain ⟨c, hc, rfl⟩ := List.mem_map.mp hx
    exact (h.mem c hc).1
  unfold keyO at h1
  rw [List.length_map, List.length_map] at h1
  have := ok.len
  omega
theorem in9_len {T : List Int} (h : In9 T) : T.length ≤ 9 := by
  have h1 := List.Nodup.length_le_of_subset (l₂ := [1, 2, 3, 4, 5, 6, 7, 8, 9]) h.1 fun q hq => by
    have := h.2 q hq
    have : q = 1 ∨ q = 2 ∨ q = 3 ∨ q = 4 ∨ q = 5 ∨ q = 6 ∨ q = 7 ∨ q = 8 ∨ q = 9 := by omega
    simpa using this
  simpa using h1
theorem In9.snoc {T : List Int} {q : Int} (h : In9 T) (n : q ∉ T) (h1 : 1 ≤ q) (h9 : q ≤ 9) : In9 (T ++ [q]) := by
  refine ⟨List.nodup_append.mpr ⟨h.1, by simp, fun x hx y hy e => n (by rw [List.mem_singleton.mp hy] at e; rw [← e]; exact hx)⟩, fun x hx => ?_⟩
  rcases List.mem_append.mp hx with z | z
  · exact h.2 x z
  · rw [List.mem_singleton.mp z]; exact ⟨h1, h9⟩
theorem mem_kvl {P : Vc} {x q : Int} (nd : (P.map (·.1)).Nodup) (h : (x, q) ∈ P) : valV (kvl P) (Sum.inl x) = some (.int q) := by
  induction P with
  | nil => cases h
  | cons c P ih =>
    rw [List.map_cons, List.nodup_cons] at nd
    have e : valV (kvl (c :: P)) (Sum.inl x) = if c.1 = x then some (.int c.2) else valV (kvl P) (Sum.inl x) := by
      unfold valV kvl
      rw [List.map_cons, List.find?_cons]
      by_cases z : c.1 = x
      · rw [if_pos z, decide_eq_true (congrArg Sum.inl z)]; rfl
      · rw [if_neg z, decide_eq_false fun q => z (Sum.inl.inj q)]
    rcases List.mem_cons.mp h with rfl | h
    · rw [e, if_pos rfl]
    · rw [e, if_neg fun z => nd.1 (by rw [z]; exact List.mem_map.mpr ⟨_, h, rfl⟩)]
      exact ih nd.2 h
theorem none_sm {H H' : Hp} {p : Addr} (s : Same H H') (h : H' p = none) : H p = none := by
  cases e : H p with
  | none => rfl
  | some o => rw [s _ _ e] at h; cases h
theorem sm_hid {H H' : Hp} {D : List Addr} (s : Same H H') (h : ∀ y ∈ D, H y = none) : Same H (hid D H') := fun b o e => by
  rw [hid_at fun z => by rw [h b z] at e; cases e]
  exact s _ _ e
theorem sm_fr {H H1 H2 : Hp} {D : List Addr} (s : Same H H1) (f : Fr D H1 H2) (h : ∀ y ∈ D, H y = none) : Same H H2 := fun b o e => f b o (fun z => by rw [h b z] at e; cases e) (s _ _ e)
def sp_assign (K : PySem.W.Frag) (n : Nat) : Sp := fun vs H Q E => ∃ x0 x1 x2 x3 x4, vs = [x0, x1, x2, x3, x4] ∧ ∃ (d p t : Addr) (O : OfT) (P : Vc) (T : List Int) (m : Nat) (b : Int), x0 = .ref d ∧ x1 = .ref p ∧ x2 = .int m ∧ x3 = .int b ∧ x4 = .ref t ∧
  OfA K (hid [p, t] H) d O ∧ OOk O ∧ PlanOk O m P ∧ H p = some (.dK (kvl P)) ∧ H t = some (.dK (tks T)) ∧ p ≠ t ∧ b ∈ keyO O ∧ In9 T ∧ 9 - T.length < n ∧ (∀ q, (b, q) ∈ P → q ∈ T) ∧
  (∀ H' P' T', Fr [p, t] H H' → H' p = some (.dK (kvl P')) → H' t = some (.dK (tks T')) → Suc O m P P' b T → asg O m n P T b = (true, P', T') → Q (.bl true) H') ∧
  (∀ H' T', Fr [p, t] H H' → H' p = some (.dK (kvl P)) → H' t = some (.dK (tks T')) → In9 T' → Clo O m P T T' → (∀ r ∈ rowO O b, r ∈ T') → asg O m n P T b = (false, P, T') → Q (.bl false) H')
def sp_moves_one (K : PySem.W.Frag) (n : Nat) : Sp := fun vs H Q E => ∃ x0 x1 x2 x3 x4, vs = [x0, x1, x2, x3, x4] ∧ ∃ (d p t l : Addr) (O : OfT) (P : Vc) (T bs : List Int) (m : Nat), x0 = .ref d ∧ x1 = .ref p ∧ x2 = .int m ∧ x3 = .ref l ∧ x4 = .ref t ∧
  OfA K (hid [p, t] H) d O ∧ OOk O ∧ PlanOk O m P ∧ H p = some (.dK (kvl P)) ∧ H t = some (.dK (tks T)) ∧ p ≠ t ∧ H l = some (.lst (bs.map V.int)) ∧ (∀ o ∈ bs, ∃ q ∈ T, (o, q) ∈ P) ∧ In9 T ∧ 9 - T.length < n ∧
  (∀ H' P' T' o T1, Fr [p, t] H H' → H' p = some (.dK (kvl P')) → H' t = some (.dK (tks T')) → o ∈ bs → (∀ q ∈ T, q ∈ T1) → Suc O m P P' o T1 → mvsF (asg O m n) bs P T = (true, P', T') → Q (.bl true) H') ∧
  (∀ H' T', Fr [p, t] H H' → H' p = some (.dK (kvl P)) → H' t = some (.dK (tks T')) → In9 T' → Clo O m P T T' → (∀ o ∈ bs, ∀ r ∈ rowO O o, r ∈ T') → mvsF (asg O m n) bs P T = (false, P, T') → Q (.bl false) H')
theorem assign_none {K : PySem.W.Frag} : ∀ vs H Q E, ¬ sp_assign K 0 vs H Q E := fun vs H Q E h => by
  obtain ⟨_, _, _, _, _, _, _, _, _, _, _, _, _, _, _, _, _, _, _, _, _, _, _, _, _, _, _, z, _⟩ := h
  exact absurd z (Nat.not_lt_zero _)
def sp_is_integer (K : PySem.W.Frag) : Sp := sp1 fun x H Q => ((∃ i : Int, x = .int i) ∨ x = .non ∨ ∃ b, x = .bl b) ∧ ((∃ i : Int, x = .int i) → Q (.bl true) H) ∧ ((∀ i : Int, x ≠ .int i) → Q (.bl false) H)
theorem row_of {O : OfT} (nd : (keyO O).Nodup) {r : Int × List Int} (h : r ∈ O) : rowO O r.1 = r.2 := by
  induction O with
  | nil => cases h
  | cons o O ih =>
    unfold keyO at nd
    rw [List.map_cons, List.nodup_cons] at nd
    have e2 : rowO (o :: O) r.1 = if o.1 = r.1 then o.2 else rowO O r.1 := by
      unfold rowO
      rw [List.find?_cons]
      by_cases z : o.1 = r.1
      · rw [if_pos z, decide_eq_true z]; rfl
      · rw [if_neg z, decide_eq_false z]
    rcases List.mem_cons.mp h with e | h
    · rw [e2, if_pos (by rw [e]), e]
    · have z : ¬ o.1 = r.1 := fun z => nd.1 (by rw [z]; exact List.mem_map.mpr ⟨r, h, rfl⟩)
      rw [e2, if_neg z]
      exact ih nd.2 h
theorem Feas.big {O : OfT} (ok : OOk O) {m : Nat} (h : O.length ≤ m) : Feas O m := by
  have ek : (O.map fun r => (r.1, r.2.headD 0)).map (·.1) = keyO O := by rw [List.map_map]; rfl
  refine ⟨O.map fun r => (r.1, r.2.headD 0), ⟨by rw [ek]; exact ok.nd, fun c hc => ?_, fun q => ?_⟩, fun x hx => by rw [ek]; exact hx⟩
  · obtain ⟨r, hr, rfl⟩ := List.mem_map.mp hc
    refine ⟨List.mem_map.mpr ⟨r, hr, rfl⟩, ?_⟩
    show r.2.headD 0 ∈ rowO O r.1
    rw [row_of ok.nd hr]
    have := (ok.rows r hr).1
    cases e : r.2 with
    | nil => exact absurd e this
    | cons a l => exact List.mem_cons_self ..
  · unfold cP
    refine Nat.le_trans (List.length_filter_le ..) ?_
    rw [List.length_map]; exact h
/-- the greatest count of a plan -/
def MC (P : Vc) (k : Nat) : Prop := (∀ q, cP P q ≤ k) ∧ (k = 0 ∨ ∃ q, cP P q = k)
theorem MC.un {P : Vc} {j k : Nat} (h : MC P j) (g : MC P k) : j = k := by
  have h1 : j ≤ k := by
    rcases h.2 with z | ⟨q, z⟩
    · omega
    · have := g.1 q; omega
  have h2 : k ≤ j := by
    rcases g.2 with z | ⟨q, z⟩
    · omega
    · have := h.1 q; omega
  omega
structure Srt (O : OfT) (ks : List Int) : Prop where
  perm : ks.Perm (keyO O)
  asc : ks.Pairwise (· ≤ ·)
def ShB (O : OfT) (m : Int) (bs : List Int) : Prop := (0 < m → bs.Pairwise (· < ·) ∧ (∀ x ∈ bs, x ∈ keyO O) ∧ ∀ N, Nei O bs N → (m - 1) * (N.length : Int) < (bs.length : Int)) ∧ (m ≤ 0 → bs = [])
structure Rgt (O : OfT) (m : Int) (P : Vc) (bs : List Int) : Prop where
  keys : Srt O (P.map (·.1))
  mem : ∀ c ∈ P, c.2 ∈ rowO O c.1
  most : ∃ k : Nat, MC P k ∧ m = k
  shows : ShB O m bs
theorem rgt_of {O : OfT} {m : Nat} {P : Vc} {L : List Int} (srt : Srt O (P.map (·.1))) (ok : PlanOk O m P) (h0 : m = 0 → L = []) (h1 : ∀ q, m = q + 1 → Shw O q L) : Rgt O m P L := by
  refine ⟨srt, fun c hc => (ok.mem c hc).2, ⟨m, ⟨ok.le, ?_⟩, rfl⟩, fun hm => ?_, fun hm => h0 (by omega)⟩
  · cases m with
    | zero => exact .inl rfl
    | succ q =>
      refine .inr ?_
      rcases Classical.em (∃ r, cP P r = q + 1) with z | z
      · exact z
      · refine absurd ⟨P, ⟨ok.nd, ok.mem, fun r => ?_⟩, fun x hx => srt.perm.mem_iff.mpr hx⟩ (h1 q rfl).no
        have h2 := ok.le r
        have h3 : cP P r ≠ q + 1 := fun e => z ⟨r, e⟩
        omega
  · obtain ⟨q, rfl⟩ : ∃ q, m = q + 1 := ⟨m - 1, by omega⟩
    have s := h1 q rfl
    refine ⟨s.asc, s.mem, fun N hN => ?_⟩
    have h2 := s.gt N hN
    have e : ((q + 1 : Nat) : Int) - 1 = (q : Int) := by omega
    rw [e, ← Int.natCast_mul]
    exact Int.ofNat_lt.mpr h2
def Lck (O : OfT) (m : Nat) (L : List Int) : Prop := ∃ ys U, Srt O ys ∧ lckF O m ys [] = some U ∧ L.Perm U ∧ L.Pairwise (· ≤ ·)
/-- a plan made block by block, each block put to the first peer that leaves a plan -/
inductive Grd (m : Nat) : OfT → List Int → Vc → Prop
  | nil (O1 : OfT) : Grd m O1 [] []
  | cons {O1 : OfT} {y p : Int} {ys : List Int} {P : Vc} (pre post : List Int) (h : rowO O1 y = pre ++ p :: post) (no : ∀ q ∈ pre, ¬ Feas (setO O1 y [q]) m) (t : Grd m (setO O1 y [p]) ys P) : Grd m O1 (y :: ys) ((y, p) :: P)
def sp_first_plan (K : PySem.W.Frag) : Sp := sp2 fun x y H Q => ∃ (d : Addr) (O : OfT) (m : Nat), x = .ref d ∧ y = .int m ∧ OfA K H d O ∧ OOk O ∧ m ≤ 100 ∧ Feas O m ∧
  ∀ (r : Addr) (P : Vc) (H' : Hp), Same H H' → Vec K H' r P → Srt O (P.map (·.1)) → PlanOk O m P → (∃ ys, Srt O ys ∧ Grd m O ys P) → Q (.ref r) H'
def sp_share (K : PySem.W.Frag) : Sp := sp1 fun x H Q => ∃ (d : Addr) (O : OfT), x = .ref d ∧ OfA K H d O ∧ OOk O ∧
  ∀ (r p b : Addr) (m : Nat) (P : Vc) (L : List Int) (H' : Hp), Same H H' → SqT K H' r [.int m, .ref p, .ref b] → Vec K H' p P → SqT K H' b (L.map V.int) → m ≤ 40 → L.length ≤ 41 → Rgt O m P L → PlanOk O m P → (∃ ys, Srt O ys ∧ Grd m O ys P) → (m = 0 → L = []) → (∀ q, m = q + 1 → Lck O q L) → Q (.ref r) H'
/-- the plans a judge may see: a list, ints, or pairs of ints -/
inductive PlnK (K : PySem.W.Frag) (O : OfT) (H : Hp) (p : Addr) : Prop → Prop
  | lst (xs : List V) (h : H p = some (.lst xs)) : PlnK K O H p False
  | nums (is : List Int) (h : SqT K H p (is.map V.int)) (h0 : is ≠ []) (hl : is.length = O.length) : PlnK K O H p False
  | prs (P : Vc) (h : Vec K H p P) (hl : P.length ≤ 41) : PlnK K O H p (Srt O (P.map (·.1)) ∧ ∀ c ∈ P, c.2 ∈ rowO O c.1)
inductive BlsK (K : PySem.W.Frag) (O : OfT) (m : Int) (H : Hp) (p : Addr) : Prop → Prop
  | lst (xs : List V) (h : H p = some (.lst xs)) : BlsK K O m H p False
  | non (h : SqT K H p [.non]) : BlsK K O m H p False
  | nums (bs : List Int) (h : SqT K H p (bs.map V.int)) (hl : bs.length ≤ 50) : BlsK K O m H p (ShB O m bs)
def sp_is_plan (K : PySem.W.Frag) : Sp := sp2 fun x y H Q => ∃ (d p : Addr) (O : OfT) (B : Prop), x = .ref d ∧ y = .ref p ∧ OfA K H d O ∧ OOk O ∧ PlnK K O H p B ∧ ∀ (b : Bool) (H' : Hp), Same H H' → (b = true ↔ B) → Q (.bl b) H'
def sp_most_of (K : PySem.W.Frag) : Sp := sp1 fun x H Q => ∃ (a : Addr) (P : Vc), x = .ref a ∧ Vec K H a P ∧ P.length ≤ 41 ∧ ∀ (k : Nat) (H' : Hp), Same H H' → MC P k → Q (.int k) H'
theorem mc_len {P : Vc} {k : Nat} (h : MC P k) : k ≤ P.length := by
  rcases h.2 with z | ⟨q, z⟩
  · omega
  · rw [← z]; unfold cP; exact List.length_filter_le ..
/-- the papers a judge may see, and what it answers -/
inductive PapK (K : PySem.W.Frag) (O : OfT) (H : Hp) : V → Prop → Prop
  | non : PapK K O H .non False
  | num (i : Int) : PapK K O H (.int i) False
  | lst (p : Addr) (xs : List V) (h : H p = some (.lst xs)) : PapK K O H (.ref p) False
  | len (p : Addr) (xs : List V) (h : SqT K H p xs) (n : xs.length ≠ 3) : PapK K O H (.ref p) False
  | bool (p : Addr) (c : Bool) (y z : V) (h : SqT K H p [.bl c, y, z]) : PapK K O H (.ref p) False
  | bad (p a : Addr) (m : Int) (z : V) (h : SqT K H p [.int m, .ref a, z]) (ha : PlnK K O H a False) : PapK K O H (.ref p) False
  | prs (p a b : Addr) (m : Int) (P : Vc) (B : Prop) (h : SqT K H p [.int m, .ref a, .ref b]) (ha : Vec K H a P) (hl : P.length ≤ 41) (hb : BlsK K O m H b B) : PapK K O H (.ref p) ((Srt O (P.map (·.1)) ∧ ∀ c ∈ P, c.2 ∈ rowO O c.1) ∧ (∃ k : Nat, MC P k ∧ m = k) ∧ B)
def sp_judge_share (K : PySem.W.Frag) : Sp := sp2 fun x y H Q => ∃ (d : Addr) (O : OfT) (B : Prop), x = .ref d ∧ OfA K H d O ∧ OOk O ∧ PapK K O H y B ∧ ∀ (b : Bool) (H' : Hp), Same H H' → (b = true ↔ B) → Q (.bl b) H'
theorem PlnK.same {K : PySem.W.Frag} {O : OfT} {H H' : Hp} {p : Addr} {B : Prop} (h : PlnK K O H p B) (s : Same H H') : PlnK K O H' p B := by
  cases h with
  | lst xs h => exact .lst xs (s _ _ h)
  | nums l h h0 hl => exact .nums l (same_tup s h) h0 hl
  | prs P h hl => exact .prs P (h.same s) hl
theorem BlsK.same {K : PySem.W.Frag} {O : OfT} {m : Int} {H H' : Hp} {p : Addr} {B : Prop} (h : BlsK K O m H p B) (s : Same H H') : BlsK K O m H' p B := by
  cases h with
  | lst xs h => exact .lst xs (s _ _ h)
  | non h => exact .non (same_tup s h)
  | nums l h hl => exact .nums l (same_tup s h) hl
def sp_shows (K : PySem.W.Frag) : Sp := sp3 fun x y z H Q => ∃ (d p : Addr) (O : OfT) (m : Int) (B : Prop), x = .ref d ∧ y = .int m ∧ z = .ref p ∧ 0 ≤ m ∧ m ≤ 100 ∧ OfA K H d O ∧ OOk O ∧ BlsK K O m H p B ∧ ∀ (b : Bool) (H' : Hp), Same H H' → (b = true ↔ B) → Q (.bl b) H'
def NM : List Int := [256, 257, 300, 511, 65536, 131071, 4294967296]
def sp_law_offers (K : PySem.W.Frag) : Sp := sp1 fun x H Q => ∃ (st sc : Addr) (ns : List Int), x = .ref st ∧ Dw K st sc ns H ∧
  ∀ (d : Addr) (O : OfT) (H' : Hp), Kp st H H' → Dw K st sc ns H' → OfA K (hid [st] H') d O → OOk O → O.length ≤ 7 → (∀ r ∈ O, r.2.Nodup ∧ r.2.length ≤ 3 ∧ 0 ≤ r.1 ∧ r.1 < 10 ^ 10) → Q (.ref d) H'
def sp_lacking (K : PySem.W.Frag) : Sp := sp2 fun x y H Q => ∃ (d : Addr) (O : OfT) (m : Nat), x = .ref d ∧ y = .int m ∧ OfA K H d O ∧ OOk O ∧ m ≤ 100 ∧
  (∀ H', Same H H' → Feas O m → Q .non H') ∧ (∀ (r : Addr) (L : List Int) (H' : Hp), Same H H' → SqT K H' r (L.map V.int) → L.length ≤ 41 → Shw O m L → Lck O m L → Q (.ref r) H')
def sp_law (K : PySem.W.Frag) : Sp := sp1 fun a H Q => ∃ (sa : Addr) (ns : List Int), a = .ref sa ∧ SqL K H sa (ns.map V.int) ∧ ns.length ≤ 63 ∧ ∀ H', Q (.bl true) H'
/-! ### offers with some rows changed -/
theorem setO_key (O : OfT) (x : Int) (l : List Int) : keyO (setO O x l) = keyO O := by
  unfold keyO setO
  rw [List.map_map]
  refine List.map_congr_left fun r _ => ?_
  show (if r.1 = x then (r.1, l) else r).1 = r.1
  by_cases z : r.1 = x
  · rw [if_pos z]
  · rw [if_neg z]
theorem setO_set (O : OfT) (x : Int) (l k : List Int) : setO (setO O x l) x k = setO O x k := by
  unfold setO
  rw [List.map_map]
  refine List.map_congr_left fun r _ => ?_
  show (if (if r.1 = x then (r.1, l) else r).1 = x then ((if r.1 = x then (r.1, l) else r).1, k) else (if r.1 = x then (r.1, l) else r)) = if r.1 = x then (r.1, k) else r
  by_cases z : r.1 = x
  · rw [if_pos z, if_pos z, if_pos z]
  · rw [if_neg z, if_neg z]
theorem row_set {x : Int} (l : List Int) (y : Int) : ∀ {O : OfT}, x ∈ keyO O → rowO (setO O x l) y = if y = x then l else rowO O y
  | [], h => by cases h
  | o :: O, h => by
    have e1 : ∀ (o : Int × List Int) (O : OfT), rowO (o :: O) y = if o.1 = y then o.2 else rowO O y := fun o O => by
      unfold rowO
      rw [List.find?_cons]
      by_cases z : o.1 = y
      · rw [if_pos z, decide_eq_true z]; rfl
      · rw [if_neg z, decide_eq_false z]
    have e2 : setO (o :: O) x l = (if o.1 = x then (o.1, l) else o) :: setO O x l := rfl
    rw [e2, e1, e1]
    by_cases z : o.1 = x
    · rw [if_pos z]
      show (if o.1 = y then l else rowO (setO O x l) y) = _
      by_cases z2 : o.1 = y
      · rw [if_pos z2, if_pos (z2.symm.trans z)]
      · rw [if_neg z2, if_neg z2]
        by_cases z3 : x ∈ keyO O
        · exact row_set l y z3
        · have : setO O x l = O := by
            unfold setO
            refine (List.map_congr_left fun r hr => ?_).trans (List.map_id _)
            rw [if_neg fun e => z3 (by rw [← e]; exact List.mem_map.mpr ⟨r, hr, rfl⟩)]
            rfl
          rw [this, if_neg fun e => z2 (z.trans e.symm)]
    · rw [if_neg z]
      rcases List.mem_cons.mp h with h | h
      · exact absurd h.symm z
      · rw [row_set l y h]
        by_cases z2 : o.1 = y
        · rw [if_pos z2, if_pos z2, if_neg fun e => z (z2.trans e)]
        · rw [if_neg z2, if_neg z2]
theorem OOk.set {O : OfT} (ok : OOk O) {x p : Int} (h : 1 ≤ p ∧ p ≤ 9) : OOk (setO O x [p]) := by
  refine ⟨by rw [setO_key]; exact ok.nd, by unfold setO; rw [List.length_map]; exact ok.len, fun r hr => ?_⟩
  obtain ⟨o, ho, rfl⟩ := List.mem_map.mp hr
  by_cases z : o.1 = x
  · rw [if_pos z]
    exact ⟨by simp, by simp, fun q hq => by rw [List.mem_singleton.mp hq]; exact h⟩
  · rw [if_neg z]; exact ok.rows o ho
theorem paired_keyO {R : Addr → List Int → Prop} : ∀ {w : List (Int × Addr)} {O : OfT}, Paired (fun x o => x.1 = o.1 ∧ R x.2 o.2) w O → w.map (·.1) = keyO O
  | _, _, .nil => rfl
  | a :: w, o :: O, .cons h t => by
    show a.1 :: w.map (·.1) = o.1 :: keyO O
    rw [h.1, paired_keyO t]
theorem putK_dcO {w : List (Int × Addr)} {x : Int} (q : Addr) (h : x ∈ w.map (·.1)) : putK (dcO w) (Sum.inl x) (.ref q) = dcO (setW w x q) := by
  obtain ⟨y, hy, e⟩ := List.mem_map.mp h
  have hany : ((dcO w).any fun kv => decide (kv.1 = (Sum.inl x : Key))) = true := List.any_eq_true.mpr ⟨(Sum.inl y.1, V.ref y.2), List.mem_map.mpr ⟨y, hy, rfl⟩, decide_eq_true (congrArg Sum.inl e)⟩
  unfold putK
  rw [if_pos hany]
  unfold dcO setW
  rw [List.map_map, List.map_map]
  refine List.map_congr_left fun z _ => ?_
  show (if (Sum.inl z.1 : Key) = Sum.inl x then _ else _) = (fun y : Int × Addr => ((Sum.inl y.1 : Key), V.ref y.2)) (if z.1 = x then (z.1, q) else z)
  by_cases k : z.1 = x
  · rw [if_pos k, if_pos (congrArg Sum.inl k)]
  · rw [if_neg k, if_neg fun e => k (Sum.inl.inj e)]
theorem putK_dcN {w : List (Int × Addr)} {x : Int} (q : Addr) (h : x ∉ w.map (·.1)) : putK (dcO w) (Sum.inl x) (.ref q) = dcO (w ++ [(x, q)]) := by
  unfold putK
  rw [if_neg fun z => ?_]
  · unfold dcO
    rw [List.map_append]
    rfl
  · obtain ⟨c, hc, e⟩ := List.any_eq_true.mp z
    obtain ⟨y, hy, rfl⟩ := List.mem_map.mp hc
    exact h (List.mem_map.mpr ⟨y, hy, Sum.inl.inj (of_decide_eq_true e)⟩)
theorem paired_set {R : Addr → List Int → Prop} {x : Int} {q : Addr} {l : List Int} (hq : R q l) : ∀ {w : List (Int × Addr)} {O : OfT}, Paired (fun x o => x.1 = o.1 ∧ R x.2 o.2) w O → Paired (fun x o => x.1 = o.1 ∧ R x.2 o.2) (setW w x q) (setO O x l)
  | _, _, .nil => .nil
  | a :: w, o :: O, .cons h t => by
    have e1 : setW (a :: w) x q = (if a.1 = x then (a.1, q) else a) :: setW w x q := rfl
    have e2 : setO (o :: O) x l = (if o.1 = x then (o.1, l) else o) :: setO O x l := rfl
    rw [e1, e2]
    refine .cons ?_ (paired_set hq t)
    by_cases z : a.1 = x
    · rw [if_pos z, if_pos (h.1.symm.trans z)]
      exact ⟨h.1, hq⟩
    · rw [if_neg z, if_neg fun e => z (h.1.trans e)]
      exact h
/-- a plan puts a block to one of its peers: so does the plan of the offers with that peer alone -/
theorem Feas.pick {O : OfT} {m : Nat} (f : Feas O m) {x : Int} (hx : x ∈ keyO O) : ∃ q ∈ rowO O x, Feas (setO O x [q]) m := by
  obtain ⟨P, ok, all⟩ := f
  obtain ⟨⟨x', q⟩, hc, rfl⟩ := List.mem_map.mp (all x hx)
  refine ⟨q, (ok.mem _ hc).2, P, ⟨ok.nd, fun c h => ?_, ok.le⟩, fun y hy => all y (by rw [setO_key] at hy; exact hy)⟩
  refine ⟨by rw [setO_key]; exact (ok.mem c h).1, ?_⟩
  rw [row_set _ _ hx]
  by_cases z : c.1 = x'
  · rw [if_pos z]
    have : (x', c.2) ∈ P := by rw [← z]; exact h
    rw [nd_un ok.nd this hc]
    exact List.mem_cons_self ..
  · rw [if_neg z]; exact (ok.mem c h).2
/-- when each block has one peer left, that is the plan -/
theorem plan_last {O O1 : OfT} {m : Nat} {ys : List Int} {P : Vc} (f : Feas O1 m) (hk : keyO O1 = keyO O) (nd : ys.Nodup) (hys : ys.Perm (keyO O)) (one : ∀ y ∈ ys, ∃ p ∈ rowO O y, rowO O1 y = [p]) (e : P.map (·.1) = ys) (hp : ∀ c ∈ P, rowO O1 c.1 = [c.2]) : PlanOk O m P := by
  obtain ⟨R, ok, all⟩ := f
  have hin : ∀ c ∈ P, c ∈ R := fun c hc => by
    have hy : c.1 ∈ ys := by rw [← e]; exact List.mem_map.mpr ⟨c, hc, rfl⟩
    obtain ⟨d, hd, ed⟩ := List.mem_map.mp (all c.1 (by rw [hk]; exact hys.mem_iff.mp hy))
    have h1 := (ok.mem d hd).2
    rw [ed, hp c hc] at h1
    have : d = c := Prod.ext ed (List.mem_singleton.mp h1)
    rw [← this]; exact hd
  refine ⟨by rw [e]; exact nd, fun c hc => ?_, fun q => Nat.le_trans (cP_le (by rw [e]; exact nd) fun x hx => hin _ hx) (ok.le q)⟩
  have hy : c.1 ∈ ys := by rw [← e]; exact List.mem_map.mpr ⟨c, hc, rfl⟩
  obtain ⟨p, hp1, hp2⟩ := one c.1 hy
  refine ⟨hys.mem_iff.mp hy, ?_⟩
  rw [hp c hc] at hp2
  rw [(List.cons.inj hp2).1]
  exact hp1
/-- the heap behind a lock -/
theorem same_unlock {H H1 : Hp} {d : Addr} {od : Obj} {u : HO} (s : Same (upd H d (.frz od u)) H1) (h : H d = some u) : Same H (upd H1 d u) := fun b o e => by
  by_cases z : b = d
  · rw [z, upd_same, ← h, ← z, e]
  · rw [upd_ne z]; exact s b o (by rw [upd_ne z]; exact e)
theorem mem_dcO {x : Int} {q : Addr} : ∀ {w : List (Int × Addr)}, (w.map (·.1)).Nodup → (x, q) ∈ w → valV (dcO w) (Sum.inl x) = some (.ref q)
  | [], _, h => by cases h
  | c :: w, nd, h => by
    rw [List.map_cons, List.nodup_cons] at nd
    have e : valV (dcO (c :: w)) (Sum.inl x) = if c.1 = x then some (.ref c.2) else valV (dcO w) (Sum.inl x) := by
      unfold valV dcO
      rw [List.map_cons, List.find?_cons]
      by_cases z : c.1 = x
      · rw [if_pos z, decide_eq_true (congrArg Sum.inl z)]; rfl
      · rw [if_neg z, decide_eq_false fun q => z (Sum.inl.inj q)]
    rcases List.mem_cons.mp h with h | h
    · rw [e, ← h, if_pos rfl]
    · rw [e, if_neg fun z => nd.1 (by rw [z]; exact List.mem_map.mpr ⟨_, h, rfl⟩)]
      exact mem_dcO nd.2 h
theorem keys_dcO (w : List (Int × Addr)) : (dcO w).map (fun x => x.1) = (w.map (·.1)).map Sum.inl := by
  unfold dcO
  rw [List.map_map, List.map_map]
  rfl
theorem all_refs : ∀ (us : List V), (∀ u ∈ us, ∃ q, u = .ref q) → ∃ qs : List Addr, us = qs.map V.ref
  | [], _ => ⟨[], rfl⟩
  | u :: us, h => by
    obtain ⟨q, e⟩ := h u (List.mem_cons_self ..)
    obtain ⟨qs, e2⟩ := all_refs us fun x m => h x (List.mem_cons_of_mem _ m)
    exact ⟨q :: qs, by rw [e, e2]; rfl⟩
theorem cP_count (q : Int) : ∀ P : Vc, (P.map (·.2)).count q = cP P q
  | [] => rfl
  | c :: P => by
    have ih := cP_count q P
    unfold cP at ih ⊢
    rw [List.map_cons, List.filter_cons]
    by_cases z : c.2 = q
    · rw [if_pos (decide_eq_true z), List.length_cons, ← ih, z, List.count_cons_self]
    · rw [if_neg (by simp [z]), ← ih, List.count_cons_of_ne z]
theorem mc_nil : MC [] 0 := ⟨fun _ => Nat.le_refl _, .inl rfl⟩
theorem mc_of {P : Vc} {m : Int} (h : m ∈ (P.map (·.2)).map fun q => ((cP P q : Nat) : Int)) (g : ∀ y ∈ (P.map (·.2)).map fun q => ((cP P q : Nat) : Int), y ≤ m) : ∃ k : Nat, m = k ∧ MC P k := by
  obtain ⟨q, hq, rfl⟩ := List.mem_map.mp h
  refine ⟨cP P q, rfl, fun r => ?_, .inr ⟨q, rfl⟩⟩
  by_cases z : r ∈ P.map (·.2)
  · have := g _ (List.mem_map.mpr ⟨r, z, rfl⟩)
    exact Int.ofNat_le.mp this
  · have e : cP P r = 0 := by rw [← cP_count]; exact List.count_eq_zero.mpr z
    rw [e]; exact Nat.zero_le _
theorem prs_get {K : PySem.W.Frag} {H : Hp} {x : V} : ∀ {ps : List Addr} {P : Vc}, Prs K H ps P → x ∈ ps.map V.ref → ∃ p c, x = .ref p ∧ c ∈ P ∧ SqT K H p [.int c.1, .int c.2]
  | _, _, .nil, h => by cases h
  | p :: ps, c :: P, .cons h t, hx => by
    rcases List.mem_cons.mp hx with e | hx
    · exact ⟨p, c, e, List.mem_cons_self .., h⟩
    · obtain ⟨p, c, h1, h2, h3⟩ := prs_get t hx
      exact ⟨p, c, h1, List.mem_cons_of_mem _ h2, h3⟩
/-- [e for x in t], t a tuple of pairs -/
theorem lc_prs {K : PySem.W.Frag} {a : Addr} {ps : List Addr} {P : Vc} {g : TG} {te : TE} {vs : List Nat} {σ : L2.St} {Da : Addr} {H0 : Hp} {Q : VK} (hD : H0 Da = none) (hl : SqT K H0 a (ps.map V.ref)) (hP : Prs K H0 ps P) (hn : ps.length ≤ 1000000) (f : Int × Int → V)
    (hs : ∀ (p : Addr) (c : Int × Int) (H2 : Hp) (C : VK) (E : Hp → Prop), c ∈ P → SqT K H2 p [.int c.1, .int c.2] → Same H0 H2 → (∀ H3, Same H2 H3 → C (f c) H3) →
      g (.ref p) (wipe σ vs) H2 fun σ2 H2 => wipe σ2 vs = wipe σ vs ∧ tYes σ2 H2 fun b H3 => if b = true then te σ2 H3 C else E H3)
    (hd : ∀ (H : Hp), Same H0 H → H Da = some (.lst (P.map f)) → Q (.ref Da) H) : LcB (Itt K a) g tYes te vs σ Da H0 Q := by
  have hlen : ps.length = P.length := by
    clear hl hn hs hd
    induction hP with
    | nil => rfl
    | cons _ _ ih => rw [List.length_cons, List.length_cons, ih]
  refine lc_it walk_tup (fun i H2 => Same H0 H2 ∧ H2 Da = some (.lst ((P.take i).map f))) ⟨same_new hD, upd_same⟩ (fun i H2 _ q => same_tup q.1 hl) (fun i x H2 H3 hi q y => ?_) (fun H2 q => hd H2 q.1 (by rw [List.length_map, hlen, List.take_length] at q; exact q.2))
  obtain ⟨s4, e4⟩ := q
  obtain ⟨rfl, hx⟩ := y
  rw [List.getElem?_map] at hx
  obtain ⟨p, hp, rfl⟩ := Option.map_eq_some_iff.mp hx
  have hi2 : i < P.length := by rw [← hlen]; exact (List.getElem?_eq_some_iff.mp hp).1
  have hc : P[i]? = some P[i] := List.getElem?_eq_getElem hi2
  generalize P[i] = c at hc
  have hpc : SqT K H0 p [.int c.1, .int c.2] := by
    clear hD hl hn hs hd s4 e4 hx hi hi2 hlen
    induction hP generalizing i with
    | nil => cases hp
    | cons h t ih =>
      cases i with
      | zero => cases hp; cases hc; exact h
      | succ i => exact ih i hp hc
  refine hs p c H3 _ _ (List.mem_of_getElem? hc) (same_tup s4 hpc) s4 fun H5 s5 => ?_
  refine ⟨_, s5 _ _ e4, Nat.lt_of_le_of_lt (by rw [List.length_map, List.length_take]; omega : _ ≤ 1000000) (by decide), Same.mut (s4.trans s5) hD, ?_⟩
  rw [upd_same, List.take_succ, hc, List.map_append]
  rfl
theorem srt_un {O : OfT} {a b : List Int} (h : Srt O a) (g : Srt O b) : a = b :=
  List.Perm.eq_of_pairwise (fun x y _ _ h1 h2 => Int.le_antisymm h1 h2) h.asc g.asc (h.perm.trans g.perm.symm)
theorem srt_len {O : OfT} {a : List Int} (h : Srt O a) : a.length = O.length := by
  have := h.perm.length_eq
  unfold keyO at this
  rw [List.length_map] at this
  exact this
theorem dcO_len {R : Addr → List Int → Prop} {w : List (Int × Addr)} {O : OfT} (h : Paired (fun x o => x.1 = o.1 ∧ R x.2 o.2) w O) : (dcO w).length = O.length := by
  unfold dcO
  rw [List.length_map]
  exact paired_len h
theorem prs_at {K : PySem.W.Frag} {H : Hp} : ∀ {ps : List Addr} {P : Vc} {i : Nat} {x : V}, Prs K H ps P → (ps.map V.ref)[i]? = some x → ∃ p c, x = .ref p ∧ P[i]? = some c ∧ SqT K H p [.int c.1, .int c.2]
  | _, _, _, _, .nil, h => by simp at h
  | p :: ps, c :: P, 0, _, .cons h t, hx => by
    have e := Option.some.inj (show some (V.ref p) = some _ from hx)
    exact ⟨p, c, e.symm, rfl, h⟩
  | p :: ps, c :: P, i + 1, _, .cons h t, hx => prs_at (ps := ps) (P := P) (i := i) t (by rw [List.map_cons, List.getElem?_cons_succ] at hx; exact hx)
theorem flat_nums (L : List Int) : (L.map V.int).all flatV = true := by
  rw [List.all_map]
  exact List.all_eq_true.mpr fun x _ => rfl
theorem inV_nums (x : Int) (L : List Int) : inV (.int x) (L.map V.int) = decide (x ∈ L) := by
  unfold inV
  rw [List.any_map]
  by_cases h : x ∈ L
  · rw [decide_eq_true h]
    exact List.any_eq_true.mpr ⟨x, h, by simp [eqV]⟩
  · rw [decide_eq_false h]
    refine Bool.eq_false_iff.mpr fun z => h ?_
    obtain ⟨y, hy, e⟩ := List.any_eq_true.mp z
    have : y = x := by simpa [eqV] using e
    rw [← this]; exact hy
theorem in_ints {K : PySem.W.Frag} {H : Hp} {Q : VK} {r : Addr} {x : Int} {L : List Int} (h : SqT K H r (L.map V.int)) (q : Q (.bl (!decide (x ∈ L))) H) : rIn K true (.int x) (.ref r) H Q :=
  ⟨r, _, rfl, .inr h, rfl, flat_nums L, by rw [inV_nums]; exact q⟩
theorem val_keyO (x : Int) (w : List (Int × Addr)) : (valV (dcO w) (Sum.inl x)).isSome = decide (x ∈ w.map (·.1)) := by
  induction w with
  | nil => rfl
  | cons c w ih =>
    have e : valV (dcO (c :: w)) (Sum.inl x) = if c.1 = x then some (.ref c.2) else valV (dcO w) (Sum.inl x) := by
      unfold valV dcO
      rw [List.map_cons, List.find?_cons]
      by_cases z : c.1 = x
      · rw [if_pos z, decide_eq_true (congrArg Sum.inl z)]; rfl
      · rw [if_neg z, decide_eq_false fun q => z (Sum.inl.inj q)]
    rw [e, List.map_cons]
    by_cases z : c.1 = x
    · rw [if_pos z, z, decide_eq_true (List.mem_cons_self ..)]; rfl
    · rw [if_neg z, ih]
      refine decide_eq_decide.mpr ?_
      rw [List.mem_cons]
      exact ⟨.inr, fun h => h.elim (fun e => absurd e.symm z) id⟩
theorem asc_iff : ∀ bs : List Int, (∀ j, j + 1 < bs.length → bs.getD j 0 < bs.getD (j + 1) 0) ↔ bs.Pairwise (· < ·)
  | [] => ⟨fun _ => List.Pairwise.nil, fun _ j h => absurd h (by simp)⟩
  | [a] => ⟨fun _ => List.pairwise_singleton _ _, fun _ j h => absurd h (by simp)⟩
  | a :: b :: l => by
    have ih := asc_iff (b :: l)
    constructor
    · intro h
      have p := ih.mp fun j hj => h (j + 1) (by rw [List.length_cons]; omega)
      refine List.pairwise_cons.mpr ⟨fun x hx => ?_, p⟩
      have h0 : a < b := h 0 (by simp)
      rcases List.mem_cons.mp hx with e | hx
      · rw [e]; exact h0
      · exact Int.lt_trans h0 ((List.pairwise_cons.mp p).1 x hx)
    · intro p j hj
      obtain ⟨p1, p2⟩ := List.pairwise_cons.mp p
      cases j with
      | zero => exact p1 b (List.mem_cons_self ..)
      | succ j => exact ih.mpr p2 j (by rw [List.length_cons] at hj; omega)
theorem prd_app {α β : Type} {R : α → β → Prop} : ∀ {xs us : List α} {ys vs : List β}, Paired R xs ys → Paired R us vs → Paired R (xs ++ us) (ys ++ vs)
  | _, _, _, _, .nil, h => h
  | _, _, _, _, .cons a t, h => .cons a (prd_app t h)
/-! ### dicts of numbers, each with True: merged -/
def addN (N L : List Int) : List Int := L.foldl (fun acc q => if q ∈ acc then acc else acc ++ [q]) N
theorem addN_mem (q : Int) : ∀ (L N : List Int), q ∈ addN N L ↔ q ∈ N ∨ q ∈ L
  | [], N => by simp [addN]
  | x :: L, N => by
    show q ∈ addN (if x ∈ N then N else N ++ [x]) L ↔ _
    rw [addN_mem q L]
    by_cases h : x ∈ N
    · rw [if_pos h, List.mem_cons]
      exact ⟨fun z => z.elim .inl fun z => .inr (.inr z), fun z => z.elim .inl fun z => z.elim (fun e => .inl (by rw [e]; exact h)) .inr⟩
    · rw [if_neg h, List.mem_append, List.mem_singleton, List.mem_cons, or_assoc]
theorem addN_nd : ∀ (L : List Int) {N : List Int}, N.Nodup → (addN N L).Nodup
  | [], N, h => h
  | x :: L, N, h => by
    show (addN (if x ∈ N then N else N ++ [x]) L).Nodup
    refine addN_nd L ?_
    by_cases z : x ∈ N
    · rw [if_pos z]; exact h
    · rw [if_neg z]
      exact List.nodup_append.mpr ⟨h, by simp, fun a ha b hb e => z (by rw [← List.mem_singleton.mp hb, ← e]; exact ha)⟩
theorem addN_len : ∀ (L N : List Int), (addN N L).length ≤ N.length + L.length
  | [], N => Nat.le_refl _
  | x :: L, N => by
    show (addN (if x ∈ N then N else N ++ [x]) L).length ≤ _
    have h := addN_len L (if x ∈ N then N else N ++ [x])
    have h2 : (if x ∈ N then N else N ++ [x]).length ≤ N.length + 1 := by
      by_cases z : x ∈ N
      · rw [if_pos z]; omega
      · rw [if_neg z, List.length_append]; exact Nat.le_refl _
    rw [List.length_cons]
    omega
theorem put_tks2 {x : Int} {T : List Int} (h : x ∈ T) : putK (tks T) (Sum.inl x) (V.bl true) = tks T := by
  have hany : ((tks T).any fun kv => decide (kv.1 = (Sum.inl x : L2.Key))) = true := List.any_eq_true.mpr ⟨(Sum.inl x, V.bl true), List.mem_map.mpr ⟨x, h, rfl⟩, decide_eq_true rfl⟩
  unfold putK
  rw [if_pos hany]
  unfold tks
  rw [List.map_map]
  refine List.map_congr_left fun q _ => ?_
  show (if (Sum.inl q : L2.Key) = Sum.inl x then ((Sum.inl q : L2.Key), V.bl true) else (Sum.inl q, V.bl true)) = (Sum.inl q, V.bl true)
  by_cases e : (Sum.inl q : L2.Key) = Sum.inl x
  · rw [if_pos e]
  · rw [if_neg e]
theorem merge_tks : ∀ (L N : List Int), mergeK (tks N) (tks L) = tks (addN N L)
  | [], N => rfl
  | x :: L, N => by
    show mergeK (putK (tks N) (Sum.inl x) (V.bl true)) (tks L) = tks (addN (if x ∈ N then N else N ++ [x]) L)
    by_cases h : x ∈ N
    · rw [if_pos h, put_tks2 h]; exact merge_tks L N
    · rw [if_neg h, put_tks h]; exact merge_tks L _
theorem asc_sorted {bs ys : List Int} (hp : ys.Perm (addN [] bs)) (hs : ys.Pairwise (· ≤ ·)) : bs = ys ↔ bs.Pairwise (· < ·) := by
  have nd : (addN [] bs).Nodup := addN_nd bs List.nodup_nil
  constructor
  · rintro rfl
    have h2 : bs.Pairwise fun a b => a ≤ b ∧ a ≠ b := List.Pairwise.and hs (hp.nodup_iff.mpr nd)
    exact h2.imp fun h => by omega
  · intro h
    have nb : bs.Nodup := h.imp fun h => Int.ne_of_lt h
    have p2 : bs.Perm ys := by
      refine List.Perm.trans ?_ hp.symm
      exact (List.perm_ext_iff_of_nodup nb nd).mpr fun q => by rw [addN_mem]; simp
    exact List.Perm.eq_of_pairwise (fun x y _ _ h1 h2 => Int.le_antisymm h1 h2) (h.imp fun h => Int.le_of_lt h) hs p2
theorem dp_li {K : PySem.W.Frag} {H : Hp} {a : Addr} {xs : List Int} (h : SqL K H a (xs.map V.int)) : Dp K H (.ref a) (.list (Di xs)) := .lst h (dpAll_ints xs)
theorem e_eqPL {K : PySem.W.Frag} {H : Hp} {Q : VK} {a b : Addr} {xs ys : List Int} (h1 : SqL K H a (xs.map V.int)) (h2 : SqL K H b (ys.map V.int)) (q : Q (.bl (decide (xs = ys))) H) : rEqP K (.ref a) (.ref b) H Q :=
  e_eqPV (dp_li h1) (dp_li h2) (by simp [PyData.plain, plain_ints]) (by simp [PyData.plain, plain_ints]) (by
    show PyData.depthAll (Di xs) + 1 ≤ 60
    rw [Vf.depthAll_ints]; decide) (eqvAll_ints xs ys) q
theorem e_nePL {K : PySem.W.Frag} {H : Hp} {Q : VK} {a b : Addr} {xs ys : List Int} (h1 : SqL K H a (xs.map V.int)) (h2 : SqL K H b (ys.map V.int)) (q : Q (.bl (!decide (xs = ys))) H) : rNeP K (.ref a) (.ref b) H Q :=
  e_nePV (dp_li h1) (dp_li h2) (by simp [PyData.plain, plain_ints]) (by simp [PyData.plain, plain_ints]) (by
    show PyData.depthAll (Di xs) + 1 ≤ 60
    rw [Vf.depthAll_ints]; decide) (eqvAll_ints xs ys) q
/-- [e for x in t if c], t a tuple -/
theorem lc_tupF {K : PySem.W.Frag} {a : Addr} {xs : List V} {g : TG} {tt : TT} {te : TE} {vs : List Nat} {σ : L2.St} {Da : Addr} {H0 : Hp} {Q : VK} (hD : H0 Da = none) (hl : SqT K H0 a xs) (hn : xs.length ≤ 1000000) (p : V → Bool) (f : V → V)
    (hs : ∀ (x : V) (H2 : Hp) (C : VK) (E : Hp → Prop), x ∈ xs → Same H0 H2 → (p x = true → ∀ H3, Same H2 H3 → C (f x) H3) → (p x = false → ∀ H3, Same H2 H3 → E H3) →
      g x (wipe σ vs) H2 fun σ2 H2 => wipe σ2 vs = wipe σ vs ∧ tt σ2 H2 fun b H3 => if b = true then te σ2 H3 C else E H3)
    (hd : ∀ (H : Hp), Same H0 H → H Da = some (.lst ((xs.filter p).map f)) → Q (.ref Da) H) : LcB (Itt K a) g tt te vs σ Da H0 Q := by
  refine lc_it walk_tup (fun i H2 => Same H0 H2 ∧ H2 Da = some (.lst (((xs.take i).filter p).map f))) ⟨same_new hD, upd_same⟩ (fun i H2 _ q => same_tup q.1 hl) (fun i x H2 H3 hi q y => ?_) (fun H2 q => hd H2 q.1 (by rw [List.take_length] at q; exact q.2))
  obtain ⟨s4, e4⟩ := q
  obtain ⟨rfl, hx⟩ := y
  have ht : xs.take (i + 1) = xs.take i ++ [x] := by rw [List.take_succ, hx]; rfl
  refine hs x H3 _ _ (List.mem_of_getElem? hx) s4 (fun hp H5 s5 => ?_) (fun hp H5 s5 => ?_)
  · refine ⟨_, s5 _ _ e4, Nat.lt_of_le_of_lt (Nat.le_trans (by rw [List.length_map]; exact List.length_filter_le ..) (by rw [List.length_take]; omega : _ ≤ 1000000)) (by decide), Same.mut (s4.trans s5) hD, ?_⟩
    rw [upd_same, ht, List.filter_append, List.filter_cons_of_pos hp, List.map_append]
    rfl
  · refine ⟨s4.trans s5, ?_⟩
    rw [s5 _ _ e4, ht, List.filter_append, List.filter_cons_of_neg (by rw [hp]; exact Bool.false_ne_true), List.filter_nil, List.append_nil]
/-- [.. for x in t if c], t a tuple of pairs: how many -/
theorem lc_prsF {K : PySem.W.Frag} {a : Addr} {ps : List Addr} {P : Vc} {g : TG} {tt : TT} {te : TE} {vs : List Nat} {σ : L2.St} {Da : Addr} {H0 : Hp} {Q : VK} (hD : H0 Da = none) (hl : SqT K H0 a (ps.map V.ref)) (hP : Prs K H0 ps P) (hn : ps.length ≤ 1000000) (f : Int × Int → Bool)
    (hs : ∀ (p : Addr) (c : Int × Int) (H2 : Hp) (C : VK) (E : Hp → Prop), c ∈ P → SqT K H2 p [.int c.1, .int c.2] → Same H0 H2 → (f c = true → ∀ x H3, Same H2 H3 → C x H3) → (f c = false → ∀ H3, Same H2 H3 → E H3) →
      g (.ref p) (wipe σ vs) H2 fun σ2 H2 => wipe σ2 vs = wipe σ vs ∧ tt σ2 H2 fun b H3 => if b = true then te σ2 H3 C else E H3)
    (hd : ∀ (H : Hp) (xs : List V), Same H0 H → H Da = some (.lst xs) → xs.length = (P.filter f).length → Q (.ref Da) H) : LcB (Itt K a) g tt te vs σ Da H0 Q := by
  have hlen : ps.length = P.length := paired_len hP
  refine lc_it walk_tup (fun i H2 => Same H0 H2 ∧ ∃ xs, H2 Da = some (.lst xs) ∧ xs.length = ((P.take i).filter f).length) ⟨same_new hD, [], upd_same, rfl⟩ (fun i H2 _ q => same_tup q.1 hl) (fun i x H2 H3 hi q y => ?_) (fun H2 q => ?_)
  · obtain ⟨s4, xs, e4, l4⟩ := q
    obtain ⟨rfl, hx⟩ := y
    obtain ⟨p, c, rfl, hc, hpc⟩ := prs_at hP hx
    have ht : P.take (i + 1) = P.take i ++ [c] := by rw [List.take_succ, hc]; rfl
    refine hs p c H3 _ _ (List.mem_of_getElem? hc) (same_tup s4 hpc) s4 (fun hp v H5 s5 => ?_) (fun hp H5 s5 => ?_)
    · refine ⟨_, s5 _ _ e4, Nat.lt_of_le_of_lt (Nat.le_trans (by rw [l4]; exact List.length_filter_le ..) (by rw [List.length_take]; omega : _ ≤ 1000000)) (by decide), Same.mut (s4.trans s5) hD, xs ++ [v], upd_same, ?_⟩
      rw [ht, List.filter_append, List.filter_cons_of_pos hp, List.length_append, List.length_append, l4]
      rfl
    · refine ⟨s4.trans s5, xs, s5 _ _ e4, ?_⟩
      rw [ht, List.filter_append, List.filter_cons_of_neg (by rw [hp]; exact Bool.false_ne_true), List.filter_nil, List.append_nil, l4]
  · obtain ⟨s4, xs, e4, l4⟩ := q
    rw [List.length_map, hlen, List.take_length] at l4
    exact hd H2 xs s4 e4 l4
theorem filter_none {α : Type} {f : α → Bool} {l : List α} : (l.filter f).length = 0 ↔ ∀ c ∈ l, f c = false := by
  rw [List.length_eq_zero_iff, List.filter_eq_nil_iff]
  exact ⟨fun h c hc => Bool.eq_false_iff.mpr (h c hc), fun h c hc => by rw [h c hc]; exact Bool.false_ne_true⟩
theorem mc_of0 {P : Vc} {m : Int} (h : m ∈ [0] ++ ((P.map (·.2)).map fun q => ((cP P q : Nat) : Int))) (g : ∀ y ∈ [0] ++ ((P.map (·.2)).map fun q => ((cP P q : Nat) : Int)), y ≤ m) : ∃ k : Nat, m = k ∧ MC P k := by
  by_cases z : m ∈ (P.map (·.2)).map fun q => ((cP P q : Nat) : Int)
  · exact mc_of z fun y hy => g y (List.mem_append_right _ hy)
  · rcases List.mem_append.mp h with y | y
    · have e := List.mem_singleton.mp y
      subst e
      refine ⟨0, rfl, fun q => ?_, .inl rfl⟩
      by_cases hq : q ∈ P.map (·.2)
      · have := g _ (List.mem_append_right _ (List.mem_map.mpr ⟨q, hq, rfl⟩))
        exact Int.ofNat_le.mp this
      · have e : cP P q = 0 := by rw [← cP_count]; exact List.count_eq_zero.mpr hq
        rw [e]; exact Nat.le_refl _
    · exact absurd y z
theorem tks_of {K : PySem.W.Frag} {H : Hp} : ∀ {us : List V} {L : List Int}, us.length = L.length → (∀ (i : Nat) (v : V), us[i]? = some v → ∃ (q : Addr) (y : Int), v = V.ref q ∧ L[i]? = some y ∧ SqT K H q [.int y, .bl true]) → ∃ qs : List Addr, us = qs.map V.ref ∧ Paired (fun p kv => SqT K H p [kV kv.1, kv.2]) qs (tks L)
  | [], [], _, _ => ⟨[], rfl, .nil⟩
  | [], y :: L, h, _ => by cases h
  | u :: us, [], h, _ => by cases h
  | u :: us, y :: L, h, g => by
    obtain ⟨qs, e, p⟩ := tks_of (us := us) (L := L) (Nat.succ.inj h) fun i v hi => g (i + 1) v (by rw [List.getElem?_cons_succ]; exact hi)
    obtain ⟨q, y2, h1, h2, h3⟩ := g 0 u rfl
    cases (Option.some.inj (show some y = some y2 from h2))
    exact ⟨q :: qs, by rw [h1, e]; rfl, .cons h3 p⟩
/-- [(x, True) for x in ..], as what dict takes: the step is told at the end -/
theorem lc_tks {J : It} {n : Nat} {G : Hp → Prop} {Y : Nat → Hp → V → Hp → Prop} {K : PySem.W.Frag} {L : List Int} (w : Walk J n G Y) (hL : n = L.length) {g : TG} {te : TE} {vs : List Nat} {σ : L2.St} {Da : Addr} {H0 : Hp} {Q : VK} (hD : H0 Da = none) (hn : n ≤ 1000000)
    (hG : ∀ H, Same H0 H → G H) (hY : ∀ i H x H', Y i H x H' → H' = H ∧ (L.map V.int)[i]? = some x)
    (hs : ∀ (y : Int) (H : Hp) (C : VK) (E : Hp → Prop), (∀ q, H q = none → C (.ref q) (upd H q (.tup [.int y, .bl true]))) →
      g (.int y) (wipe σ vs) H fun σ2 H2 => wipe σ2 vs = wipe σ vs ∧ tYes σ2 H2 fun b H3 => if b = true then te σ2 H3 C else E H3)
    (hd : ∀ (H : Hp) (qs : List Addr), Same H0 H → H Da = some (.lst (qs.map V.ref)) → Paired (fun p kv => SqT K H p [kV kv.1, kv.2]) qs (tks L) → Q (.ref Da) H) : LcB J g tYes te vs σ Da H0 Q := by
  refine lc_rel w hD hn hG (fun (i : Nat) (v : V) (H1 : Hp) => ∃ (q : Addr) (y : Int), v = V.ref q ∧ L[i]? = some y ∧ SqT K H1 q [.int y, .bl true]) (fun i v H1 H2 h s => ?_) (fun i y H1 H2 C E acc hi s1 e1 hy hC => ?_) (fun H7 us s7 e7 l7 hr7 => ?_)
  · obtain ⟨q, y, h1, h2, h3⟩ := h
    exact ⟨q, y, h1, h2, same_tup s h3⟩
  · obtain ⟨rfl, hx⟩ := hY _ _ _ _ hy
    rw [List.getElem?_map] at hx
    obtain ⟨b, hb, rfl⟩ := Option.map_eq_some_iff.mp hx
    refine hs b H2 C E fun q hq => hC _ _ (same_new hq) ⟨q, b, rfl, hb, SqT.of ?_⟩
    rw [hid_at fun m => by rw [List.mem_singleton.mp m, e1] at hq; cases hq]
    exact upd_same
  · obtain ⟨qs, rfl, hq⟩ := tks_of (l7.trans hL) fun i v hi => hr7 i v hi
    exact hd H7 qs s7 e7 (paired_imp (fun _ _ h => same_tup hid_sub h) hq)
theorem Dw.nt {K : PySem.W.Frag} {st sc : Addr} {ns : List Int} {H : Hp} (d : Dw K st sc ns H) : ∀ x ∈ [st], NT H x := fun x m => by
  obtain ⟨_, _, _, _, _, _, h⟩ := d.s
  rw [List.mem_singleton.mp m]
  exact nt_lst h
theorem prd_take {α β : Type} {R : α → β → Prop} : ∀ (n : Nat) {xs : List α} {ys : List β}, Paired R xs ys → Paired R (xs.take n) (ys.take n)
  | 0, _, _, _ => .nil
  | n + 1, _, _, .nil => .nil
  | n + 1, _, _, .cons a t => .cons a (prd_take n t)
theorem prd_drop {α β : Type} {R : α → β → Prop} : ∀ (n : Nat) {xs : List α} {ys : List β}, Paired R xs ys → Paired R (xs.drop n) (ys.drop n)
  | 0, _, _, h => h
  | n + 1, _, _, .nil => .nil
  | n + 1, _, _, .cons a t => prd_drop n t
theorem e_catA {K : PySem.W.Frag} {H : Hp} {Q : VK} {a b : Addr} {xs ys : List V} (h1 : SqT K H a xs) (h2 : SqT K H b ys) (hn : xs.length + ys.length ≤ 1000) (q : ∀ r H', Same H H' → SqT K H' r (xs ++ ys) → Q (.ref r) H') : rCatA K (.ref a) (.ref b) H Q :=
  ⟨a, b, xs, ys, rfl, rfl, h1, h2, Nat.le_trans hn (by decide), fun e => q b H (Same.refl H) (by rw [e]; exact h2), fun _ e => q a H (Same.refl H) (by rw [e, List.append_nil]; exact h1), fun _ _ p hp => q p _ (same_new hp) (SqT.of upd_same)⟩
theorem vec_len {K : PySem.W.Frag} {H : Hp} {v : Vc} {ps : List Addr} (h : Prs K H ps v) : (ps.map V.ref).length = v.length := by rw [List.length_map, paired_len h]
theorem e_catV {K : PySem.W.Frag} {H : Hp} {Q : VK} {a b : Addr} {v w : Vc} (h1 : Vec K H a v) (h2 : Vec K H b w) (hn : v.length + w.length ≤ 1000) (q : ∀ r H', Same H H' → Vec K H' r (v ++ w) → Q (.ref r) H') : rCatA K (.ref a) (.ref b) H Q := by
  obtain ⟨ps, g1, g2⟩ := h1
  obtain ⟨qs, g3, g4⟩ := h2
  refine e_catA g1 g3 (by rw [vec_len g2, vec_len g4]; exact hn) fun r H' s h => q r H' s ⟨ps ++ qs, by rw [List.map_append]; exact h, prd_app (prs_same s g2) (prs_same s g4)⟩
theorem e_slVt {K : PySem.W.Frag} {H : Hp} {Q : VK} {p : Addr} {v : Vc} (c : Nat) (h : Vec K H p v) (q : ∀ r H', Same H H' → Vec K H' r (v.take c) → Q (.ref r) H') : rSlA K (.ref p) none (some (c : Int)) H Q := by
  obtain ⟨ps, g1, g2⟩ := h
  refine e_slA g1 fun r H' s h => q r H' s ⟨ps.take c, ?_, prd_take c (prs_same s g2)⟩
  rw [cut_toV, ← List.map_take] at h
  exact h
theorem e_slVd {K : PySem.W.Frag} {H : Hp} {Q : VK} {p : Addr} {v : Vc} (c : Nat) (h : Vec K H p v) (q : ∀ r H', Same H H' → Vec K H' r (v.drop c) → Q (.ref r) H') : rSlA K (.ref p) (some (c : Int)) none H Q := by
  obtain ⟨ps, g1, g2⟩ := h
  refine e_slA g1 fun r H' s h => q r H' s ⟨ps.drop c, ?_, prd_drop c (prs_same s g2)⟩
  rw [cut_fromV, ← List.map_drop] at h
  exact h
theorem e_slNt {K : PySem.W.Frag} {H : Hp} {Q : VK} {p : Addr} {v : List Int} (c : Nat) (h : SqT K H p (v.map V.int)) (q : ∀ r H', Same H H' → SqT K H' r ((v.take c).map V.int) → Q (.ref r) H') : rSlA K (.ref p) none (some (c : Int)) H Q := by
  refine e_slA h fun r H' s h => q r H' s ?_
  rw [cut_toV, ← List.map_take] at h
  exact h
theorem e_slNd {K : PySem.W.Frag} {H : Hp} {Q : VK} {p : Addr} {v : List Int} (c : Nat) (h : SqT K H p (v.map V.int)) (q : ∀ r H', Same H H' → SqT K H' r ((v.drop c).map V.int) → Q (.ref r) H') : rSlA K (.ref p) (some (c : Int)) none H Q := by
  refine e_slA h fun r H' s h => q r H' s ?_
  rw [cut_fromV, ← List.map_drop] at h
  exact h
theorem e_catN {K : PySem.W.Frag} {H : Hp} {Q : VK} {a b : Addr} {xs ys : List Int} (h1 : SqT K H a (xs.map V.int)) (h2 : SqT K H b (ys.map V.int)) (hn : xs.length + ys.length ≤ 1000) (q : ∀ r H', Same H H' → SqT K H' r ((xs ++ ys).map V.int) → Q (.ref r) H') : rCatA K (.ref a) (.ref b) H Q :=
  e_catA h1 h2 (by rw [List.length_map, List.length_map]; exact hn) fun r H' s h => q r H' s (by rw [List.map_append]; exact h)
theorem vec_at {K : PySem.W.Frag} {H : Hp} {Q : VK} {p : Addr} {v : Vc} {i : Nat} (h : Vec K H p v) (hi : i < v.length) (q : ∀ t c, c ∈ v → v[i]? = some c → SqT K H t [.int c.1, .int c.2] → Q (.ref t) H) : rIxT K (.ref p) (.int (i : Int)) H Q := by
  obtain ⟨ps, g1, g2⟩ := h
  have hp : i < ps.length := by rw [paired_len g2]; exact hi
  have e1 : (ps.map V.ref)[i]? = some (.ref ps[i]) := by rw [List.getElem?_map, List.getElem?_eq_getElem hp]; rfl
  obtain ⟨t, c, e, hc, ht⟩ := prs_at g2 e1
  exact e_ixT g1 (atI_nat e1) (by rw [e]; exact q t c (List.mem_of_getElem? hc) hc ht)
theorem num_at1 {K : PySem.W.Frag} {H : Hp} {Q : VK} {p : Addr} {xs : List Int} {i : Int} (h : SqT K H p (xs.map V.int)) (h0 : 0 ≤ i) (hi : i < xs.length) (q : ∀ x : Int, Q (.int x) H) : rIxT K (.ref p) (.int i) H Q := by
  obtain ⟨n, _, e⟩ := pick_int (l := xs) h0 hi
  exact e_ixT h e (q n)
theorem num_atL {K : PySem.W.Frag} {H : Hp} {Q : VK} {p : Addr} {xs : List Int} {i : Int} (h : SqL K H p (xs.map V.int)) (h0 : 0 ≤ i) (hi : i < xs.length) (q : ∀ x : Int, x ∈ xs → Q (.int x) H) : rIxL K (.ref p) (.int i) H Q := by
  obtain ⟨n, m, e⟩ := pick_int (l := xs) h0 hi
  exact e_ixL h e (q n m)
theorem any_atL {K : PySem.W.Frag} {H : Hp} {Q : VK} {p : Addr} {xs : List V} {i : Int} (h : SqL K H p xs) (h0 : 0 ≤ i) (hi : i < xs.length) (q : ∀ x, x ∈ xs → Q x H) : rIxL K (.ref p) (.int i) H Q := by
  obtain ⟨j, rfl⟩ := Int.eq_ofNat_of_zero_le h0
  have hj : j < xs.length := by omega
  exact e_ixL h (atI_nat (List.getElem?_eq_getElem hj)) (q _ (List.getElem_mem hj))
theorem PapK.same {K : PySem.W.Frag} {O : OfT} {H H' : Hp} {v : V} {B : Prop} (h : PapK K O H v B) (s : Same H H') : PapK K O H' v B := by
  cases h with
  | non => exact .non
  | num i => exact .num i
  | lst p xs h => exact .lst p xs (s _ _ h)
  | len p xs h n => exact .len p xs (same_tup s h) n
  | bool p c y z h => exact .bool p c y z (same_tup s h)
  | bad p a m z h ha => exact .bad p a m z (same_tup s h) (ha.same s)
  | prs p a b m P B h ha hl hb => exact .prs p a b m P B (same_tup s h) (ha.same s) hl (hb.same s)
theorem flat_rep {α : Type} (x : α) : ∀ n : Nat, (List.replicate n [x]).flatten = List.replicate n x
  | 0 => rfl
  | n + 1 => by rw [List.replicate_succ, List.flatten_cons, flat_rep x n, List.replicate_succ]; rfl
theorem e_repU {K : PySem.W.Frag} {H : Hp} {Q : VK} {l : Addr} {x : V} {n : Nat} (h : SqT K H l [x]) (h1 : 1 ≤ n) (h2 : n ≤ 1000) (q : ∀ r H', Same H H' → SqT K H' r (List.replicate n x) → Q (.ref r) H') : rRepU K (.ref l) (.int (n : Int)) H Q :=
  ⟨l, n, [x], rfl, rfl, h, by simp, by omega, by omega, by simp, fun e => q l H (Same.refl _) (by rw [show n = 1 by omega]; exact h), fun _ p hp => q p _ (same_new hp) (SqT.of (by rw [upd_same, Int.toNat_natCast, flat_rep]))⟩
/-! ### all plans, in order -/
def prods : List (Int × List Int) → List Vc
  | [] => [[]]
  | r :: rs => r.2.flatMap fun q => (prods rs).map fun P => (r.1, q) :: P
def extP (Ps : List Vc) (y : Int) (row : List Int) : List Vc := Ps.flatMap fun P => row.map fun q => P ++ [(y, q)]
theorem ext_all : ∀ (rs : List (Int × List Int)) (Ps : List Vc), rs.foldl (fun A r => extP A r.1 r.2) Ps = Ps.flatMap fun P => (prods rs).map fun X => P ++ X
  | [], Ps => by
    show Ps = _
    simp [prods]
  | r :: rs, Ps => by
    show rs.foldl (fun A r => extP A r.1 r.2) (extP Ps r.1 r.2) = _
    rw [ext_all rs]
    unfold extP
    rw [List.flatMap_assoc]
    congr 1
    funext P
    show (r.2.map fun q => P ++ [(r.1, q)]).flatMap (fun P => (prods rs).map fun X => P ++ X) = ((r.2.flatMap fun q => (prods rs).map fun P => (r.1, q) :: P)).map fun X => P ++ X
    rw [List.map_flatMap, List.flatMap_map]
    congr 1
    funext q
    rw [List.map_map]
    refine List.map_congr_left fun X _ => ?_
    simp
theorem ext_snoc (Ps : List Vc) (P : Vc) (y : Int) (row : List Int) : extP (Ps ++ [P]) y row = extP Ps y row ++ row.map fun q => P ++ [(y, q)] := by
  unfold extP
  rw [List.flatMap_append]
  simp
theorem ext_len (Ps : List Vc) (y : Int) (row : List Int) (h : row.length ≤ 3) : (extP Ps y row).length ≤ 3 * Ps.length := by
  induction Ps with
  | nil => exact Nat.le_refl _
  | cons P Ps ih =>
    have e : extP (P :: Ps) y row = (row.map fun q => P ++ [(y, q)]) ++ extP Ps y row := rfl
    rw [e, List.length_append, List.length_map, List.length_cons]
    omega
theorem ext_mem {Ps : List Vc} {y : Int} {row : List Int} {n : Nat} (h : ∀ P ∈ Ps, P.length = n) : ∀ P ∈ extP Ps y row, P.length = n + 1 := fun P hP => by
  obtain ⟨X, hX, hq⟩ := List.mem_flatMap.mp hP
  obtain ⟨q, _, rfl⟩ := List.mem_map.mp hq
  rw [List.length_append, h X hX]
  rfl
def sp_law_most (K : PySem.W.Frag) : Sp := sp1 fun x H Q => ∃ (a : Addr) (P : Vc), x = .ref a ∧ Vec K H a P ∧ P.length ≤ 41 ∧ ∀ (k : Nat) (H' : Hp), Same H H' → MC P k → Q (.int k) H'
def sp_law_plans (K : PySem.W.Frag) : Sp := sp1 fun x H Q => ∃ (d : Addr) (O : OfT), x = .ref d ∧ OfA K H d O ∧ OOk O ∧ O.length ≤ 7 ∧ (∀ r ∈ O, r.2.length ≤ 3) ∧
  ∀ (r : Addr) (ps : List Addr) (ys : List Int) (H' : Hp), Same H H' → Srt O ys → H' r = some (.lst (ps.map V.ref)) → Paired (fun p P => Vec K H' p P) ps (prods (ys.map fun y => (y, rowO O y))) → ps.length ≤ 2187 → (∀ P ∈ prods (ys.map fun y => (y, rowO O y)), P.length = ys.length) → Q (.ref r) H'
def plsOf (O : OfT) (pre : List Int) : List Vc := (pre.map fun y => (y, rowO O y)).foldl (fun A r => extP A r.1 r.2) [[]]
theorem pls_snoc (O : OfT) (pre : List Int) (y : Int) : plsOf O (pre ++ [y]) = extP (plsOf O pre) y (rowO O y) := by
  unfold plsOf
  rw [List.map_append, List.foldl_append]
  rfl
theorem pls_all (O : OfT) (ys : List Int) : plsOf O ys = prods (ys.map fun y => (y, rowO O y)) := by
  unfold plsOf
  rw [ext_all]
  simp
theorem pow3 {n m : Nat} (h : n ≤ m) : 3 ^ n ≤ 3 ^ m := Nat.pow_le_pow_right (by decide) h
mutual
theorem eqv_self : ∀ d : PyData, d.plain = true → PyData.eqv d d = true
  | .none, _ => by simp [PyData.eqv]
  | .bool b, _ => by simp [PyData.eqv]
  | .int i, _ => by simp [PyData.eqv]
  | .str x, _ => by simp [PyData.eqv]
  | .list ds, h => by
    show PyData.eqvAll ds ds = true
    exact eqvAll_self ds h
  | .tuple ds, h => by
    show PyData.eqvAll ds ds = true
    exact eqvAll_self ds h
  | .dict ds, h => by cases h
theorem eqvAll_self : ∀ ds : List PyData, PyData.plainAll ds = true → PyData.eqvAll ds ds = true
  | [], _ => by simp [PyData.eqvAll]
  | d :: ds, h => by
    rw [PyData.plainAll, Bool.and_eq_true] at h
    rw [PyData.eqvAll, eqv_self d h.1, eqvAll_self ds h.2]
    rfl
end
theorem dv_plain : ∀ v : Vc, PyData.plainAll (Dv v) = true
  | [] => by simp [PyData.plainAll]
  | c :: v => by
    show PyData.plainAll (.tuple (Di [c.1, c.2]) :: Dv v) = true
    rw [PyData.plainAll, dv_plain v, PyData.plain, plain_ints]
    rfl
theorem dp_vec {K : PySem.W.Frag} {H : Hp} {a : Addr} {v : Vc} (h : Vec K H a v) : Dp K H (.ref a) (.tuple (Dv v)) := by
  obtain ⟨ps, s1, p1⟩ := h
  exact .tup s1 (dv_all p1)
theorem e_nePVV {K : PySem.W.Frag} {H : Hp} {Q : VK} {a b : Addr} {v w : Vc} (h1 : Vec K H a v) (h2 : Vec K H b w) (q : Q (.bl (!decide (v = w))) H) : rNeP K (.ref a) (.ref b) H Q :=
  e_nePV (dp_vec h1) (dp_vec h2) (by simp [PyData.plain, dv_plain]) (by simp [PyData.plain, dv_plain]) (by
    show PyData.depthAll (Dv v) + 1 ≤ 60
    have := dv_depth v
    omega) (by show PyData.eqvAll (Dv v) (Dv w) = _; exact dv_eqv v w) q
def papD (m : Int) (P : Vc) (L : List Int) : PyData := .tuple [.int m, .tuple (Dv P), .tuple (Di L)]
theorem dp_pap {K : PySem.W.Frag} {H : Hp} {r p b : Addr} {m : Int} {P : Vc} {L : List Int} (h : SqT K H r [.int m, .ref p, .ref b]) (hP : Vec K H p P) (hb : SqT K H b (L.map V.int)) : Dp K H (.ref r) (papD m P L) :=
  .tup h (.cons (.int m) (.cons (dp_vec hP) (.cons (dp_ti hb) .nil)))
theorem pap_plain (m : Int) (P : Vc) (L : List Int) : (papD m P L).plain = true := by
  unfold papD
  simp [PyData.plain, PyData.plainAll, dv_plain, plain_ints]
theorem pap_depth (m : Int) (P : Vc) (L : List Int) : (papD m P L).depth ≤ 60 := by
  unfold papD
  have h1 := dv_depth P
  have h2 : PyData.depthAll (Di L) = 0 := Vf.depthAll_ints L
  show max 0 (max (PyData.depthAll (Dv P) + 1) (max (PyData.depthAll (Di L) + 1) 0)) + 1 ≤ 60
  omega
theorem e_nePap {K : PySem.W.Frag} {H : Hp} {Q : VK} {x y : V} {m : Int} {P : Vc} {L : List Int} (h1 : Dp K H x (papD m P L)) (h2 : Dp K H y (papD m P L)) (q : Q (.bl false) H) : rNeP K x y H Q :=
  e_nePV h1 h2 (pap_plain m P L) (pap_plain m P L) (pap_depth m P L) (b := true) (eqv_self _ (pap_plain m P L)) q
theorem e_eqPap {K : PySem.W.Frag} {H : Hp} {Q : VK} {x y : V} {m : Int} {P : Vc} {L : List Int} (h1 : Dp K H x (papD m P L)) (h2 : Dp K H y (papD m P L)) (q : Q (.bl true) H) : rEqP K x y H Q :=
  e_eqPV h1 h2 (pap_plain m P L) (pap_plain m P L) (pap_depth m P L) (b := true) (eqv_self _ (pap_plain m P L)) q
theorem head_paired {α β : Type} {R : α → β → Prop} {y : β} : ∀ {xs : List α} {ys : List β}, Paired R xs ys → ys.head? = some y → ∃ x t, xs = x :: t ∧ R x y
  | _, _, .nil, h => by cases h
  | x :: t, _ :: _, .cons h1 _, h => by cases h; exact ⟨x, t, rfl, h1⟩
/-! ### the least of all plans, and the first of those with it -/
theorem max_in : ∀ l : List Nat, (∀ y ∈ l, y ≤ l.foldr max 0) ∧ (l.foldr max 0 = 0 ∨ l.foldr max 0 ∈ l)
  | [] => ⟨fun y h => (by cases h), .inl rfl⟩
  | a :: l => by
    obtain ⟨h1, h2⟩ := max_in l
    rw [List.foldr_cons]
    refine ⟨fun y hy => ?_, ?_⟩
    · rcases List.mem_cons.mp hy with rfl | hy
      · exact Nat.le_max_left _ _
      · exact Nat.le_trans (h1 y hy) (Nat.le_max_right _ _)
    · rcases Nat.le_total a (l.foldr max 0) with z | z
      · rw [Nat.max_eq_right z]
        exact h2.imp id fun h => List.mem_cons_of_mem _ h
      · rw [Nat.max_eq_left z]
        exact .inr (List.mem_cons_self ..)
def mxP (X : Vc) : Nat := ((X.map (·.2)).map (cP X)).foldr max 0
theorem mc_mx (X : Vc) : MC X (mxP X) := by
  obtain ⟨h1, h2⟩ := max_in ((X.map (·.2)).map (cP X))
  refine ⟨fun q => ?_, ?_⟩
  · by_cases z : q ∈ X.map (·.2)
    · exact h1 _ (List.mem_map.mpr ⟨q, z, rfl⟩)
    · have e : cP X q = 0 := by rw [← cP_count]; exact List.count_eq_zero.mpr z
      rw [e]; exact Nat.zero_le _
  · rcases h2 with z | z
    · exact .inl z
    · obtain ⟨q, _, e⟩ := List.mem_map.mp z
      exact .inr ⟨q, e⟩
theorem mx_le {X : Vc} {m : Nat} : mxP X ≤ m ↔ ∀ q, cP X q ≤ m := by
  constructor
  · intro h q
    exact Nat.le_trans ((mc_mx X).1 q) h
  · intro h
    rcases (mc_mx X).2 with z | ⟨q, z⟩
    · rw [z]; exact Nat.zero_le _
    · rw [← z]; exact h q
theorem prods_iff : ∀ {rs : List (Int × List Int)} {X : Vc}, X ∈ prods rs ↔ Paired (fun c r => c.1 = r.1 ∧ c.2 ∈ r.2) X rs
  | [], X => by
    constructor
    · intro h
      rw [List.mem_singleton.mp h]
      exact .nil
    · intro h
      cases h
      exact List.mem_singleton.mpr rfl
  | r :: rs, X => by
    constructor
    · intro h
      obtain ⟨q, hq, h2⟩ := List.mem_flatMap.mp h
      obtain ⟨Y, hY, rfl⟩ := List.mem_map.mp h2
      exact .cons ⟨rfl, hq⟩ (prods_iff.mp hY)
    · intro h
      cases h with
      | @cons c _ Y _ h1 t1 =>
        refine List.mem_flatMap.mpr ⟨c.2, h1.2, List.mem_map.mpr ⟨Y, prods_iff.mpr t1, ?_⟩⟩
        show (r.1, c.2) :: Y = c :: Y
        rw [← h1.1]
theorem prods_keys {rs : List (Int × List Int)} {X : Vc} (h : Paired (fun c r => c.1 = r.1 ∧ c.2 ∈ r.2) X rs) : X.map (·.1) = rs.map (·.1) := by
  induction h with
  | nil => rfl
  | cons h _ ih => rw [List.map_cons, List.map_cons, h.1, ih]
theorem prods_in {O : OfT} : ∀ {ys : List Int} {X : Vc}, Paired (fun c r => c.1 = r.1 ∧ c.2 ∈ r.2) X (ys.map fun y => (y, rowO O y)) → ∀ c ∈ X, c.2 ∈ rowO O c.1
  | [], _, .nil, c, hc => by cases hc
  | y :: ys, _ :: _, .cons h1 t1, c, hc => by
    rcases List.mem_cons.mp hc with e | hc
    · rw [e]
      have h2 : _ ∈ rowO O y := h1.2
      have h3 : _ = y := h1.1
      rw [h3]; exact h2
    · exact prods_in t1 c hc
theorem prods_row {O : OfT} {ys : List Int} {X : Vc} (h : X ∈ prods (ys.map fun y => (y, rowO O y))) : X.map (·.1) = ys ∧ ∀ c ∈ X, c.2 ∈ rowO O c.1 := by
  have h := prods_iff.mp h
  refine ⟨?_, prods_in h⟩
  rw [prods_keys h, List.map_map]
  exact List.map_id _
theorem prods_of {O : OfT} : ∀ {ys : List Int} {X : Vc}, X.map (·.1) = ys → (∀ c ∈ X, c.2 ∈ rowO O c.1) → X ∈ prods (ys.map fun y => (y, rowO O y))
  | _, [], e, _ => by
    subst e
    exact List.mem_singleton.mpr rfl
  | _, c :: X, e, h => by
    subst e
    exact List.mem_flatMap.mpr ⟨c.2, h c (List.mem_cons_self ..), List.mem_map.mpr ⟨X, prods_of rfl fun d hd => h d (List.mem_cons_of_mem _ hd), rfl⟩⟩
theorem feas_prods {O : OfT} {ys : List Int} {X : Vc} {m : Nat} (ook : OOk O) (srt : Srt O ys) (h : X ∈ prods (ys.map fun y => (y, rowO O y))) (le : mxP X ≤ m) : Feas O m := by
  obtain ⟨h1, h2⟩ := prods_row h
  refine ⟨X, ⟨by rw [h1]; exact srt.perm.nodup_iff.mpr ook.nd, fun c hc => ⟨?_, h2 c hc⟩, mx_le.mp le⟩, fun x hx => by rw [h1]; exact srt.perm.mem_iff.mpr hx⟩
  exact srt.perm.mem_iff.mp (by rw [← h1]; exact List.mem_map.mpr ⟨c, hc, rfl⟩)
theorem Feas.mono {O : OfT} {m n : Nat} (h : Feas O m) (le : m ≤ n) : Feas O n := let ⟨P, ok, all⟩ := h; ⟨P, ⟨ok.nd, ok.mem, fun q => Nat.le_trans (ok.le q) le⟩, all⟩
theorem Grd.keys {m : Nat} {O1 : OfT} {ys : List Int} {P : Vc} (g : Grd m O1 ys P) : P.map (·.1) = ys := by
  induction g with
  | nil => rfl
  | cons _ _ _ _ _ ih => rw [List.map_cons, ih]
theorem head_flat {α β : Type} (f : α → List β) (p : α) (x : β) (post : List α) (hp : (f p).head? = some x) : ∀ {pre : List α}, (∀ q ∈ pre, f q = []) → ((pre ++ p :: post).flatMap f).head? = some x
  | [], _ => by
    rw [List.nil_append, List.flatMap_cons]
    cases e : f p with
    | nil => rw [e] at hp; cases hp
    | cons y l => rw [e] at hp; exact hp
  | q :: pre, h => by
    rw [List.cons_append, List.flatMap_cons, h q (List.mem_cons_self ..), List.nil_append]
    exact head_flat f p x post hp fun z hz => h z (List.mem_cons_of_mem _ hz)
theorem grd_head {m : Nat} {O1 : OfT} {ys : List Int} {P : Vc} (g : Grd m O1 ys P) : ∀ (Pre : Vc), (∀ x ∈ keyO O1, x ∈ Pre.map (·.1) ∨ x ∈ ys) → (Pre.map (·.1) ++ ys).Nodup → (∀ y ∈ ys, y ∈ keyO O1) → (∀ c ∈ Pre, c.1 ∈ keyO O1 ∧ c.2 ∈ rowO O1 c.1) → mxP (Pre ++ P) ≤ m →
    ((prods (ys.map fun y => (y, rowO O1 y))).filter fun X => decide (mxP (Pre ++ X) ≤ m)).head? = some P := by
  induction g with
  | nil O1 =>
    intro Pre _ _ _ _ hm
    show ([[]].filter fun X => decide (mxP (Pre ++ X) ≤ m)).head? = some []
    rw [List.append_nil] at hm
    simp [hm]
  | @cons O1 y p ys P pre post hrow no t ih =>
    intro Pre hall nd hin hPre hm
    have nd2 := List.nodup_append.mp nd
    have nys : y ∉ ys := (List.nodup_cons.mp nd2.2.1).1
    have hy : y ∈ keyO O1 := hin y (List.mem_cons_self ..)
    have npre : ∀ c ∈ Pre, c.1 ≠ y := fun c hc e => nd2.2.2 c.1 (List.mem_map.mpr ⟨c, hc, rfl⟩) y (List.mem_cons_self ..) e
    have hother : ∀ q, ys.map (fun z => (z, rowO (setO O1 y [q]) z)) = ys.map fun z => (z, rowO O1 z) := fun q => List.map_congr_left fun z hz => by
      rw [row_set _ _ hy, if_neg fun e => nys (by rw [← e]; exact hz)]
    show ((((rowO O1 y).flatMap fun q => (prods (ys.map fun z => (z, rowO O1 z))).map fun X => (y, q) :: X)).filter fun X => decide (mxP (Pre ++ X) ≤ m)).head? = some ((y, p) :: P)
    rw [List.filter_flatMap, hrow]
    refine head_flat _ p _ post ?_ fun q hq => ?_
    · rw [List.filter_map, List.head?_map]
      have e : ((fun X => decide (mxP (Pre ++ X) ≤ m)) ∘ fun X => (y, p) :: X) = fun X => decide (mxP ((Pre ++ [(y, p)]) ++ X) ≤ m) := by
        funext X
        show decide (mxP (Pre ++ (y, p) :: X) ≤ m) = _
        rw [List.append_assoc]
        rfl
      have g1 : ∀ x ∈ keyO (setO O1 y [p]), x ∈ (Pre ++ [(y, p)]).map (·.1) ∨ x ∈ ys := fun x hx => by
        rw [setO_key] at hx
        rcases hall x hx with z | z
        · exact .inl (by rw [List.map_append]; exact List.mem_append_left _ z)
        · rcases List.mem_cons.mp z with z | z
          · exact .inl (by rw [List.map_append, z]; simp)
          · exact .inr z
      have g2 : ((Pre ++ [(y, p)]).map (·.1) ++ ys).Nodup := by
        rw [List.map_append, List.append_assoc]
        exact nd
      have g3 : ∀ z ∈ ys, z ∈ keyO (setO O1 y [p]) := fun z hz => by rw [setO_key]; exact hin z (List.mem_cons_of_mem _ hz)
      have g4 : ∀ c ∈ Pre ++ [(y, p)], c.1 ∈ keyO (setO O1 y [p]) ∧ c.2 ∈ rowO (setO O1 y [p]) c.1 := fun c hc => by
        rw [setO_key, row_set _ _ hy]
        rcases List.mem_append.mp hc with z | z
        · rw [if_neg (npre c z)]
          exact hPre c z
        · rw [List.mem_singleton.mp z, if_pos rfl]
          exact ⟨hy, List.mem_cons_self ..⟩
      have g5 := ih (Pre ++ [(y, p)]) g1 g2 g3 g4 (by rw [List.append_assoc]; exact hm)
      rw [hother p] at g5
      rw [e, g5]
      rfl
    · rw [List.filter_eq_nil_iff]
      intro X hX hle
      obtain ⟨Y, hY, rfl⟩ := List.mem_map.mp hX
      have hle := of_decide_eq_true hle
      obtain ⟨h1, h2⟩ := prods_row hY
      have ek : (Pre ++ (y, q) :: Y).map (·.1) = Pre.map (·.1) ++ y :: ys := by rw [List.map_append, List.map_cons, h1]
      refine no q hq ⟨Pre ++ (y, q) :: Y, ⟨by rw [ek]; exact nd, fun c hc => ?_, mx_le.mp hle⟩, fun x hx => ?_⟩
      · rw [setO_key, row_set _ _ hy]
        rcases List.mem_append.mp hc with z | z
        · rw [if_neg (npre c z)]
          exact hPre c z
        · rcases List.mem_cons.mp z with z | z
          · rw [z, if_pos rfl]
            exact ⟨hy, List.mem_cons_self ..⟩
          · have hcy : c.1 ∈ ys := by rw [← h1]; exact List.mem_map.mpr ⟨c, z, rfl⟩
            rw [if_neg fun e => nys (by rw [← e]; exact hcy)]
            exact ⟨hin _ (List.mem_cons_of_mem _ hcy), h2 c z⟩
      · rw [setO_key] at hx
        rw [ek, List.mem_append, List.mem_cons]
        rcases hall x hx with z | z
        · exact .inl z
        · exact .inr (List.mem_cons.mp z)
theorem grd_first {m : Nat} {O : OfT} {ys : List Int} {P : Vc} (g : Grd m O ys P) (srt : Srt O ys) (ook : OOk O) (ok : PlanOk O m P) (low : ∀ X ∈ prods (ys.map fun y => (y, rowO O y)), m ≤ mxP X) :
    ((prods (ys.map fun y => (y, rowO O y))).filter fun X => decide (mxP X = m)).head? = some P := by
  have h := grd_head g [] (fun x hx => .inr (srt.perm.mem_iff.mpr hx)) (by simpa using srt.perm.nodup_iff.mpr ook.nd) (fun y hy => srt.perm.mem_iff.mp hy) (fun c hc => by cases hc) (mx_le.mpr ok.le)
  rw [← h]
  refine congrArg _ (List.filter_congr fun X hX => ?_)
  have := low X hX
  show decide (mxP X = m) = decide (mxP ([] ++ X) ≤ m)
  rw [List.nil_append]
  exact decide_eq_decide.mpr (by omega)
theorem split_un {q p : Int} : ∀ {a b c d : List Int}, a ++ q :: b = c ++ p :: d → q ∉ c → p ∉ a → q = p
  | [], _, [], _, e, _, _ => (List.cons.inj e).1
  | [], _, y :: c, _, e, h, _ => absurd (by rw [(List.cons.inj e).1]; exact List.mem_cons_self ..) h
  | x :: a, _, [], _, e, _, h => absurd (by rw [(List.cons.inj e).1]; exact List.mem_cons_self ..) h
  | x :: a, _, y :: c, _, e, h1, h2 => split_un (List.cons.inj e).2 (fun m => h1 (List.mem_cons_of_mem _ m)) fun m => h2 (List.mem_cons_of_mem _ m)
theorem Lck.un {O : OfT} {m : Nat} {L M : List Int} (h : Lck O m L) (g : Lck O m M) : L = M := by
  obtain ⟨ys, U, srt, e, p, s⟩ := h
  obtain ⟨ys2, U2, srt2, e2, p2, s2⟩ := g
  rw [srt_un srt srt2, e2] at e
  cases e
  exact List.Perm.eq_of_pairwise (fun x y _ _ h1 h2 => Int.le_antisymm h1 h2) s s2 (p.trans p2.symm)
/-- what the shown blocks say -/
theorem ShB.no {O : OfT} {m : Nat} {L : List Int} (h : ShB O ((m + 1 : Nat) : Int) L) : ¬ Feas O m := by
  obtain ⟨h1, h2, h3⟩ := h.1 (by omega)
  refine Shw.no ⟨h1, h2, fun N hN => ?_⟩
  have := h3 N hN
  have e : ((m + 1 : Nat) : Int) - 1 = (m : Int) := by omega
  rw [e, ← Int.natCast_mul] at this
  exact Int.ofNat_lt.mp this
theorem e_reprO {K : PySem.W.Frag} {H : Hp} {Q : VK} {d : Addr} {O : OfT} (h : OfA K H d O) (s : OffS O) (q : Q (.str (dictText (PyData.shownKv (offD O)))) H) : rReprD K [.ref d] H Q :=
  let ⟨w, h1, h2⟩ := h; ⟨d, w, O, rfl, h1, h2, s, q⟩
set_option maxHeartbeats 0
def d_is_integer : He.DefD := ⟨("is_integer", none), "is_integer", "is_integer", defArgs s_is_integer, defBody s_is_integer, defScope s_is_integer, [], []⟩
def d_share : He.DefD := ⟨("share", none), "share", "share", defArgs s_share, defBody s_share, defScope s_share, [], []⟩
def d_lacking : He.DefD := ⟨("_lacking", none), "_lacking", "_lacking", defArgs s_lacking, defBody s_lacking, defScope s_lacking, [], []⟩
def d_assign : He.DefD := ⟨("_assign", none), "_assign", "_assign", defArgs s_assign, defBody s_assign, defScope s_assign, [], []⟩
def d_moves_one : He.DefD := ⟨("_moves_one", none), "_moves_one", "_moves_one", defArgs s_moves_one, defBody s_moves_one, defScope s_moves_one, [], []⟩
def d_first_plan : He.DefD := ⟨("_first_plan", none), "_first_plan", "_first_plan", defArgs s_first_plan, defBody s_first_plan, defScope s_first_plan, [], []⟩
def d_judge_share : He.DefD := ⟨("judge_share", none), "judge_share", "judge_share", defArgs s_judge_share, defBody s_judge_share, defScope s_judge_share, [], []⟩
def d_is_plan : He.DefD := ⟨("_is_plan", none), "_is_plan", "_is_plan", defArgs s_is_plan, defBody s_is_plan, defScope s_is_plan, [], []⟩
def d_most_of : He.DefD := ⟨("_most_of", none), "_most_of", "_most_of", defArgs s_most_of, defBody s_most_of, defScope s_most_of, [], []⟩
def d_shows : He.DefD := ⟨("_shows", none), "_shows", "_shows", defArgs s_shows, defBody s_shows, defScope s_shows, [], []⟩
def d_law_draws : He.DefD := ⟨("_law_draws", none), "_law_draws", "_law_draws", defArgs s_law_draws, defBody s_law_draws, defScope s_law_draws, [], []⟩
def d_law_draw : He.DefD := ⟨("_law_draw", none), "_law_draw", "_law_draw", defArgs s_law_draw, defBody s_law_draw, defScope s_law_draw, [], []⟩
def d_law_offers : He.DefD := ⟨("_law_offers", none), "_law_offers", "_law_offers", defArgs s_law_offers, defBody s_law_offers, defScope s_law_offers, [], []⟩
def d_law_most : He.DefD := ⟨("_law_most", none), "_law_most", "_law_most", defArgs s_law_most, defBody s_law_most, defScope s_law_most, [], []⟩
def d_law_plans : He.DefD := ⟨("_law_plans", none), "_law_plans", "_law_plans", defArgs s_law_plans, defBody s_law_plans, defScope s_law_plans, [], []⟩
def d_law : He.DefD := ⟨("law", none), "law", "law", defArgs s_law, defBody s_law, defScope s_law, [], []⟩
def fn : List He.DefD := [d_is_integer, d_share, d_lacking, d_assign, d_moves_one, d_first_plan, d_judge_share, d_is_plan, d_most_of, d_shows, d_law_draws, d_law_draw, d_law_offers, d_law_most, d_law_plans, d_law]
def fa : List He.Fa := [.glo "is_integer", .glo "share", .glo "_lacking", .glo "_assign", .glo "_moves_one", .glo "_first_plan", .glo "judge_share", .glo "_is_plan", .glo "_most_of", .glo "_shows", .glo "_law_draws", .glo "_law_draw", .glo "_law_offers", .glo "_law_most", .glo "_law_plans", .glo "law", .free "abs", .free "all", .free "bool", .free "dict", .free "int", .free "isinstance", .free "len", .free "list", .free "max", .free "min", .free "range", .free "repr", .free "set", .free "sorted", .free "tuple", .free "zip"]
abbrev R : PySem.W.OpenRow := PySem.W.OpenLaw.row PySem.Challenge.rw_folderkin_k81_least_shares
abbrev hk : PySem.W.Hook := He.hookD 4 fa fn
def ob (s : PySem.W.SharedT) : He.AlD := He.obsDG 4 fa fn (HandSHeadRun.getT s)
theorem ob_eq (s : PySem.W.SharedT) : ob s = hk.obs s.abs := He.obsDG_eq (HandSHeadRun.getT_eq s)
theorem run (w : World) : HandSHeadRun.RunEq R (PySem.W.view R.prog [18]) hk ob 8000 ["is_integer", "share", "_lacking", "_assign", "_moves_one", "_first_plan", "judge_share", "_is_plan", "_most_of", "_shows", "_law_draws", "_law_draw", "_law_offers", "_law_most", "_law_plans"] w := by
  intro os
  kernel_rfl
local macro_rules | `(tactic| walk_at "dr") => `(tactic| first
  | assumption
  | exact Dr.same (by assumption) (same_new (by assumption))
  | exact Dr.same (Dr.same (by assumption) (same_new (by assumption))) (same_new (by assumption)))
local macro_rules | `(tactic| walk_at "ar") => `(tactic| first | omega | (simp only [List.length_cons, List.length_nil, List.length_map, List.length_append]; omega) | (simp only [List.length_cons, List.length_nil, List.length_map, List.length_append] at *; omega) | decide | assumption)
local macro_rules | `(tactic| walk_at "sl") => `(tactic| first
  | exact Dr.seq (by assumption)
  | assumption
  | exact SqL.of (by assumption)
  | exact SqL.of upd_same)
local macro_rules | `(tactic| walk_at "slt") => `(tactic| first
  | assumption
  | exact SqT.of (by assumption)
  | exact SqT.of upd_same)
local macro_rules | `(tactic| walk_at "size") => `(tactic| first
  | assumption
  | (refine sz_of ?_; first | decide | omega | (simp only [List.length_cons, List.length_nil, List.length_map, List.length_append] at *; omega)))
local macro_rules | `(tactic| walk_at "seq") => `(tactic| first
  | assumption
  | exact .inl (Dr.seq (by assumption))
  | exact .inl (by assumption)
  | exact .inl (SqL.of (by assumption))
  | exact .inr (by assumption)
  | exact .inr (SqT.of (by assumption)))
local macro_rules | `(tactic| walk_at "cond") => `(tactic| first
  | ((with_reducible show CMul _ _); first | exact .inr ⟨by decide, by decide⟩ | exact .inl ⟨by decide, by decide⟩ | exact .inr ⟨by omega, by omega⟩ | exact .inl ⟨by omega, by omega⟩)
  | ((with_reducible show CDivW _ _); first | exact ⟨by decide, by decide⟩ | exact wide_div (b := 60) (by omega) (by omega) (by decide) (by decide))
  | ((with_reducible show CDiv _ _); first | exact ⟨by decide, by decide⟩ | exact ⟨by omega, by omega⟩)
  | ((with_reducible show CPow _ _); exact ⟨by decide, by decide, by decide⟩)
  | (show (0 : Int) < _; first | decide | omega)
  | (show (0 : Int) ≤ _; first | decide | omega))
local macro_rules | `(tactic| walk_at "st1") => `(tactic| first
  | ((with_reducible show tVar _ _ _ _); refine e_var rfl ?_)
  | ((with_reducible show tC _ _ _ _); refine e_c ?_)
  | ((with_reducible show tOp _ _ _ _ _ _); refine e_op ?_)
  | ((with_reducible show rI0 _ _ _ _ _); refine e_I0 ?_)
  | ((with_reducible show rI _ _ _ _ _ _); refine e_I (by walk_at "cond") ?_)
  | ((with_reducible show rEq (V.int _) (V.int _) _ _); refine e_eqI ?_)
  | ((with_reducible show rNe (V.int _) (V.int _) _ _); refine e_neI ?_)
  | ((with_reducible show rEq (V.str _) (V.str _) _ _); refine e_eqS ?_)
  | ((with_reducible show rNe (V.str _) (V.str _) _ _); refine e_neS ?_)
  | ((with_reducible show rEq (V.bl _) (V.bl _) _ _); refine e_eqB ?_)
  | ((with_reducible show rNe (V.bl _) (V.bl _) _ _); refine e_neB ?_)
  | ((with_reducible show rEq _ _ _ _); refine e_eq rfl ?_)
  | ((with_reducible show rNe _ _ _ _); refine e_ne rfl ?_)
  | ((with_reducible show tTest _ _ _ _); refine e_test ?_)
  | ((with_reducible show tB _ _ _ _); refine e_B ?_)
  | ((with_reducible show ∃ k, V.bl _ = V.bl k ∧ _); refine e_ex ?_)
  | ((with_reducible show ∃ k, V.int _ = V.int k ∧ _); refine e_exI ?_)
  | ((with_reducible show tAnd _ _ _ _ _); refine e_and ?_)
  | ((with_reducible show tOr _ _ _ _ _); refine e_or ?_)
  | ((with_reducible show tNot _ _ _ _); refine e_not ?_)
  | ((with_reducible show tYes _ _ _); refine e_yes ?_))
local macro_rules | `(tactic| walk_at "st2") => `(tactic| first
  | ((with_reducible show tAndV _ _ _ _ _); refine e_andV ?_)
  | ((with_reducible show tOrV _ _ _ _ _); refine e_orV ?_)
  | ((with_reducible show tNotV _ _ _ _); refine e_notV ?_)
  | ((with_reducible show tIf _ _ _ _ _ _); refine e_if ?_)
  | ((with_reducible show tChain _ _ _ _ _ _ _ _); refine e_chain ?_)
  | ((with_reducible show tSeq _ _ _ _ _); refine e_seq ?_)
  | ((with_reducible show tNext _ _ _); refine e_next ?_)
  | ((with_reducible show tBreak _ _ _); refine e_break ?_)
  | ((with_reducible show tCont _ _ _); refine e_cont ?_)
  | ((with_reducible show tDrop _ _ _ _); refine e_drop ?_)
  | ((with_reducible show tRet _ _ _ _); refine e_ret ?_)
  | ((with_reducible show tRetN _ _ _); refine e_retN ?_)
  | ((with_reducible show tIfS _ _ _ _ _ _); refine e_ifS ?_)
  | ((with_reducible show tAsg _ _ _ _ _); refine e_asg ?_)
  | ((with_reducible show gName _ _ _ _ _); refine e_name ?_)
  | ((with_reducible show gSub _ _ _ _ _ _ _); refine e_sub ?_)
  | ((with_reducible show tNil _ _ _); refine e_nil ?_)
  | ((with_reducible show tCons _ _ _ _ _); refine e_cons ?_)
  | ((with_reducible show tCall _ _ _ _ _ _ _); refine e_call ?_)
  | ((with_reducible show tCB _ _ _ _ _); refine e_CB ?_)
  | ((with_reducible show tTup _ _ _ _); refine e_tup ?_)
  | ((with_reducible show tLst _ _ _ _); refine e_lst ?_)
  | ((with_reducible show tSl _ _ _ _ _ _ _); refine e_sl ?_)
  | ((with_reducible show tNoPart _ _ _); refine e_noP ?_)
  | ((with_reducible show tPart _ _ _ _); refine e_part ?_)
  | ((with_reducible show tBM _ _ _ _ _ _ _ _); refine e_bm ?_)
  | ((with_reducible show tFor _ _ _ _ _ _); refine e_for ?_)
  | ((with_reducible show iList _ _ _ _ _); refine e_iList ?_)
  | ((with_reducible show iTup _ _ _ _ _); refine e_iTup ?_)
  | ((with_reducible show iStr _ _ _ _); refine e_iStr ?_)
  | ((with_reducible show iRng1 _ _ _ _); refine e_iRng1 ?_)
  | ((with_reducible show iRng2 _ _ _ _); refine e_iRng2 ?_)
  | ((with_reducible show (∃ i', [V.int _] = [V.int i'] ∧ _) ∨ ∃ k, [V.int _] = [V.bl k] ∧ _); refine Or.inl ⟨_, rfl, ?_⟩)
  | ((with_reducible show ∃ p ys, [V.ref _] = [V.ref p] ∧ (SqL _ _ p ys ∨ SqT _ _ p ys) ∧ _); refine ⟨_, _, rfl, (by walk_at "seq"), ?_⟩)
  | ((with_reducible show tLc _ _ _ _ _ _ _ _); refine e_lc ?_)
  | ((with_reducible show tM0 _ _ _ _ _); refine e_m0 ?_)
  | ((with_reducible show tM1 _ _ _ _ _ _); refine e_m1 ?_)
  | ((with_reducible show ∃ k, V.str _ = V.str k ∧ _); refine e_exS ?_)
  | ((with_reducible show ∃ k, V.ref _ = V.ref k ∧ (∃ xs, SqL _ _ k xs) ∧ _); refine e_exR (by walk_at "sl") ?_)
  | ((with_reducible show ∃ k, V.ref _ = V.ref k ∧ (∃ xs, SqT _ _ k xs) ∧ _); refine e_exRT (by walk_at "slt") ?_)
  | ((with_reducible show ∃ j, [V.int _] = [V.int j] ∧ _ ≤ j ∧ j < _ ∧ _); refine e_rng1 (by omega) (by omega) ?_)
  | ((with_reducible show ∃ i j, [V.int _, V.int _] = [V.int i, V.int j] ∧ _ ∧ _); refine e_rng2 (by omega) ?_)
  | ((with_reducible show ∃ z', [V.str _] = [V.str z'] ∧ z'.length ≤ sizeLine ∧ _); refine ⟨_, rfl, (by walk_at "size"), ?_⟩)
  | ((with_reducible show (∃ a, V.str _ = V.str a) ∧ _); refine ⟨⟨_, rfl⟩, ?_⟩)
  | ((with_reducible show rSlS (V.str _) _ _ _ _); refine e_slS (by walk_at "size") ?_)
  | ((with_reducible show wipe _ _ = wipe _ _ ∧ _); refine ⟨rfl, ?_⟩)
  | ((with_reducible show List.length _ ≤ sizeLine ∧ ∀ p, _); refine ⟨(by walk_at "size"), fun p hp => ?_⟩)
  | ((with_reducible show rIsi _ _ _ _); first | refine isi_bb ?_ | refine isi_ib ?_ | refine isi_bi ?_ | refine isi_ii ?_ | refine isi_tt (by assumption) ?_ | refine isi_ll (by assumption) ?_)
  | ((with_reducible show spDraw _ _ _ _ _); refine ⟨_, _, _, rfl, _, _, _, _, rfl, rfl, rfl, (by walk_at "dr"), (by walk_at "ar"), (by walk_at "ar"), ?_⟩)
  | ((with_reducible show tUn _ _ _ _ _); refine e_un ?_)
  | ((with_reducible show rU _ (V.int _) _ _); refine e_U ?_)
  | ((with_reducible show ∃ i, [V.int _] = [V.int i] ∧ _); refine ⟨_, rfl, ?_⟩)
  | ((with_reducible show gTup _ _ _ _ _ _ _); refine ⟨_, _, rfl, (by walk_at "slt"), rfl, ?_⟩)
  | ((with_reducible show gCons _ _ _ _ _ _); refine ⟨_, _, rfl, ?_⟩)
  | ((with_reducible show gNil _ _ _ _); refine ⟨rfl, ?_⟩)
  | ((with_reducible show tAug _ _ _ _ _ _); refine e_aug rfl ?_)
  | ((with_reducible show if true = true then _ else _); refine i_T ?_)
  | ((with_reducible show if false = true then _ else _); refine i_F ?_))
local macro_rules | `(tactic| walk_at "st") => `(tactic| first | walk_at "st1" | walk_at "st2" | (dsimp only [List.append_nil, List.nil_append, List.cons_append, Bool.not_true, Bool.not_false]))
local macro_rules | `(tactic| walk_at "go") => `(tactic| repeat walk_at "st")
local macro_rules | `(tactic| walk_at "st") => `(tactic| first
  | ((with_reducible show iRevR _ _ _ _); refine e_iRevR ?_)
  | ((with_reducible show tRg1 _ _ _ _); refine e_rg1 ?_)
  | ((with_reducible show tRg2 _ _ _ _ _); refine e_rg2 ?_)
  | ((with_reducible show iEnum _ _ _ _ _); refine e_iEnum ?_)
  | ((with_reducible show iEnumT _ _ _ _ _); refine e_iEnumT ?_)
  | ((with_reducible show iRng3 _ _ _ _); refine e_iRng3 ?_)
  | ((with_reducible show ∃ p ys, [V.ref _] = [V.ref p] ∧ SqL _ _ p ys ∧ _); refine ⟨_, _, rfl, (by walk_at "sl"), ?_⟩)
  | ((with_reducible show ∃ p ys, [V.ref _] = [V.ref p] ∧ SqT _ _ p ys ∧ _); refine ⟨_, _, rfl, (by walk_at "slt"), ?_⟩)
  | ((with_reducible show tyV _ "list" (V.ref _) _ ∧ _); refine ⟨.inl ⟨rfl, _, (by walk_at "sl")⟩, ?_⟩)
  | ((with_reducible show ∃ a b, V.bl _ = V.bl a ∧ V.bl _ = V.bl b ∧ _); refine ⟨_, _, rfl, rfl, ?_⟩)
  | ((with_reducible show ∃ c, V.bl _ = V.bl c ∧ _); refine ⟨_, rfl, ?_⟩)
  | ((with_reducible show if (!true) = true then _ else _); refine i_F ?_)
  | ((with_reducible show if (!false) = true then _ else _); refine i_T ?_))
local macro_rules | `(tactic| walk_at "st") => `(tactic| first
  | ((with_reducible show tWhile _ _ _ _ _); refine e_tWhile ?_)
  | ((with_reducible show tPar _ _ _ _ _ _); refine e_par ?_)
  | ((with_reducible show iRevR3 _ _ _ _); refine e_revR3 ?_)
  | ((with_reducible show tRg3 _ _ _ _); refine e_tRg3 ?_)
  | ((with_reducible show tRevL _ _ _ _ _); refine e_tRevL ?_))
local macro_rules | `(tactic| walk_at "st") => `(tactic| first
  | ((with_reducible show tDGet _ _ _ _ _); refine e_tDGet ?_)
  | ((with_reducible show sDPut _ _ _ _ _ _); refine e_sDPut ?_)
  | ((with_reducible show tLockE _ _ _ _); refine e_lockE ?_)
  | ((with_reducible show tLock _ _ _ _); refine e_lock ?_)
  | ((with_reducible show tLc2 _ _ _ _ _ _ _ _ _ _ _ _); refine e_lc2 ?_)
  | ((with_reducible show iZipLT _ _ _ _ _); refine e_iZipLT ?_)
  | ((with_reducible show RZ.iZipA _ _ _ _ _); refine e_iZipA ?_)
  | ((with_reducible show rIsi _ _ _ _); first | refine isi_nI ?_ | refine isi_nt ?_ | refine isi_it ?_ | refine isi_tq (by assumption) ?_ | refine isi_lt (by assumption) ?_)
  | ((with_reducible show tCKw _ _ _ _ _ _); refine e_ckw ?_)
  | ((with_reducible show tDc _ _ _ _ _ _ _ _ _); refine e_dc ?_)
  | ((with_reducible show iKeys _ _ _ _); refine e_iKeys ?_)
  | ((with_reducible show tDIn _ _ _ _ _); refine e_tDIn ?_)
  | ((with_reducible show tDNotIn _ _ _ _ _); refine e_tDNotIn ?_))
section
variable {P : Program} {w : World} {K : PySem.W.Frag} {mg : Str → Option Value} {base : Heap}
theorem ok_is_integer (T : Txt K mg)   {f : Addr} {fd : FuncData} (F : FnP K "is_integer" s_is_integer f fd) : FnOk P w K mg base CX0 1 f fd ["value"] (sp_is_integer K) := by
  refine F.ok sc_is_integer (fun vs H Q E h => ?_) (fun cdv A outer s H vs Q E hr h => ?_)
  · obtain ⟨_, rfl, _⟩ := h
    rfl
  · have S := sc_is_integer
    refine ⟨_, PSs.nox (pss_one (ps_ret (pe_and (pe_callB call_isi (by rfl) T.f_isinstance (by first | rfl | decide +kernel) (pa_cons (pv 0) (pa_cons (pe_bltn (v := .ty "int") (by rfl) T.f_int (by first | rfl | decide +kernel) rfl) pa_nil))) (pe_one (pe_not (pe_callB call_isi (by rfl) T.f_isinstance (by first | rfl | decide +kernel) (pa_cons (pv 0) (pa_cons (pe_bltn (v := .ty "bool") (by rfl) T.f_bool (by first | rfl | decide +kernel) rfl) pa_nil)))))))), ?_⟩
    try dsimp only [cxOf, Cx.nox]
    obtain ⟨x, rfl, hx, k1, k2⟩ := h
    rcases hx with ⟨i, rfl⟩ | rfl | ⟨b, rfl⟩
    · walk_at "go"
      exact k1 ⟨i, rfl⟩
    · walk_at "go"
      exact k2 fun i z => by cases z
    · walk_at "go"
      exact k2 fun i z => by cases z
theorem ok_share (T : Txt K mg)  (c_lacking : Cal P w K mg base 22 "_lacking" (sp_lacking K)) (c_first_plan : Cal P w K mg base 23 "_first_plan" (sp_first_plan K)) {f : Addr} {fd : FuncData} (F : FnP K "share" s_share f fd) : FnOk P w K mg base CX0 24 f fd ["offers"] (sp_share K) := by
  refine F.ok sc_share (fun vs H Q E h => ?_) (fun cdv A outer s H vs Q E hr h => ?_)
  · obtain ⟨_, rfl, _⟩ := h
    rfl
  · have S := sc_share
    refine ⟨_, PSs.nox (pss_cons (ps_set (i := 1) S.nd rfl (by first | exact .inl rfl | exact .inr rfl | exact .inr (.inl rfl) | exact .inr (.inr rfl)) (pe_tup pa_nil))
    (pss_cons (ps_set (i := 2) S.nd rfl (by first | exact .inl rfl | exact .inr rfl | exact .inr (.inl rfl) | exact .inr (.inr rfl)) pe_int)
    (pss_one (ps_while PassesOwn.never (pt_val pe_bl)
    (pss_cons (ps_set (i := 3) S.nd rfl (by first | exact .inl rfl | exact .inr rfl | exact .inr (.inl rfl) | exact .inr (.inr rfl)) (pe_c c_lacking hr (by decide) (by rfl) (pa_cons (pv 0) (pa_cons (pv 2) pa_nil))))
      (pss_cons (ps_if (pt_cmpR op_isN (pv 3) pe_non (nomark _))
      (pss_one (ps_ret (pe_tup (pa_cons (pv 2) (pa_cons (pe_c c_first_plan hr (by decide) (by rfl) (pa_cons (pv 0) (pa_cons (pv 2) pa_nil))) (pa_cons (pv 1) pa_nil))))))
      pss_nil)
      (pss_cons (ps_set (i := 1) S.nd rfl (by first | exact .inl rfl | exact .inr rfl | exact .inr (.inl rfl) | exact .inr (.inr rfl)) (pv 3))
      (pss_one (ps_aug (i := 2) S.nd rfl (by first | exact .inl rfl | exact .inr rfl | exact .inr (.inl rfl) | exact .inr (.inr rfl)) pe_int ip_add))))))))), ?_⟩
    try dsimp only [cxOf, Cx.nox]
    obtain ⟨_, rfl, d, O, rfl, hO, ook, k⟩ := h
    walk_at "go"
    rename_i p0 hp0
    refine ⟨fun j σ H1 => ∃ (m : Nat) (sh : Addr) (L : List Int) (v3 : Option V), j = 41 - m ∧ m ≤ 40 ∧ σ = [some (.ref d), some (.ref sh), some (.int m), v3] ∧ Same H H1 ∧ SqT K H1 sh (L.map V.int) ∧ L.length ≤ 41 ∧ (m = 0 → L = []) ∧ (∀ q, m = q + 1 → Shw O q L) ∧ (∀ q, m = q + 1 → Lck O q L), ⟨41, 0, p0, [], _, rfl, by decide, rfl, same_new hp0, SqT.of upd_same, by decide, fun _ => rfl, fun q hq => (by omega), fun q hq => by omega⟩, fun j σ H1 z => ?_⟩
    obtain ⟨m, sh, L, v3, rfl, hm, rfl, s1, hL, hl, h0, h1, h2⟩ := z
    walk_at "go"
    refine ⟨fun σ' H' => ∃ (m' : Nat) (sh : Addr) (L : List Int) (v3 : Option V), m' = m + 1 ∧ m' ≤ 40 ∧ σ' = [some (.ref d), some (.ref sh), some (.int m'), v3] ∧ Same H H' ∧ SqT K H' sh (L.map V.int) ∧ L.length ≤ 41 ∧ (m' = 0 → L = []) ∧ (∀ q, m' = q + 1 → Shw O q L) ∧ (∀ q, m' = q + 1 → Lck O q L), fun σ' H' z => ?_, ?_⟩
    · obtain ⟨m', sh, L, v3, e1, e2, z⟩ := z
      exact ⟨41 - m', by omega, m', sh, L, v3, rfl, e2, z⟩
    walk_at "go"
    refine ⟨_, _, rfl, d, O, m, rfl, rfl, hO.same s1, ook, by omega, fun H2 s2 hf => ?_, fun r L2 H2 s2 hr hl2 hs hk2 => ?_⟩
    · walk_at "go"
      refine ⟨rfl, ?_⟩
      rw [decide_eq_true rfl]
      walk_at "go"
      refine ⟨_, _, rfl, d, O, m, rfl, rfl, hO.same (s1.trans s2), ook, by omega, hf, fun r P H3 s3 hP srt ok grd => ?_⟩
      walk_at "go"
      rename_i a ha
      have s4 : Same H (upd H3 a (.tup [V.int m, V.ref r, V.ref sh])) := (s1.trans (s2.trans s3)).trans (same_new ha)
      exact k a r sh m P L _ s4 (SqT.of upd_same) (hP.same (same_new ha)) (same_tup ((s2.trans s3).trans (same_new ha)) hL) hm hl (rgt_of srt ok h0 h1) ok grd h0 h2
    · have hlt : m < O.length := by
        rcases Nat.lt_or_ge m O.length with z | z
        · exact z
        · exact absurd (Feas.big ook z) hs.no
      have := ook.len
      walk_at "go"
      refine ⟨rfl, ?_⟩
      rw [decide_eq_false fun z => by cases z]
      walk_at "go"
      refine ⟨_, _, rfl, rfl, ?_⟩
      exact ⟨m + 1, r, L2, _, rfl, by omega, rfl, s1.trans s2, hr, hl2, fun z => by omega, fun q hq => (by rw [show q = m by omega]; exact hs), fun q hq => by rw [show q = m by omega]; exact hk2⟩
theorem ok_lacking (T : Txt K mg)  (c_assign : Cal P w K mg base 21 "_assign" (sp_assign K 10)) {f : Addr} {fd : FuncData} (F : FnP K "_lacking" s_lacking f fd) : FnOk P w K mg base CX0 22 f fd ["offers", "most"] (sp_lacking K) := by
  refine F.ok sc_lacking (fun vs H Q E h => ?_) (fun cdv A outer s H vs Q E hr h => ?_)
  · obtain ⟨_, _, rfl, _⟩ := h
    rfl
  · have S := sc_lacking
    refine ⟨_, PSs.nox (pss_cons (ps_set (i := 2) S.nd rfl (by first | exact .inl rfl | exact .inr rfl | exact .inr (.inl rfl) | exact .inr (.inr rfl)) pe_dnewK)
    (pss_cons (ps_for PassesOwn.never rfl (pi_list (pe_callB (call_sortedDI rfl) (by rfl) T.f_sorted (by first | rfl | decide +kernel) (pa_cons (pv 0) pa_nil))) (pg_name (i := 3) S.nd rfl (by first | exact .inl rfl | exact .inr rfl | exact .inr (.inl rfl) | exact .inr (.inr rfl)))
    (pss_cons (ps_set (i := 4) S.nd rfl (by first | exact .inl rfl | exact .inr rfl | exact .inr (.inl rfl) | exact .inr (.inr rfl)) pe_dnewK)
      (pss_one (ps_if (pt_not (pt_val (pe_c c_assign hr (by decide) (by rfl) (pa_cons (pv 0) (pa_cons (pv 2) (pa_cons (pv 1) (pa_cons (pv 3) (pa_cons (pv 4) pa_nil))))))))
      (pss_one (ps_ret (pe_callTy call_tuple_of (by rfl) T.f_tuple (by first | rfl | decide +kernel) (pa_cons (pe_callB cr_sorted (by rfl) T.f_sorted (by first | rfl | decide +kernel) (pa_cons (pe_op op_cat (pe_lst (pa_cons (pv 3) pa_nil)) (pe_lock (pe_lc (own := [("other", 5)]) (g := gName 5) rfl S.nd (pi_keys (pv 2)) (blkOk_by (N := N_lacking) (sc := defScope s_lacking) (by decide +kernel)) (fun _ _ _ _ _ => (pg_name (i := 5) S.nd rfl (by first | exact .inl rfl | exact .inr rfl | exact .inr (.inl rfl) | exact .inr (.inr rfl)))) (fun _ _ _ _ _ => (pts_one (pt_cmp (pc_din (hu_of hr) (pe_dget (hu_of hr) (pv 2) (pv 5) (fun _ _ => rfl)) (pv 4))))) (fun _ _ _ _ _ => (pv 5))))) pa_nil)) pa_nil))))
      pss_nil))))
    (pss_one (ps_ret pe_non)))), ?_⟩
    try dsimp only [cxOf, Cx.nox]
    obtain ⟨_, _, rfl, d, O, m, rfl, rfl, hO, ook, hm, k, ks⟩ := h
    obtain ⟨w, ed, hw⟩ := id hO
    walk_at "go"
    intro p hp
    have s0 : Same H (upd H p (.dK [])) := same_new hp
    have ep0 : (upd H p (.dK [])) p = some (.dK (kvl [])) := upd_same
    revert s0 ep0
    generalize upd H p (.dK []) = H0
    intro s0 ep0
    walk_at "go"
    have hlk : (keyO O).length ≤ 40 := by unfold keyO; rw [List.length_map]; exact ook.len
    refine ⟨d, dcO w, keyO O, rfl, .inl (s0 _ _ ed), ?_, by omega, fun ys l hys hsr hl => ?_⟩
    · clear hO ed k ks s0 ep0 ook hlk
      induction hw with
      | nil => rfl
      | cons h t ih =>
        show Sum.inl _ :: _ = Sum.inl _ :: _
        rw [h.1]
        exact congrArg _ ih
    have nlp : l ≠ p := fun z => by rw [z, ep0] at hl; cases hl
    have s1 : Same H (upd H0 l (.lst (ys.map V.int))) := s0.trans (same_new hl)
    have ep1 : (upd H0 l (.lst (ys.map V.int))) p = some (.dK (kvl [])) := by rw [upd_ne (Ne.symm nlp)]; exact ep0
    have el1 : (upd H0 l (.lst (ys.map V.int))) l = some (.lst (ys.map V.int)) := upd_same
    revert s1 ep1 el1
    generalize upd H0 l (.lst (ys.map V.int)) = H1
    intro s1 ep1 el1
    walk_at "go"
    refine for_ints (ns := ys) (fun pre σ H2 => (∃ v3 v4 v5 : Option V, σ = [some (.ref d), some (.int m), some (.ref p), v3, v4, v5]) ∧ Same H H2 ∧ H2 l = some (.lst (ys.map V.int)) ∧ ∃ P, H2 p = some (.dK (kvl P)) ∧ PlanOk O m P ∧ (∀ x, x ∈ P.map (·.1) ↔ x ∈ pre) ∧ ∀ post, ys = pre ++ post → lckF O m ys [] = lckF O m post P) ⟨⟨_, _, _, rfl⟩, s1, el1, [], ep1, ⟨List.nodup_nil, fun c hc => (by cases hc), fun q => Nat.zero_le _⟩, fun x => Iff.rfl, fun post e => by rw [e]; rfl⟩ (fun pre σ H2 z => SqL.of z.2.2.1) (fun pre x post σ H2 e0 z => ?_) (fun σ H2 z => ?_)
    · obtain ⟨⟨v3, v4, v5, rfl⟩, s2, el2, P, ep2, ok, hk, fe⟩ := z
      have hxy : x ∈ ys := by rw [e0]; simp
      have hx : x ∈ keyO O := hys.mem_iff.mp hxy
      have hl5 := plan_len ook ok
      walk_at "go"
      intro t ht
      have ntp : t ≠ p := fun z => by rw [z, ep2] at ht; cases ht
      have ntl : t ≠ l := fun z => by rw [z, el2] at ht; cases ht
      have ht0 : H t = none := none_sm s2 ht
      have nlpt : l ∉ [p, t] := fun z => by
        simp only [List.mem_cons, List.not_mem_nil, or_false] at z
        exact z.elim nlp (Ne.symm ntl)
      have hz : ∀ y ∈ [p, t], H y = none := fun y hy => by
        simp only [List.mem_cons, List.not_mem_nil, or_false] at hy
        rcases hy with rfl | rfl
        · exact hp
        · exact ht0
      have s3 : Same H (upd H2 t (.dK [])) := s2.trans (same_new ht)
      have ep3 : (upd H2 t (.dK [])) p = some (.dK (kvl P)) := by rw [upd_ne (Ne.symm ntp)]; exact ep2
      have el3 : (upd H2 t (.dK [])) l = some (.lst (ys.map V.int)) := by rw [upd_ne (Ne.symm ntl)]; exact el2
      have et3 : (upd H2 t (.dK [])) t = some (.dK (tks [])) := upd_same
      revert s3 ep3 el3 et3
      generalize upd H2 t (.dK []) = H3
      intro s3 ep3 el3 et3
      have nb : x ∉ P.map (·.1) := fun z => by
        have nd : (pre ++ x :: post).Nodup := by rw [← e0]; exact hys.nodup_iff.mpr ook.nd
        exact (List.nodup_append.mp nd).2.2 x ((hk x).mp z) x (List.mem_cons_self ..) rfl
      walk_at "go"
      refine ⟨_, _, _, _, _, rfl, d, p, t, O, P, [], m, x, rfl, rfl, rfl, rfl, rfl, hO.same (sm_hid s3 hz), ook, ok, ep3, et3, Ne.symm ntp, hx, ⟨List.nodup_nil, fun q hq => by cases hq⟩, by decide, fun q hq => absurd (List.mem_map.mpr ⟨_, hq, rfl⟩) nb, fun H4 P4 T4 f4 ep4 et4 su a4 => ?_, fun H4 T4 f4 ep4 et4 h94 c4 r4 a4 => ?_⟩
      · walk_at "go"
        refine ⟨⟨_, _, _, rfl⟩, sm_fr s3 f4 hz, f4 _ _ nlpt el3, P4, ep4, su.ok, fun y => ?_, fun post2 e2 => ?_⟩
        · rw [su.key, hk, List.mem_append, List.mem_singleton]
        · exact (fe (x :: post2) (by rw [e2, List.append_assoc]; rfl)).trans (lckF_yes a4)
      · have s4 := sm_fr s3 f4 hz
        walk_at "go"
        rename_i a ha
        have nap : a ≠ p := fun z => by rw [z, ep4] at ha; cases ha
        have nat : a ≠ t := fun z => by rw [z, et4] at ha; cases ha
        have s5 : Same H (upd H4 a (.lst [V.int x])) := s4.trans (same_new ha)
        have ep5 : (upd H4 a (.lst [V.int x])) p = some (.dK (kvl P)) := by rw [upd_ne (Ne.symm nap)]; exact ep4
        have et5 : (upd H4 a (.lst [V.int x])) t = some (.dK (tks T4)) := by rw [upd_ne (Ne.symm nat)]; exact et4
        have ea5 : (upd H4 a (.lst [V.int x])) a = some (.lst ([x].map V.int)) := upd_same
        revert s5 ep5 et5 ea5
        generalize upd H4 a (.lst [V.int x]) = H5
        intro s5 ep5 et5 ea5
        refine ⟨p, _, ep5, trivial, fun od => ?_⟩
        have ep6 : (upd H5 p (.frz od (.dK (kvl P)))) p = some (.frz od (.dK (kvl P))) := upd_same
        have et6 : (upd H5 p (.frz od (.dK (kvl P)))) t = some (.dK (tks T4)) := by rw [upd_ne ntp]; exact et5
        have ea6 : (upd H5 p (.frz od (.dK (kvl P)))) a = some (.lst ([x].map V.int)) := by rw [upd_ne nap]; exact ea5
        have s6 : Same H (upd H5 p (.frz od (.dK (kvl P)))) := Same.mut s5 hp
        revert s6 ep6 et6 ea6
        generalize upd H5 p (.frz od (.dK (kvl P))) = H6
        intro ep6 et6 ea6 s6
        walk_at "go"
        refine ⟨p, od, rfl, .inl ⟨kvl P, ep6, fun D hD => ?_⟩⟩
        refine lc_keysF hD ep6 (by unfold kvl; rw [List.length_map]; omega) (fun c => (valV (tks T4) (match c.2 with | .int r => Sum.inl r | _ => Sum.inl 0)).isSome) (fun c => kV c.1) (fun c H7 C E hc s7 hC hE => ?_) (fun H7 s7 e7 => ?_)
        · obtain ⟨⟨o, r⟩, hor, rfl⟩ := List.mem_map.mp hc
          have ev := mem_kvl ok.nd hor
          walk_at "go"
          refine ⟨p, .int r, rfl, .inl ⟨kvl P, .inl o, .inr ⟨od, s7 _ _ ep6⟩, rfl, ev.symm⟩, ?_⟩
          walk_at "go"
          refine ⟨t, valV (tks T4) (Sum.inl r), rfl, DGet.k (k := Sum.inl r) (s7 _ _ et6), ?_⟩
          refine ⟨_, rfl, ?_⟩
          by_cases hrx : (valV (tks T4) (Sum.inl r)).isSome = true
          · rw [if_pos hrx]
            walk_at "go"
            exact hC hrx _ (Same.refl _)
          · rw [if_neg hrx]
            exact hE (Bool.eq_false_iff.mpr hrx) _ (Same.refl _)
        · have e8 : (((kvl P).filter fun c => (valV (tks T4) (match c.2 with | .int r => Sum.inl r | _ => Sum.inl 0)).isSome).map fun c => kV c.1) = (((P.filter fun c => decide (c.2 ∈ T4)).map (·.1)).map V.int) := by
            have e9 : ((kvl P).filter fun c => (valV (tks T4) (match c.2 with | .int r => Sum.inl r | _ => Sum.inl 0)).isSome) = kvl (P.filter fun c => decide (c.2 ∈ T4)) := by
              unfold kvl
              rw [List.filter_map]
              refine congrArg _ (List.filter_congr fun c hc => ?_)
              exact val_tks c.2 T4
            rw [e9]
            unfold kvl
            rw [List.map_map, List.map_map]
            rfl
          rw [e8] at e7
          have hl9 : ((P.filter fun c => decide (c.2 ∈ T4)).map (·.1)).length ≤ 40 := by rw [List.length_map]; exact Nat.le_trans (List.length_filter_le ..) hl5
          have nDp : D ≠ p := fun z => by rw [z, ep6] at hD; cases hD
          have sh := fun L hs hp => Clo.show (L := L) ok c4 h94.1 r4 hx nb hs hp
          have fe2 := (fe _ e0).trans (lckF_no a4)
          revert e7 hl9 sh fe2
          generalize (P.filter fun c => decide (c.2 ∈ T4)).map (·.1) = bs
          intro e7 hl9 sh fe2
          refine ⟨s7 _ _ ep6, ?_⟩
          have s8 : Same H (upd H7 p (.dK (kvl P))) := Same.mut (s6.trans s7) hp
          have eD8 : (upd H7 p (.dK (kvl P))) D = some (.lst (bs.map V.int)) := by rw [upd_ne nDp]; exact e7
          have ea8 : (upd H7 p (.dK (kvl P))) a = some (.lst ([x].map V.int)) := by rw [upd_ne nap]; exact s7 _ _ ea6
          revert s8 eD8 ea8
          generalize upd H7 p (.dK (kvl P)) = H8
          intro s8 eD8 ea8
          refine ⟨a, D, _, _, rfl, rfl, ea8, eD8, Nat.le_trans (by rw [List.length_map, List.length_map, List.length_singleton]; omega : _ ≤ 1000) (by decide), fun l2 hl2 => ?_⟩
          rw [← List.map_append]
          have s9 : Same H (upd H8 l2 (.lst (([x] ++ bs).map V.int))) := s8.trans (same_new hl2)
          have e9 : (upd H8 l2 (.lst (([x] ++ bs).map V.int))) l2 = some (.lst (([x] ++ bs).map V.int)) := upd_same
          revert s9 e9
          generalize upd H8 l2 (.lst (([x] ++ bs).map V.int)) = H9
          intro s9 e9
          walk_at "go"
          refine ⟨l2, _, rfl, SqL.of e9, by rw [List.length_append, List.length_singleton]; omega, fun zs l3 hzs hsz hl3 => ?_⟩
          have s10 : Same H (upd H9 l3 (.lst (zs.map V.int))) := s9.trans (same_new hl3)
          have e10 : (upd H9 l3 (.lst (zs.map V.int))) l3 = some (.lst (zs.map V.int)) := upd_same
          revert s10 e10
          generalize upd H9 l3 (.lst (zs.map V.int)) = H10
          intro s10 e10
          walk_at "go"
          refine ⟨l3, _, rfl, .inl ⟨SqL.of e10, fun l4 hl4 => ?_⟩⟩
          exact ks l4 zs _ (s10.trans (same_new hl4)) (SqT.of upd_same) (by rw [hzs.length_eq, List.length_append, List.length_singleton]; omega) (sh zs hsz hzs) ⟨ys, _, ⟨hys, hsr⟩, fe2, hzs, hsz⟩
    · obtain ⟨⟨v3, v4, v5, rfl⟩, s2, el2, P, ep2, ok, hk, fe⟩ := z
      walk_at "go"
      exact k H2 s2 ⟨P, ok, fun x hx => (hk x).mpr (hys.mem_iff.mpr hx)⟩
theorem ok_assign (n : Nat) (T : Txt K mg)  (c_moves_one : Cal P w K mg base (2 * n + 2) "_moves_one" (sp_moves_one K n)) {f : Addr} {fd : FuncData} (F : FnP K "_assign" s_assign f fd) : FnOk P w K mg base CX0 (2 * n + 3) f fd ["offers", "plan", "most", "block", "tried"] (sp_assign K (n + 1)) := by
  refine F.ok sc_assign (fun vs H Q E h => ?_) (fun cdv A outer s H vs Q E hr h => ?_)
  · obtain ⟨_, _, _, _, _, rfl, _⟩ := h
    rfl
  · have S := sc_assign
    refine ⟨_, PSs.nox (pss_cons (ps_for PassesOwn.never rfl (pi_tup (pe_dget (hu_of hr) (pv 0) (pv 3) (fun _ _ => rfl))) (pg_name (i := 5) S.nd rfl (by first | exact .inl rfl | exact .inr rfl | exact .inr (.inl rfl) | exact .inr (.inr rfl)))
    (pss_cons (ps_if (pt_cmp (pc_din (hu_of hr) (pv 5) (pv 4)))
      (pss_one ps_continue)
      pss_nil)
      (pss_cons (ps_dput (hu_of hr) (pv 4) (pv 5) pe_bl rfl)
      (pss_cons (ps_lock (ps_setLc (i := 6) (own := [("other", 7)]) (g := gName 7) rfl S.nd rfl rfl (sw_true rfl rfl rfl (by decide +kernel)) (pi_keys (pv 1)) (blkOk_by (N := N_assign) (sc := defScope s_assign) (by decide +kernel)) (fun _ _ _ _ _ => (pg_name (i := 7) S.nd rfl (by first | exact .inl rfl | exact .inr rfl | exact .inr (.inl rfl) | exact .inr (.inr rfl)))) (fun _ _ _ _ _ => (pts_one (pt_cmpR op_eq (pe_dget (hu_of hr) (pv 1) (pv 7) (fun _ _ => rfl)) (pv 5) (nomark _)))) (fun _ _ _ _ _ => (pv 7))))
      (pss_one (ps_if (pw_or (pt_cmpR op_lt (pe_callB call_len_seq (by rfl) T.f_len (by first | rfl | decide +kernel) (pa_cons (pv 6) pa_nil)) (pv 2) (nomark _)) (pw_or1 (pt_val (pe_c c_moves_one hr (by omega) (by rfl) (pa_cons (pv 0) (pa_cons (pv 1) (pa_cons (pv 2) (pa_cons (pv 6) (pa_cons (pv 4) pa_nil))))))))).pt
      (pss_cons (ps_dput (hu_of hr) (pv 1) (pv 3) (pv 5) rfl)
        (pss_one (ps_ret pe_bl)))
      pss_nil))))))
    (pss_one (ps_ret pe_bl))), ?_⟩
    try dsimp only [cxOf, Cx.nox]
    obtain ⟨_, _, _, _, _, rfl, d, p, t, O, P, T, m, b, rfl, rfl, rfl, rfl, rfl, hO, ook, pok, ep, et, npt, kb, h9, hn, hbT, ky, kn⟩ := h
    have hlen := plan_len ook pok
    obtain ⟨w, ed, hw⟩ := id hO
    obtain ⟨q, eq, hq⟩ := val_dcO (R := fun q L => SqT K (hid [p, t] H) q (L.map V.int)) b hw kb
    obtain ⟨rw0, hrw, erw⟩ := row_in ook kb
    walk_at "go"
    refine ⟨d, .ref q, rfl, ?_, q, rfl, ⟨_, same_tup hid_sub hq⟩, ?_⟩
    · rw [← eq]
      exact DGet.k (k := Sum.inl b) (hid_some ed).2
    refine for_intsT (ns := rowO O b) (fun pre σ H1 => (∃ v5 v6 v7 : Option V, σ = [some (.ref d), some (.ref p), some (.int m), some (.int b), some (.ref t), v5, v6, v7]) ∧ Fr [p, t] H H1 ∧ H1 p = some (.dK (kvl P)) ∧ ∃ T1, H1 t = some (.dK (tks T1)) ∧ In9 T1 ∧ Clo O m P T T1 ∧ (∀ r ∈ pre, r ∈ T1) ∧ ∀ post, rowO O b = pre ++ post → asgF (mvsF (asg O m n)) m b (rowO O b) P T = asgF (mvsF (asg O m n)) m b post P T1) ⟨⟨_, _, _, rfl⟩, Fr.refl _ _, ep, T, et, h9, Clo.refl _ _ _ _, fun o h => (by cases h), fun post e => by rw [e]; rfl⟩ (fun pre σ H1 z => same_tup hid_sub (same_tup (hid_fr z.2.1) hq)) (fun pre x post σ H1 e0 z => ?_) (fun σ H1 z => ?_)
    · obtain ⟨⟨v5, v6, v7, rfl⟩, f1, ep1, T1, et1, h91, c1, r1, fe⟩ := z
      have hx : x ∈ rowO O b := by rw [e0]; simp
      have hx9 := (ook.rows _ hrw).2.2 x (by rw [erw]; exact hx)
      have l1 := List.Nodup.length_le_of_subset h9.1 c1.sub
      walk_at "go"
      refine ⟨t, valV (tks T1) (Sum.inl x), rfl, DGet.k (k := Sum.inl x) et1, ?_⟩
      rw [val_tks]
      by_cases hxT : x ∈ T1
      · rw [decide_eq_true hxT]
        walk_at "go"
        refine ⟨⟨_, _, _, rfl⟩, f1, ep1, T1, et1, h91, c1, fun r hr => ?_, fun post2 e2 => ?_⟩
        · rcases List.mem_append.mp hr with y | y
          · exact r1 r y
          · rw [List.mem_singleton.mp y]; exact hxT
        · exact (fe (x :: post2) (by rw [e2, List.append_assoc]; rfl)).trans (asgF_old hxT)
      rw [decide_eq_false hxT]
      have h92 := h91.snoc hxT hx9.1 hx9.2
      have l2 := in9_len h91
      have l3 := in9_len h92
      rw [List.length_append, List.length_singleton] at l3
      walk_at "go"
      refine ⟨t, _, rfl, DPut.k (k := Sum.inl x) et1 (Nat.lt_of_le_of_lt (by unfold tks; rw [List.length_map]; omega : _ ≤ 1000) (by decide)), ?_⟩
      rw [put_tks hxT]
      have f2 : Fr [p, t] H (upd H1 t (.dK (tks (T1 ++ [x])))) := f1.put (by simp)
      have ep2 : (upd H1 t (.dK (tks (T1 ++ [x])))) p = some (.dK (kvl P)) := by rw [upd_ne npt]; exact ep1
      have et2 : (upd H1 t (.dK (tks (T1 ++ [x])))) t = some (.dK (tks (T1 ++ [x]))) := upd_same
      revert f2 ep2 et2
      generalize upd H1 t (.dK (tks (T1 ++ [x]))) = H2
      intro f2 ep2 et2
      walk_at "go"
      refine ⟨p, _, ep2, trivial, fun od => ?_⟩
      have hp0 : (upd H2 p (.frz od (.dK (kvl P)))) p = some (.frz od (.dK (kvl P))) := upd_same
      have ht0 : (upd H2 p (.frz od (.dK (kvl P)))) t = some (.dK (tks (T1 ++ [x]))) := by rw [upd_ne (Ne.symm npt)]; exact et2
      have f0 : Fr [p, t] H (upd H2 p (.frz od (.dK (kvl P)))) := f2.put (by simp)
      revert hp0 ht0 f0
      generalize upd H2 p (.frz od (.dK (kvl P))) = Hl
      intro hp0 ht0 f0
      walk_at "go"
      refine ⟨p, od, rfl, .inl ⟨kvl P, hp0, fun D hD => ?_⟩⟩
      refine lc_keysF hD hp0 (by unfold kvl; rw [List.length_map]; omega) (fun c => decide (valV (kvl P) c.1 = some (.int x))) (fun c => kV c.1) (fun c H3 C E hc s3 hC hE => ?_) (fun H3 s3 e3 => ?_)
      · obtain ⟨⟨o, r⟩, hor, rfl⟩ := List.mem_map.mp hc
        have ev := mem_kvl pok.nd hor
        walk_at "go"
        refine ⟨p, .int r, rfl, .inl ⟨kvl P, .inl o, .inr ⟨od, s3 _ _ hp0⟩, rfl, ev.symm⟩, ?_⟩
        walk_at "go"
        have ep : decide (valV (kvl P) (Sum.inl o) = some (.int x)) = decide (r = x) := by
          rw [ev]
          exact decide_eq_decide.mpr ⟨fun z => V.int.inj (Option.some.inj z), fun z => by rw [z]⟩
        by_cases hrx : r = x
        · rw [if_pos (decide_eq_true hrx)]
          walk_at "go"
          exact hC (ep.trans (decide_eq_true hrx)) _ (Same.refl _)
        · rw [if_neg (by simp [hrx])]
          exact hE (ep.trans (decide_eq_false hrx)) _ (Same.refl _)
      · have e4 : ((kvl P).filter fun c => decide (valV (kvl P) c.1 = some (.int x))).map (fun c => kV c.1) = (((P.filter fun c => decide (c.2 = x)).map (·.1)).map V.int) := by
          have e5 : (kvl P).filter (fun c => decide (valV (kvl P) c.1 = some (.int x))) = kvl (P.filter fun c => decide (c.2 = x)) := by
            unfold kvl
            rw [List.filter_map]
            refine congrArg _ (List.filter_congr fun c hc => ?_)
            have ev := mem_kvl pok.nd (x := c.1) (q := c.2) hc
            unfold kvl at ev
            show decide (valV _ (Sum.inl c.1) = some (.int x)) = decide (c.2 = x)
            rw [ev]
            exact decide_eq_decide.mpr ⟨fun z => V.int.inj (Option.some.inj z), fun z => by rw [z]⟩
          rw [e5]
          unfold kvl
          rw [List.map_map, List.map_map]
          rfl
        rw [e4] at e3
        have hcP : ((P.filter fun c => decide (c.2 = x)).map (·.1)).length = cP P x := by rw [List.length_map]; rfl
        have hbs : ∀ o ∈ (P.filter fun c => decide (c.2 = x)).map (·.1), (o, x) ∈ P := fun o ho => by
          obtain ⟨c, hc, rfl⟩ := List.mem_map.mp ho
          obtain ⟨h1, h2⟩ := List.mem_filter.mp hc
          rw [← of_decide_eq_true h2]; exact h1
        have hbs2 : ∀ o, (o, x) ∈ P → o ∈ (P.filter fun c => decide (c.2 = x)).map (·.1) := fun o ho => List.mem_map.mpr ⟨(o, x), List.mem_filter.mpr ⟨ho, decide_eq_true rfl⟩, rfl⟩
        revert e3 hcP hbs hbs2
        generalize ebs : (P.filter fun c => decide (c.2 = x)).map (·.1) = bs
        intro e3 hcP hbs hbs2
        have nDp : D ≠ p := fun z => by rw [z, hp0] at hD; cases hD
        have ntp : t ≠ p := Ne.symm npt
        walk_at "go"
        refine ⟨s3 _ _ hp0, ?_⟩
        have f4 : Fr [p, t] H (upd H3 p (.dK (kvl P))) := (f0.same s3).put (by simp)
        have ep4 : (upd H3 p (.dK (kvl P))) p = some (.dK (kvl P)) := upd_same
        have et4 : (upd H3 p (.dK (kvl P))) t = some (.dK (tks (T1 ++ [x]))) := by rw [upd_ne ntp]; exact s3 _ _ ht0
        have eD4 : (upd H3 p (.dK (kvl P))) D = some (.lst (bs.map V.int)) := by rw [upd_ne nDp]; exact e3
        revert f4 ep4 et4 eD4
        generalize upd H3 p (.dK (kvl P)) = H4
        intro f4 ep4 et4 eD4
        have nxT : x ∉ T := fun z => hxT (c1.sub _ z)
        walk_at "go"
        try rw [List.length_map, hcP]
        by_cases hlt : cP P x < m
        · have hlt2 : decide ((cP P x : Int) < (m : Int)) = true := decide_eq_true (by omega)
          rw [hlt2]
          walk_at "go"
          refine ⟨p, _, rfl, DPut.k (k := Sum.inl b) ep4 (Nat.lt_of_le_of_lt (by unfold kvl; rw [List.length_map]; omega : _ ≤ 1000) (by decide)), ?_⟩
          rw [putK_kvl]
          walk_at "go"
          exact ky _ (dput P b x) (T1 ++ [x]) (f4.put (by simp)) upd_same (by rw [upd_ne ntp]; exact et4) (Suc.room pok kb hx nxT hlt) ((fe _ e0).trans (asgF_room hxT hlt))
        · have hlt2 : decide ((cP P x : Int) < (m : Int)) = false := decide_eq_false (by omega)
          rw [hlt2]
          walk_at "go"
          refine ⟨_, _, _, _, _, rfl, d, p, t, D, O, P, T1 ++ [x], bs, m, rfl, rfl, rfl, rfl, rfl, hO.same (hid_fr f4), ook, pok, ep4, et4, npt, eD4, fun o ho => ⟨x, by simp, hbs o ho⟩, h92, by rw [List.length_append, List.length_singleton]; omega, fun H5 P5 T5 o T6 f5 ep5 et5 ho s6 su a5 => ?_, fun H5 T5 f5 ep5 et5 h95 c5 r5 a5 => ?_⟩
          · have su2 := Suc.move pok kb hx nxT (hbs o ho) hbT (fun q hq => s6 q (List.mem_append_left _ (c1.sub q hq))) (s6 x (by simp)) su
            have hl5 := plan_len ook su.ok
            walk_at "go"
            refine ⟨p, _, rfl, DPut.k (k := Sum.inl b) ep5 (Nat.lt_of_le_of_lt (by unfold kvl; rw [List.length_map]; omega : _ ≤ 1000) (by decide)), ?_⟩
            rw [putK_kvl]
            walk_at "go"
            exact ky _ (dput P5 b x) T5 ((f4.trans f5).put (by simp)) upd_same (by rw [upd_ne ntp]; exact et5) su2 ((fe _ e0).trans (asgF_yes hxT hlt (by rw [ebs]; exact a5)))
          · walk_at "go"
            refine ⟨⟨_, _, _, rfl⟩, f4.trans f5, ep5, T5, et5, h95, c1.trans (Clo.peer c5 (by omega) fun o ho => r5 o (hbs2 o ho)), fun r hr => c5.sub r ?_, fun post2 e2 => ?_⟩
            · rcases List.mem_append.mp hr with y | y
              · exact List.mem_append_left _ (r1 r y)
              · rw [List.mem_singleton.mp y]; simp
            · exact (fe (x :: post2) (by rw [e2, List.append_assoc]; rfl)).trans (asgF_no hxT hlt (by rw [ebs]; exact a5))
    · obtain ⟨⟨v5, v6, v7, rfl⟩, f1, ep1, T1, et1, h91, c1, r1, fe⟩ := z
      walk_at "go"
      exact kn H1 T1 f1 ep1 et1 h91 c1 r1 (fe [] (by rw [List.append_nil]))
theorem ok_moves_one (n : Nat) (T : Txt K mg)  (c_assign : Cal P w K mg base (2 * n + 1) "_assign" (sp_assign K n)) {f : Addr} {fd : FuncData} (F : FnP K "_moves_one" s_moves_one f fd) : FnOk P w K mg base CX0 (2 * n + 2) f fd ["offers", "plan", "most", "blocks", "tried"] (sp_moves_one K (n + 0)) := by
  refine F.ok sc_moves_one (fun vs H Q E h => ?_) (fun cdv A outer s H vs Q E hr h => ?_)
  · obtain ⟨_, _, _, _, _, rfl, _⟩ := h
    rfl
  · have S := sc_moves_one
    refine ⟨_, PSs.nox (pss_cons (ps_for PassesOwn.never rfl (pi_list (pv 3)) (pg_name (i := 5) S.nd rfl (by first | exact .inl rfl | exact .inr rfl | exact .inr (.inl rfl) | exact .inr (.inr rfl)))
    (pss_one (ps_if (pt_val (pe_c c_assign hr (by omega) (by rfl) (pa_cons (pv 0) (pa_cons (pv 1) (pa_cons (pv 2) (pa_cons (pv 5) (pa_cons (pv 4) pa_nil)))))))
      (pss_one (ps_ret pe_bl))
      pss_nil)))
    (pss_one (ps_ret pe_bl))), ?_⟩
    try dsimp only [cxOf, Cx.nox]
    obtain ⟨_, _, _, _, _, rfl, d, p, t, l, O, P, T, bs, m, rfl, rfl, rfl, rfl, rfl, hO, ook, pok, ep, et, npt, el, hbs, h9, hn, ky, kn⟩ := h
    have nl : l ∉ [p, t] := fun z => by
      simp only [List.mem_cons, List.not_mem_nil, or_false] at z
      rcases z with z | z
      · rw [z, ep] at el; cases el
      · rw [z, et] at el; cases el
    walk_at "go"
    refine for_ints (ns := bs) (fun pre σ H1 => (∃ v5 : Option V, σ = [some (.ref d), some (.ref p), some (.int m), some (.ref l), some (.ref t), v5]) ∧ Fr [p, t] H H1 ∧ H1 p = some (.dK (kvl P)) ∧ ∃ T1, H1 t = some (.dK (tks T1)) ∧ In9 T1 ∧ Clo O m P T T1 ∧ (∀ o ∈ pre, ∀ r ∈ rowO O o, r ∈ T1) ∧ ∀ post, bs = pre ++ post → mvsF (asg O m n) bs P T = mvsF (asg O m n) post P T1) ⟨⟨_, rfl⟩, Fr.refl _ _, ep, T, et, h9, Clo.refl _ _ _ _, fun o h => (by cases h), fun post e => by rw [e]; rfl⟩ (fun pre σ H1 z => SqL.of (z.2.1 _ _ nl el)) (fun pre x post σ H1 e0 z => ?_) (fun σ H1 z => ?_)
    · obtain ⟨⟨v5, rfl⟩, f1, ep1, T1, et1, h91, c1, r1, fe⟩ := z
      have hx : x ∈ bs := by rw [e0]; simp
      obtain ⟨q, hqT, hq⟩ := hbs x hx
      have l1 := List.Nodup.length_le_of_subset h9.1 c1.sub
      walk_at "go"
      refine ⟨_, _, _, _, _, rfl, d, p, t, O, P, T1, m, x, rfl, rfl, rfl, rfl, rfl, hO.same (hid_fr f1), ook, pok, ep1, et1, npt, (pok.mem _ hq).1, h91, by omega, fun q2 hq2 => ?_, fun H2 P2 T2 f2 ep2 et2 su a2 => ?_, fun H2 T2 f2 ep2 et2 h92 c2 r2 a2 => ?_⟩
      · rw [nd_un pok.nd hq2 hq]; exact c1.sub q hqT
      · walk_at "go"
        exact ky H2 P2 T2 x T1 (f1.trans f2) ep2 et2 hx c1.sub su ((fe _ e0).trans (mvsF_yes a2))
      · walk_at "go"
        refine ⟨⟨_, rfl⟩, f1.trans f2, ep2, T2, et2, h92, c1.trans c2, fun o ho => ?_, fun post2 e2 => ?_⟩
        · rcases List.mem_append.mp ho with y | y
          · exact fun r hr => c2.sub r (r1 o y r hr)
          · rw [List.mem_singleton.mp y]; exact r2
        · exact (fe (x :: post2) (by rw [e2, List.append_assoc]; rfl)).trans (mvsF_no a2)
    · obtain ⟨⟨v5, rfl⟩, f1, ep1, T1, et1, h91, c1, r1, fe⟩ := z
      walk_at "go"
      exact kn H1 T1 f1 ep1 et1 h91 c1 r1 (fe [] (by rw [List.append_nil]))
theorem ok_first_plan (T : Txt K mg)  (c_lacking : Cal P w K mg base 22 "_lacking" (sp_lacking K)) {f : Addr} {fd : FuncData} (F : FnP K "_first_plan" s_first_plan f fd) : FnOk P w K mg base CX0 23 f fd ["offers", "most"] (sp_first_plan K) := by
  refine F.ok sc_first_plan (fun vs H Q E h => ?_) (fun cdv A outer s H vs Q E hr h => ?_)
  · obtain ⟨_, _, rfl, _⟩ := h
    rfl
  · have S := sc_first_plan
    refine ⟨_, PSs.nox (pss_cons (ps_set (i := 2) S.nd rfl (by first | exact .inl rfl | exact .inr rfl | exact .inr (.inl rfl) | exact .inr (.inr rfl)) (pe_lock (pe_dc (own := [("block", 3)]) (g := gName 3) (tt := tYes) rfl S.nd (pi_keys (pv 0)) (blkOk_by (N := N_first_plan) (sc := defScope s_first_plan) (by decide +kernel)) (fun _ _ _ _ _ => (pg_name (i := 3) S.nd rfl (by first | exact .inl rfl | exact .inr rfl | exact .inr (.inl rfl) | exact .inr (.inr rfl)))) (fun _ _ _ _ _ => pts_nil) (fun _ _ _ _ _ => (pv 3)) (fun _ _ _ _ _ => (pe_dget (hu_of hr) (pv 0) (pv 3) (fun _ _ => rfl))))))
    (pss_cons (ps_for PassesOwn.never rfl (pi_list (pe_callB (call_sortedDI rfl) (by rfl) T.f_sorted (by first | rfl | decide +kernel) (pa_cons (pv 0) pa_nil))) (pg_name (i := 3) S.nd rfl (by first | exact .inl rfl | exact .inr rfl | exact .inr (.inl rfl) | exact .inr (.inr rfl)))
    (pss_one (ps_for PassesOwn.never rfl (pi_tup (pe_dget (hu_of hr) (pv 0) (pv 3) (fun _ _ => rfl))) (pg_name (i := 4) S.nd rfl (by first | exact .inl rfl | exact .inr rfl | exact .inr (.inl rfl) | exact .inr (.inr rfl)))
      (pss_cons (ps_dput (hu_of hr) (pv 2) (pv 3) (pe_tup (pa_cons (pv 4) pa_nil)) rfl)
        (pss_one (ps_if (pt_cmpR op_isN (pe_c c_lacking hr (by decide) (by rfl) (pa_cons (pv 2) (pa_cons (pv 1) pa_nil))) pe_non (nomark _))
        (pss_one ps_break)
        pss_nil))))))
    (pss_one (ps_ret (pe_callTy call_tuple_of (by rfl) T.f_tuple (by first | rfl | decide +kernel) (pa_cons (pe_lc (own := [("block", 3)]) (g := gName 3) (tt := tYes) rfl S.nd (pi_list (pe_callB (call_sortedDI rfl) (by rfl) T.f_sorted (by first | rfl | decide +kernel) (pa_cons (pv 0) pa_nil))) (blkOk_by (N := N_first_plan) (sc := defScope s_first_plan) (by decide +kernel)) (fun _ _ _ _ _ => (pg_name (i := 3) S.nd rfl (by first | exact .inl rfl | exact .inr rfl | exact .inr (.inl rfl) | exact .inr (.inr rfl)))) (fun _ _ _ _ _ => pts_nil) (fun _ _ _ _ _ => (pe_tup (pa_cons (pv 3) (pa_cons (pe_ix (ixT K) (pe_dget (hu_of hr) (pv 2) (pv 3) (fun _ _ => rfl)) pe_int (fun _ _ => rfl)) pa_nil))))) pa_nil)))))), ?_⟩
    try dsimp only [cxOf, Cx.nox]
    obtain ⟨_, _, rfl, d, O, m, rfl, rfl, hO, ook, hm, hf, k⟩ := h
    obtain ⟨w, ed, hw⟩ := id hO
    have hwk := paired_keyO (R := fun q L => SqT K H q (L.map V.int)) hw
    have hlk : (keyO O).length ≤ 40 := by unfold keyO; rw [List.length_map]; exact ook.len
    have hlw : w.length ≤ 40 := by rw [← hwk, List.length_map] at hlk; exact hlk
    walk_at "go"
    refine ⟨d, _, ed, trivial, fun od => ?_⟩
    walk_at "go"
    refine ⟨d, od, rfl, .inl ⟨dcO w, upd_same, ?_⟩⟩
    intro D hD
    refine dc_it walk_keys (fun i H1 => Same (upd H d (.frz od (.dK (dcO w)))) H1 ∧ H1 D = some (.dK (dcO (w.take i)))) ⟨same_new hD, upd_same⟩ (fun i H1 _ z => z.1 _ _ upd_same) (fun i x H1 H2 hi z y => ?_) (fun H1 z => ?_)
    · obtain ⟨s1, e1⟩ := z
      obtain ⟨rfl, k1, v1, hk1, rfl⟩ := y
      unfold dcO at hk1
      rw [List.getElem?_map] at hk1
      obtain ⟨⟨x, q⟩, hx, ex⟩ := Option.map_eq_some_iff.mp hk1
      cases ex
      have hxw : (x, q) ∈ w := List.mem_of_getElem? hx
      have ndw : (w.map (·.1)).Nodup := by rw [hwk]; exact ook.nd
      have hv : valV (dcO w) (Sum.inl x) = some (.ref q) := mem_dcO ndw hxw
      have nx : x ∉ (w.take i).map (·.1) := fun z => by
        have e3 : w = w.take i ++ (x, q) :: w.drop (i + 1) := by
          obtain ⟨hi2, e4⟩ := List.getElem?_eq_some_iff.mp hx
          rw [← e4, List.getElem_cons_drop, List.take_append_drop]
        rw [e3, List.map_append, List.map_cons] at ndw
        exact (List.nodup_append.mp ndw).2.2 x z x (List.mem_cons_self ..) rfl
      walk_at "go"
      refine ⟨d, .ref q, rfl, .inl ⟨dcO w, .inl x, .inr ⟨od, s1 _ _ upd_same⟩, rfl, hv.symm⟩, _, .inl x, rfl, e1, Nat.lt_of_le_of_lt (by unfold dcO; rw [List.length_map, List.length_take]; omega : _ ≤ 1000) (by decide), Same.mut s1 hD, ?_⟩
      rw [upd_same, putK_dcN q nx]
      have e4 : w.take (i + 1) = w.take i ++ [(x, q)] := by rw [List.take_succ, hx]; rfl
      rw [e4]
    · obtain ⟨s1, e1⟩ := z
      have nDd : D ≠ d := fun z => by rw [z, upd_same] at hD; cases hD
      have hD0 : H D = none := by rw [upd_ne nDd] at hD; exact hD
      have el : w.take (dcO w).length = w := by unfold dcO; rw [List.length_map, List.take_length]
      rw [el] at e1
      refine ⟨s1 _ _ upd_same, ?_⟩
      have s2 : Same H (upd H1 d (.dK (dcO w))) := same_unlock s1 ed
      have eD2 : (upd H1 d (.dK (dcO w))) D = some (.dK (dcO w)) := by rw [upd_ne nDd]; exact e1
      revert s2 eD2
      generalize upd H1 d (.dK (dcO w)) = H2
      intro s2 eD2
      walk_at "go"
      refine ⟨d, dcO w, keyO O, rfl, .inl (s2 _ _ ed), by rw [keys_dcO, hwk], by omega, fun ys l hys hsr hl => ?_⟩
      have ndy : ys.Nodup := hys.nodup_iff.mpr ook.nd
      have hl0 := none_sm s2 hl
      have nlD : l ≠ D := fun z => by rw [z, eD2] at hl; cases hl
      have s3 : Same H (upd H2 l (.lst (ys.map V.int))) := s2.trans (same_new hl)
      have eD3 : (upd H2 l (.lst (ys.map V.int))) D = some (.dK (dcO w)) := by rw [upd_ne (Ne.symm nlD)]; exact eD2
      have el3 : (upd H2 l (.lst (ys.map V.int))) l = some (.lst (ys.map V.int)) := upd_same
      revert s3 eD3 el3
      generalize upd H2 l (.lst (ys.map V.int)) = H3
      intro s3 eD3 el3
      walk_at "go"
      refine for_ints (ns := ys) (fun pre σ H4 => (∃ v3 v4 : Option V, σ = [some (.ref d), some (.int m), some (.ref D), v3, v4]) ∧ Same H H4 ∧ H4 l = some (.lst (ys.map V.int)) ∧ ∃ (O1 : OfT) (w1 : List (Int × Addr)), H4 D = some (.dK (dcO w1)) ∧ Paired (fun x o => x.1 = o.1 ∧ SqT K (hid [D] H4) x.2 (o.2.map V.int)) w1 O1 ∧ keyO O1 = keyO O ∧ OOk O1 ∧ Feas O1 m ∧ (∀ y ∈ pre, ∃ p ∈ rowO O y, rowO O1 y = [p]) ∧ (∀ y ∈ keyO O, y ∉ pre → rowO O1 y = rowO O y) ∧ ∀ ys' P', Grd m O1 ys' P' → Grd m O (pre ++ ys') (pre.map (fun y => (y, (rowO O1 y).headD 0)) ++ P')) ⟨⟨_, _, rfl⟩, s3, el3, O, w, eD3, paired_imp (fun _ _ q => ⟨q.1, same_tup (sm_hid s3 (by simpa using hD0)) q.2⟩) hw, rfl, ook, hf, (fun y hy => (by cases hy)), (fun y _ _ => rfl), fun ys' P' g => g⟩ (fun pre σ H4 z => SqL.of z.2.2.1) (fun pre x post σ H4 e0 z => ?_) (fun σ H4 z => ?_)
      · obtain ⟨⟨v3, v4, rfl⟩, s4, el4, O1, w1, eD4, hw1, hk1, ok1, hf1, done, rest, grd⟩ := z
        have hxy : x ∈ ys := by rw [e0]; simp
        have hx : x ∈ keyO O := hys.mem_iff.mp hxy
        have hx1 : x ∈ keyO O1 := by rw [hk1]; exact hx
        have nxp : x ∉ pre := fun z => by
          rw [e0] at ndy
          exact (List.nodup_append.mp ndy).2.2 x z x (List.mem_cons_self ..) rfl
        obtain ⟨q, eq, hq⟩ := val_dcO (R := fun q L => SqT K H q (L.map V.int)) x hw hx
        walk_at "go"
        refine ⟨d, .ref q, rfl, ?_, q, rfl, ⟨_, same_tup s4 hq⟩, ?_⟩
        · rw [← eq]
          exact DGet.k (k := Sum.inl x) (s4 _ _ ed)
        refine for_intsT (ns := rowO O x) (fun pre2 σ H5 => (∃ v4 : Option V, σ = [some (.ref d), some (.int m), some (.ref D), some (.int x), v4]) ∧ Same H H5 ∧ H5 l = some (.lst (ys.map V.int)) ∧ ∃ (O2 : OfT) (w2 : List (Int × Addr)), H5 D = some (.dK (dcO w2)) ∧ Paired (fun x o => x.1 = o.1 ∧ SqT K (hid [D] H5) x.2 (o.2.map V.int)) w2 O2 ∧ keyO O2 = keyO O ∧ OOk O2 ∧ (∀ k, setO O2 x k = setO O1 x k) ∧ ∀ p ∈ pre2, ¬ Feas (setO O1 x [p]) m) ⟨⟨_, rfl⟩, s4, el4, O1, w1, eD4, hw1, hk1, ok1, fun _ => rfl, fun y hy => (by cases hy)⟩ (fun pre2 σ H5 z => same_tup z.2.1 hq) (fun pre2 p post2 σ H5 e2 z => ?_) (fun σ H5 z => ?_)
        · obtain ⟨⟨v4, rfl⟩, s5, el5, O2, w2, eD5, hw2, hk2, ok2, hs2, hno⟩ := z
          have hp : p ∈ rowO O x := by rw [e2]; simp
          obtain ⟨r0, hr0, er0⟩ := row_in ook hx
          have hp9 := (ook.rows _ hr0).2.2 p (by rw [er0]; exact hp)
          have hwk2 := paired_keyO (R := fun q L => SqT K (hid [D] H5) q (L.map V.int)) hw2
          have hlw2 : w2.length ≤ 40 := by rw [← hk2, ← hwk2, List.length_map] at hlk; exact hlk
          walk_at "go"
          rename_i a ha
          have naD : a ≠ D := fun z => by rw [z, eD5] at ha; cases ha
          have nal : a ≠ l := fun z => by rw [z, el5] at ha; cases ha
          have s6 : Same H (upd H5 a (.tup [V.int p])) := s5.trans (same_new ha)
          have eD6 : (upd H5 a (.tup [V.int p])) D = some (.dK (dcO w2)) := by rw [upd_ne (Ne.symm naD)]; exact eD5
          refine ⟨D, _, rfl, DPut.k (k := Sum.inl x) eD6 (Nat.lt_of_le_of_lt (by unfold dcO; rw [List.length_map]; omega : _ ≤ 1000) (by decide)), ?_⟩
          rw [putK_dcO a (by rw [hwk2, hk2]; exact hx)]
          have s7 : Same H (upd (upd H5 a (.tup [V.int p])) D (.dK (dcO (setW w2 x a)))) := Same.mut s6 hD0
          have eD7 : (upd (upd H5 a (.tup [V.int p])) D (.dK (dcO (setW w2 x a)))) D = some (.dK (dcO (setW w2 x a))) := upd_same
          have el7 : (upd (upd H5 a (.tup [V.int p])) D (.dK (dcO (setW w2 x a)))) l = some (.lst (ys.map V.int)) := by rw [upd_ne nlD, upd_ne (Ne.symm nal)]; exact el5
          have ea7 : SqT K (hid [D] (upd (upd H5 a (.tup [V.int p])) D (.dK (dcO (setW w2 x a))))) a ([p].map V.int) := SqT.of (by
            rw [hid_at (by simpa using naD), upd_ne naD]
            exact upd_same)
          have f7 : Same (hid [D] H5) (hid [D] (upd (upd H5 a (.tup [V.int p])) D (.dK (dcO (setW w2 x a))))) := hid_fr ((Fr.of (same_new ha)).put (by simp))
          revert s7 eD7 el7 ea7 f7
          generalize upd (upd H5 a (.tup [V.int p])) D (.dK (dcO (setW w2 x a))) = H7
          intro s7 eD7 el7 ea7 f7
          have hw7 : Paired (fun x o => x.1 = o.1 ∧ SqT K (hid [D] H7) x.2 (o.2.map V.int)) (setW w2 x a) (setO O1 x [p]) := by
            rw [← hs2]
            exact paired_set (R := fun q L => SqT K (hid [D] H7) q (L.map V.int)) ea7 (paired_imp (fun _ _ q => ⟨q.1, same_tup f7 q.2⟩) hw2)
          have ok7 : OOk (setO O1 x [p]) := ok1.set hp9
          have hO7 : OfA K H7 D (setO O1 x [p]) := ⟨_, eD7, paired_imp (fun _ _ q => ⟨q.1, same_tup hid_sub q.2⟩) hw7⟩
          walk_at "go"
          refine ⟨_, _, rfl, D, _, m, rfl, rfl, hO7, ok7, hm, fun H8 s8 hf8 => ?_, fun r8 L8 H8 s8 hr8 hl8 sh8 _ => ?_⟩
          · refine ⟨rfl, ?_⟩
            rw [decide_eq_true rfl]
            have hw8 : Paired (fun x o => x.1 = o.1 ∧ SqT K (hid [D] H8) x.2 (o.2.map V.int)) (setW w2 x a) (setO O1 x [p]) := paired_imp (fun _ _ q => ⟨q.1, same_tup (hid_same s8) q.2⟩) hw7
            walk_at "go"
            refine ⟨⟨_, _, rfl⟩, s7.trans s8, s8 _ _ el7, setO O1 x [p], _, s8 _ _ eD7, hw8, by rw [setO_key]; exact hk1, ok7, hf8, fun y hy => ?_, fun y hy ny => ?_, fun ys' P' g => ?_⟩
            · rw [row_set _ _ hx1]
              rcases List.mem_append.mp hy with z | z
              · rw [if_neg fun e => nxp (by rw [← e]; exact z)]
                exact done y z
              · rw [List.mem_singleton.mp z, if_pos rfl]
                exact ⟨p, hp, rfl⟩
            · rw [row_set _ _ hx1, if_neg fun e => ny (by rw [e]; simp)]
              exact rest y hy fun z => ny (List.mem_append_left _ z)
            · have g2 := grd (x :: ys') ((x, p) :: P') (.cons pre2 post2 (by rw [rest x hx nxp]; exact e2) hno g)
              have e5 : (pre ++ [x]).map (fun y => (y, (rowO (setO O1 x [p]) y).headD 0)) ++ P' = pre.map (fun y => (y, (rowO O1 y).headD 0)) ++ (x, p) :: P' := by
                rw [List.map_append, List.append_assoc]
                have e6 : pre.map (fun y => (y, (rowO (setO O1 x [p]) y).headD 0)) = pre.map (fun y => (y, (rowO O1 y).headD 0)) := List.map_congr_left fun y hy => by
                  rw [row_set _ _ hx1, if_neg fun e => nxp (by rw [← e]; exact hy)]
                rw [e6]
                show _ ++ ((x, (rowO (setO O1 x [p]) x).headD 0) :: P') = _
                rw [row_set _ _ hx1, if_pos rfl]
                rfl
              rw [e5, List.append_assoc]
              exact g2
          · refine ⟨rfl, ?_⟩
            rw [decide_eq_false fun z => by cases z]
            have hw8 : Paired (fun x o => x.1 = o.1 ∧ SqT K (hid [D] H8) x.2 (o.2.map V.int)) (setW w2 x a) (setO O1 x [p]) := paired_imp (fun _ _ q => ⟨q.1, same_tup (hid_same s8) q.2⟩) hw7
            walk_at "go"
            refine ⟨⟨_, rfl⟩, s7.trans s8, s8 _ _ el7, setO O1 x [p], _, s8 _ _ eD7, hw8, by rw [setO_key]; exact hk1, ok7, fun k => setO_set _ _ _ _, fun y hy => ?_⟩
            rcases List.mem_append.mp hy with z | z
            · exact hno y z
            · rw [List.mem_singleton.mp z]; exact sh8.no
        · obtain ⟨⟨v4, rfl⟩, s5, el5, O2, w2, eD5, hw2, hk2, ok2, hs2, hno⟩ := z
          obtain ⟨q2, hq2, hf2⟩ := hf1.pick hx1
          rw [rest x hx nxp] at hq2
          exact absurd hf2 (hno q2 hq2)
      · obtain ⟨⟨v3, v4, rfl⟩, s4, el4, O1, w1, eD4, hw1, hk1, ok1, hf1, done, rest, grd⟩ := z
        walk_at "go"
        refine ⟨d, dcO w, keyO O, rfl, .inl (s4 _ _ ed), by rw [keys_dcO, hwk], by omega, fun zs l2 hzs hsz hl2 => ?_⟩
        have ndz : zs.Nodup := hzs.nodup_iff.mpr ook.nd
        have hl20 := none_sm s4 hl2
        have nl2D : l2 ≠ D := fun z => by rw [z, eD4] at hl2; cases hl2
        have s6 : Same H4 (upd H4 l2 (.lst (zs.map V.int))) := same_new hl2
        have e6 : (upd H4 l2 (.lst (zs.map V.int))) l2 = some (.lst (zs.map V.int)) := upd_same
        revert s6 e6
        generalize upd H4 l2 (.lst (zs.map V.int)) = H6
        intro s6 e6
        walk_at "go"
        intro D2 hD2
        have hzl : zs.length ≤ 40 := by rw [hzs.length_eq]; exact hlk
        have nDD2 : D ≠ D2 := fun z => by rw [← z, s6 _ _ eD4] at hD2; cases hD2
        refine lc_rel (walk_list (K := K) (xs := zs.map V.int)) hD2 (by rw [List.length_map]; omega) (fun H1 s1 => s1.seq (SqL.of e6)) (fun i v H1 => ∃ q y, v = .ref q ∧ zs[i]? = some y ∧ SqT K H1 q [.int y, .int ((rowO O1 y).headD 0)]) (fun i v H1 H2 h s => ?_) (fun i y H1 H2 C E acc hi s1 e1 hy hC => ?_) (fun H7 us s7 e7 l7 hr7 => ?_)
        · obtain ⟨q, y, h1, h2, h3⟩ := h
          exact ⟨q, y, h1, h2, same_tup s h3⟩
        · obtain ⟨rfl, hx⟩ := hy
          rw [List.getElem?_map] at hx
          obtain ⟨b, hb, rfl⟩ := Option.map_eq_some_iff.mp hx
          have hbk : b ∈ keyO O1 := by rw [hk1]; exact hzs.mem_iff.mp (List.mem_of_getElem? hb)
          obtain ⟨q, eq, hq⟩ := val_dcO (R := fun q L => SqT K (hid [D] H4) q (L.map V.int)) b hw1 hbk
          obtain ⟨p1, hp1, hp2⟩ := done b (hys.mem_iff.mpr (by rw [← hk1]; exact hbk))
          rw [hp2] at hq
          walk_at "go"
          refine ⟨D, .ref q, rfl, ?_, ?_⟩
          · rw [← eq]
            exact DGet.k (k := Sum.inl b) (s1 _ _ (s6 _ _ eD4))
          walk_at "go"
          refine ⟨q, _, 0, .int p1, rfl, rfl, same_tup (hid_sub.trans (s6.trans s1)) hq, rfl, ?_⟩
          walk_at "go"
          rename_i t ht
          refine hC _ _ (same_new ht) ⟨t, b, rfl, hb, ?_⟩
          rw [hp2]
          refine SqT.of ?_
          rw [hid_at fun m => by rw [List.mem_singleton.mp m, e1] at ht; cases ht]
          exact upd_same
        · obtain ⟨ps, rfl⟩ := all_refs us fun u m => by
            obtain ⟨i, hi⟩ := List.getElem?_of_mem m
            obtain ⟨q, _, e, _⟩ := hr7 i u hi
            exact ⟨q, e⟩
          rw [List.length_map, List.length_map] at l7
          have pp : Prs K H7 ps (zs.map fun y => (y, (rowO O1 y).headD 0)) := prd_mk (by rw [List.length_map]; exact l7) fun i q c h1 h2 => by
            obtain ⟨t, b, e2, e3, e4⟩ := hr7 i (.ref q) (by rw [List.getElem?_map, h1]; rfl)
            cases e2
            rw [List.getElem?_map, e3] at h2
            cases h2
            exact same_tup hid_sub e4
          have ek : (zs.map fun y => (y, (rowO O1 y).headD 0)).map (·.1) = zs := by rw [List.map_map]; exact List.map_id _
          walk_at "go"
          refine ⟨D2, _, rfl, .inl ⟨SqL.of e7, fun r hr => ?_⟩⟩
          refine (fun (h : PlanOk O m (zs.map fun y => (y, (rowO O1 y).headD 0)) ∧ ∃ us, Srt O us ∧ Grd m O us (zs.map fun y => (y, (rowO O1 y).headD 0))) => k r (zs.map fun y => (y, (rowO O1 y).headD 0)) _ (((s4.trans s6).trans s7).trans (same_new hr)) ⟨ps, SqT.of upd_same, prs_same (same_new hr) pp⟩ ⟨by rw [ek]; exact hzs, by rw [ek]; exact hsz⟩ h.1 h.2) ?_
          refine (fun h1 h2 => ⟨h1, h2⟩ : PlanOk O m (zs.map fun y => (y, (rowO O1 y).headD 0)) → (∃ us, Srt O us ∧ Grd m O us (zs.map fun y => (y, (rowO O1 y).headD 0))) → PlanOk O m (zs.map fun y => (y, (rowO O1 y).headD 0)) ∧ ∃ us, Srt O us ∧ Grd m O us (zs.map fun y => (y, (rowO O1 y).headD 0))) ?_ ?_
          rotate_left
          · have ez : zs = ys := srt_un ⟨hzs, hsz⟩ ⟨hys, hsr⟩
            have g := grd [] [] (.nil _)
            rw [List.append_nil, List.append_nil] at g
            rw [ez]
            exact ⟨ys, ⟨hys, hsr⟩, g⟩
          refine plan_last hf1 hk1 ndz hzs (fun y hy => done y (hys.mem_iff.mpr (hzs.mem_iff.mp hy))) ek fun c hc => ?_
          obtain ⟨y, hy, rfl⟩ := List.mem_map.mp hc
          obtain ⟨p1, hp1, hp2⟩ := done y (hys.mem_iff.mpr (hzs.mem_iff.mp hy))
          show rowO O1 y = [(rowO O1 y).headD 0]
          rw [hp2]
          rfl
theorem ok_judge_share (T : Txt K mg)  (c_is_plan : Cal P w K mg base 2 "_is_plan" (sp_is_plan K)) (c_is_integer : Cal P w K mg base 1 "is_integer" (sp_is_integer K)) (c_shows : Cal P w K mg base 2 "_shows" (sp_shows K)) (c_most_of : Cal P w K mg base 1 "_most_of" (sp_most_of K)) {f : Addr} {fd : FuncData} (F : FnP K "judge_share" s_judge_share f fd) : FnOk P w K mg base CX0 3 f fd ["offers", "paper"] (sp_judge_share K) := by
  refine F.ok sc_judge_share (fun vs H Q E h => ?_) (fun cdv A outer s H vs Q E hr h => ?_)
  · obtain ⟨_, _, rfl, _⟩ := h
    rfl
  · have S := sc_judge_share
    refine ⟨_, PSs.nox (pss_cons (ps_if (pw_or (pt_not (pt_val (pe_callB call_isi (by rfl) T.f_isinstance (by first | rfl | decide +kernel) (pa_cons (pv 1) (pa_cons (pe_bltn (v := .ty "tuple") (by rfl) T.f_tuple (by first | rfl | decide +kernel) rfl) pa_nil))))) (pw_or1 (pt_cmpR op_ne (pe_callB call_len_seq (by rfl) T.f_len (by first | rfl | decide +kernel) (pa_cons (pv 1) pa_nil)) pe_int (nomark _)))).pt
    (pss_one (ps_ret pe_bl))
    pss_nil)
    (pss_cons (ps_asg (pv 1) (pg_tup rfl (pgs_cons (pg_name (i := 2) S.nd rfl (by first | exact .inl rfl | exact .inr rfl | exact .inr (.inl rfl) | exact .inr (.inr rfl))) (pgs_cons (pg_name (i := 3) S.nd rfl (by first | exact .inl rfl | exact .inr rfl | exact .inr (.inl rfl) | exact .inr (.inr rfl))) (pgs_cons (pg_name (i := 4) S.nd rfl (by first | exact .inl rfl | exact .inr rfl | exact .inr (.inl rfl) | exact .inr (.inr rfl))) pgs_nil)))))
    (pss_cons (ps_if (pw_or (pt_not (pt_val (pe_c c_is_integer hr (by decide) (by rfl) (pa_cons (pv 2) pa_nil)))) (pw_or1 (pt_not (pt_val (pe_c c_is_plan hr (by decide) (by rfl) (pa_cons (pv 0) (pa_cons (pv 3) pa_nil))))))).pt
    (pss_one (ps_ret pe_bl))
    pss_nil)
    (pss_one (ps_ret (pe_and (pe_cmpR op_eq (pv 2) (pe_c c_most_of hr (by decide) (by rfl) (pa_cons (pv 3) pa_nil)) (nomark _)) (pe_one (pe_c c_shows hr (by decide) (by rfl) (pa_cons (pv 0) (pa_cons (pv 2) (pa_cons (pv 4) pa_nil))))))))))), ?_⟩
    try dsimp only [cxOf, Cx.nox]
    obtain ⟨_, y, rfl, d, O, B, rfl, hO, ook, hp, k⟩ := h
    cases hp with
    | non =>
      walk_at "go"
      exact k false _ (Same.refl _) (by simp)
    | num i =>
      walk_at "go"
      exact k false _ (Same.refl _) (by simp)
    | lst p xs h =>
      walk_at "go"
      exact k false _ (Same.refl _) (by simp)
    | len p xs h n =>
      walk_at "go"
      have e : (!decide ((xs.length : Int) = 3)) = true := by simp; omega
      rw [e]
      walk_at "go"
      exact k false _ (Same.refl _) (by simp)
    | bool p c y z h =>
      walk_at "go"
      rw [if_neg (by simp)]
      walk_at "go"
      refine ⟨_, rfl, .inr (.inr ⟨c, rfl⟩), fun z => ?_, fun _ => ?_⟩
      · obtain ⟨i, z⟩ := z
        cases z
      walk_at "go"
      exact k false _ (Same.refl _) (by simp)
    | bad p a m z h ha =>
      walk_at "go"
      rw [if_neg (by simp)]
      walk_at "go"
      refine ⟨_, rfl, .inl ⟨m, rfl⟩, fun _ => ?_, fun z => absurd rfl (z _)⟩
      walk_at "go"
      refine ⟨_, _, rfl, d, a, O, _, rfl, rfl, hO, ook, ha, fun b H1 s1 hb => ?_⟩
      have e : b = false := by
        cases b with
        | false => rfl
        | true => exact (hb.mp rfl).elim
      subst e
      walk_at "go"
      exact k false _ s1 (by simp)
    | prs p a b m P B h ha hl hb =>
      walk_at "go"
      rw [if_neg (by simp)]
      walk_at "go"
      refine ⟨_, rfl, .inl ⟨m, rfl⟩, fun _ => ?_, fun z => absurd rfl (z _)⟩
      walk_at "go"
      refine ⟨_, _, rfl, d, a, O, _, rfl, rfl, hO, ook, .prs P ha hl, fun b1 H1 s1 h1 => ?_⟩
      cases b1 with
      | false =>
        walk_at "go"
        exact k false _ s1 ⟨fun z => (by cases z), fun z => h1.mpr z.1⟩
      | true =>
        have hpl := h1.mp rfl
        walk_at "go"
        refine ⟨_, rfl, a, P, rfl, ha.same s1, hl, fun j H2 s2 hj => ?_⟩
        have hjl := mc_len hj
        walk_at "go"
        by_cases hmj : m = (j : Int)
        · rw [decide_eq_true hmj]
          walk_at "go"
          refine ⟨_, _, _, rfl, d, b, O, m, B, rfl, rfl, rfl, by omega, by omega, hO.same (s1.trans s2), ook, hb.same (s1.trans s2), fun b2 H3 s3 h3 => ?_⟩
          walk_at "go"
          exact k b2 _ (s1.trans (s2.trans s3)) ⟨fun z => ⟨hpl, ⟨j, hj, hmj⟩, h3.mp z⟩, fun z => h3.mpr z.2.2⟩
        · rw [decide_eq_false hmj]
          walk_at "go"
          refine k false _ (s1.trans s2) ⟨fun z => (by cases z), fun z => ?_⟩
          obtain ⟨k2, hk2, e2⟩ := z.2.1
          rw [MC.un hk2 hj] at e2
          exact absurd e2 hmj
theorem ok_is_plan (T : Txt K mg)  (c_is_integer : Cal P w K mg base 1 "is_integer" (sp_is_integer K)) {f : Addr} {fd : FuncData} (F : FnP K "_is_plan" s_is_plan f fd) : FnOk P w K mg base CX0 2 f fd ["offers", "plan"] (sp_is_plan K) := by
  refine F.ok sc_is_plan (fun vs H Q E h => ?_) (fun cdv A outer s H vs Q E hr h => ?_)
  · obtain ⟨_, _, rfl, _⟩ := h
    rfl
  · have S := sc_is_plan
    refine ⟨_, PSs.nox (pss_cons (ps_if (pw_or (pt_not (pt_val (pe_callB call_isi (by rfl) T.f_isinstance (by first | rfl | decide +kernel) (pa_cons (pv 1) (pa_cons (pe_bltn (v := .ty "tuple") (by rfl) T.f_tuple (by first | rfl | decide +kernel) rfl) pa_nil))))) (pw_or1 (pt_cmpR op_ne (pe_callB call_len_seq (by rfl) T.f_len (by first | rfl | decide +kernel) (pa_cons (pv 1) pa_nil)) (pe_callB cr_lenDK (by rfl) T.f_len (by first | rfl | decide +kernel) (pa_cons (pv 0) pa_nil)) (nomark _)))).pt
    (pss_one (ps_ret pe_bl))
    pss_nil)
    (pss_cons (ps_for PassesOwn.never rfl (pi_zipLT (by rfl) T.f_zip (pa_cons (pe_callB (call_sortedDI rfl) (by rfl) T.f_sorted (by first | rfl | decide +kernel) (pa_cons (pv 0) pa_nil)) (pa_cons (pv 1) pa_nil))) (pg_tup rfl (pgs_cons (pg_name (i := 2) S.nd rfl (by first | exact .inl rfl | exact .inr rfl | exact .inr (.inl rfl) | exact .inr (.inr rfl))) (pgs_cons (pg_name (i := 3) S.nd rfl (by first | exact .inl rfl | exact .inr rfl | exact .inr (.inl rfl) | exact .inr (.inr rfl))) pgs_nil)))
    (pss_cons (ps_if (pw_or (pt_not (pt_val (pe_callB call_isi (by rfl) T.f_isinstance (by first | rfl | decide +kernel) (pa_cons (pv 3) (pa_cons (pe_bltn (v := .ty "tuple") (by rfl) T.f_tuple (by first | rfl | decide +kernel) rfl) pa_nil))))) (pw_or1 (pt_cmpR op_ne (pe_callB call_len_seq (by rfl) T.f_len (by first | rfl | decide +kernel) (pa_cons (pv 3) pa_nil)) pe_int (nomark _)))).pt
      (pss_one (ps_ret pe_bl))
      pss_nil)
      (pss_cons (ps_if (pw_or (pt_not (pt_val (pe_c c_is_integer hr (by decide) (by rfl) (pa_cons (pe_ix ix_tup (pv 3) pe_int (fun _ _ => rfl)) pa_nil)))) (pw_or1 (pt_cmpR op_ne (pe_ix ix_tup (pv 3) pe_int (fun _ _ => rfl)) (pv 2) (nomark _)))).pt
      (pss_one (ps_ret pe_bl))
      pss_nil)
      (pss_one (ps_if (pw_or (pt_not (pt_val (pe_c c_is_integer hr (by decide) (by rfl) (pa_cons (pe_ix ix_tup (pv 3) pe_int (fun _ _ => rfl)) pa_nil)))) (pw_or1 (pt_cmpR op_notIn_seq (pe_ix ix_tup (pv 3) pe_int (fun _ _ => rfl)) (pe_dget (hu_of hr) (pv 0) (pv 2) (fun _ _ => rfl)) (by first | rfl | with_unfolding_all rfl)))).pt
      (pss_one (ps_ret pe_bl))
      pss_nil)))))
    (pss_one (ps_ret pe_bl)))), ?_⟩
    try dsimp only [cxOf, Cx.nox]
    obtain ⟨_, _, rfl, d, p, O, B, rfl, rfl, hO, ook, hp, k⟩ := h
    obtain ⟨w, ed, hw⟩ := id hO
    have hwk := paired_keyO (R := fun q L => SqT K H q (L.map V.int)) hw
    have hlk : (keyO O).length ≤ 40 := by unfold keyO; rw [List.length_map]; exact ook.len
    cases hp with
    | lst xs h =>
      walk_at "go"
      exact k false _ (Same.refl _) (by simp)
    | nums is h h0 hl =>
      walk_at "go"
      refine ⟨d, dcO w, rfl, .inl ed, ?_⟩
      rw [dcO_len (R := fun q L => SqT K H q (L.map V.int)) hw, List.length_map, hl]
      walk_at "go"
      have eO : (!decide ((O.length : Int) = (O.length : Int))) = false := by simp
      rw [eO]
      walk_at "go"
      refine ⟨d, dcO w, keyO O, rfl, .inl ed, by rw [keys_dcO, hwk], by omega, fun ys l hys hsr hlf => ?_⟩
      have hyl := srt_len ⟨hys, hsr⟩
      have s1 := same_new (o := .lst (ys.map V.int)) hlf
      walk_at "go"
      refine ⟨l, p, _, _, rfl, SqL.of upd_same, same_tup s1 h, ?_⟩
      refine for_it (walk_zipLT (K := K) (xs := ys.map V.int) (ys := is.map V.int) (by rw [List.length_map, List.length_map]; omega)) (fun i σ H1 => i = 0 ∧ (∃ v2 v3 : Option V, σ = [some (.ref d), some (.ref p), v2, v3]) ∧ Same (upd H l (.lst (ys.map V.int))) H1) ⟨rfl, ⟨_, _, rfl⟩, Same.refl _⟩ (fun i σ H1 _ z => ⟨SqL.of (z.2.2 _ _ upd_same), same_tup (s1.trans z.2.2) h⟩) (fun i x σ H1 H2 hi z y => ?_) (fun σ H1 z => ?_)
      · obtain ⟨rfl, ⟨v2, v3, rfl⟩, s2⟩ := z
        obtain ⟨T, x1, x2, rfl, hT, rfl, e1, e2⟩ := y
        have e1 : (ys.map V.int)[0]? = some x1 := e1
        have e2 : (is.map V.int)[0]? = some x2 := e2
        rw [List.getElem?_map] at e1 e2
        obtain ⟨y1, hy1, rfl⟩ := Option.map_eq_some_iff.mp e1
        obtain ⟨y2, hy2, rfl⟩ := Option.map_eq_some_iff.mp e2
        refine ⟨T, _, rfl, SqT.of upd_same, rfl, ?_⟩
        walk_at "go"
        exact k false _ (s1.trans (s2.trans (same_new hT))) (by simp)
      · have := z.1
        rw [List.length_map] at this
        cases is with
        | nil => exact absurd rfl h0
        | cons a is => rw [hyl, ← hl] at this; cases this
    | prs P h hl =>
      obtain ⟨ps, hps, hP⟩ := h
      have hlen : ps.length = P.length := paired_len hP
      walk_at "go"
      refine ⟨d, dcO w, rfl, .inl ed, ?_⟩
      rw [dcO_len (R := fun q L => SqT K H q (L.map V.int)) hw, List.length_map, hlen]
      walk_at "go"
      by_cases hPO : P.length = O.length
      · have eO : (!decide ((P.length : Int) = (O.length : Int))) = false := by simp [hPO]
        rw [eO]
        walk_at "go"
        refine ⟨d, dcO w, keyO O, rfl, .inl ed, by rw [keys_dcO, hwk], by omega, fun ys l hys hsr hlf => ?_⟩
        have hyl := srt_len ⟨hys, hsr⟩
        have s1 := same_new (o := .lst (ys.map V.int)) hlf
        walk_at "go"
        refine ⟨l, p, _, _, rfl, SqL.of upd_same, same_tup s1 hps, ?_⟩
        refine for_it (walk_zipLT (K := K) (xs := ys.map V.int) (ys := ps.map V.ref) (by rw [List.length_map, List.length_map]; omega)) (fun i σ H1 => (∃ v2 v3 : Option V, σ = [some (.ref d), some (.ref p), v2, v3]) ∧ Same (upd H l (.lst (ys.map V.int))) H1 ∧ (P.take i).map (·.1) = ys.take i ∧ ∀ c ∈ P.take i, c.2 ∈ rowO O c.1) ⟨⟨_, _, rfl⟩, Same.refl _, rfl, fun c hc => (by cases hc)⟩ (fun i σ H1 _ z => ⟨SqL.of (z.2.1 _ _ upd_same), same_tup (s1.trans z.2.1) hps⟩) (fun i x σ H1 H2 hi z y => ?_) (fun σ H1 z => ?_)
        · obtain ⟨⟨v2, v3, rfl⟩, s2, t1, t2⟩ := z
          obtain ⟨T, x1, x2, rfl, hT, rfl, e1, e2⟩ := y
          have e1 : (ys.map V.int)[i]? = some x1 := e1
          rw [List.getElem?_map] at e1
          obtain ⟨y1, hy1, rfl⟩ := Option.map_eq_some_iff.mp e1
          obtain ⟨q, c, rfl, hc, hqc⟩ := prs_at (i := i) hP e2
          have tk1 : P.take (i + 1) = P.take i ++ [c] := by rw [List.take_succ, hc]; rfl
          have tk2 : ys.take (i + 1) = ys.take i ++ [y1] := by rw [List.take_succ, hy1]; rfl
          have hcP := List.mem_of_getElem? hc
          have s3 : Same H (upd H1 T (.tup [V.int y1, V.ref q])) := s1.trans (s2.trans (same_new hT))
          have hq3 := same_tup s3 hqc
          have hyk : y1 ∈ keyO O := hys.mem_iff.mp (List.mem_of_getElem? hy1)
          refine ⟨T, _, rfl, SqT.of upd_same, rfl, ?_⟩
          have s23 := s2.trans (same_new (o := .tup [V.int y1, V.ref q]) hT)
          revert s3 hq3 s23
          generalize upd H1 T (.tup [V.int y1, V.ref q]) = H3
          intro s3 hq3 s23
          walk_at "go"
          rw [if_neg (by simp)]
          walk_at "go"
          refine ⟨q, _, 0, .int c.1, rfl, rfl, hq3, rfl, ?_⟩
          walk_at "go"
          refine ⟨_, rfl, .inl ⟨_, rfl⟩, fun _ => ?_, fun z => absurd rfl (z _)⟩
          walk_at "go"
          refine ⟨q, _, 0, .int c.1, rfl, rfl, hq3, rfl, ?_⟩
          walk_at "go"
          by_cases hcy : c.1 = y1
          · rw [if_neg (by simp [hcy])]
            walk_at "go"
            refine ⟨q, _, 1, .int c.2, rfl, rfl, hq3, rfl, ?_⟩
            walk_at "go"
            refine ⟨_, rfl, .inl ⟨_, rfl⟩, fun _ => ?_, fun z => absurd rfl (z _)⟩
            walk_at "go"
            refine ⟨q, _, 1, .int c.2, rfl, rfl, hq3, rfl, ?_⟩
            obtain ⟨r, er, hr⟩ := val_dcO (R := fun q L => SqT K H q (L.map V.int)) y1 hw hyk
            walk_at "go"
            refine ⟨d, .ref r, rfl, by rw [← er]; exact DGet.k (k := Sum.inl y1) (s3 _ _ ed), ?_⟩
            walk_at "go"
            refine in_ints (same_tup s3 hr) ?_
            by_cases hcr : c.2 ∈ rowO O y1
            · rw [decide_eq_true hcr]
              walk_at "go"
              refine ⟨⟨_, _, rfl⟩, s23, ?_, fun c2 hc2 => ?_⟩
              · rw [tk1, tk2, List.map_append, t1]
                show _ ++ [c.1] = _
                rw [hcy]
              · rw [tk1] at hc2
                rcases List.mem_append.mp hc2 with z | z
                · exact t2 c2 z
                · rw [List.mem_singleton.mp z, hcy]; exact hcr
            · rw [decide_eq_false hcr]
              walk_at "go"
              refine k false _ s3 ⟨fun z => (by cases z), fun z => absurd ?_ hcr⟩
              have := z.2 c hcP
              rw [hcy] at this
              exact this
          · rw [if_pos (by simp [hcy])]
            walk_at "go"
            refine k false _ s3 ⟨fun z => (by cases z), fun z => absurd ?_ hcy⟩
            have e : P.map (·.1) = ys := srt_un z.1 ⟨hys, hsr⟩
            have h1 : (P.map (·.1))[i]? = some c.1 := by rw [List.getElem?_map, hc]; rfl
            rw [e, hy1] at h1
            exact (Option.some.inj h1).symm
        · obtain ⟨⟨v2, v3, rfl⟩, s2, t1, t2⟩ := z
          rw [List.length_map, hyl, ← hPO, List.take_length] at t1
          rw [List.length_map, hyl, ← hPO, List.take_length] at t2
          rw [hPO, ← hyl, List.take_length] at t1
          walk_at "go"
          exact k true _ (s1.trans s2) ⟨fun _ => ⟨by rw [t1]; exact ⟨hys, hsr⟩, t2⟩, fun _ => rfl⟩
      · have eO : (!decide ((P.length : Int) = (O.length : Int))) = true := by simp; omega
        rw [eO]
        walk_at "go"
        refine k false _ (Same.refl _) ⟨fun z => (by cases z), fun z => ?_⟩
        have := srt_len z.1
        rw [List.length_map] at this
        exact absurd this hPO
theorem ok_most_of (T : Txt K mg)   {f : Addr} {fd : FuncData} (F : FnP K "_most_of" s_most_of f fd) : FnOk P w K mg base CX0 1 f fd ["plan"] (sp_most_of K) := by
  refine F.ok sc_most_of (fun vs H Q E h => ?_) (fun cdv A outer s H vs Q E hr h => ?_)
  · obtain ⟨_, rfl, _⟩ := h
    rfl
  · have S := sc_most_of
    refine ⟨_, PSs.nox (pss_cons (ps_set (i := 1) S.nd rfl (by first | exact .inl rfl | exact .inr rfl | exact .inr (.inl rfl) | exact .inr (.inr rfl)) (pe_lc (own := [("_", 2), ("peer", 3)]) (g := gTup K 2 (gCons (gName 2) (gCons (gName 3) gNil))) (tt := tYes) rfl S.nd (pi_tup (pv 0)) (blkOk_by (N := N_most_of) (sc := defScope s_most_of) (by decide +kernel)) (fun _ _ _ _ _ => (pg_tupK (n := 2) K rfl (pgs_cons (pg_name (i := 2) S.nd rfl (by first | exact .inl rfl | exact .inr rfl | exact .inr (.inl rfl) | exact .inr (.inr rfl))) (pgs_cons (pg_name (i := 3) S.nd rfl (by first | exact .inl rfl | exact .inr rfl | exact .inr (.inl rfl) | exact .inr (.inr rfl))) pgs_nil)))) (fun _ _ _ _ _ => pts_nil) (fun _ _ _ _ _ => (pv 3))))
    (pss_one (ps_ret (pe_maxDf rfl hr.units (by rfl) T.f_max (pa_cons (pe_lc (own := [("peer", 3)]) (g := gName 3) (tt := tYes) rfl S.nd (pi_list (pv 1)) (blkOk_by (N := N_most_of) (sc := defScope s_most_of) (by decide +kernel)) (fun _ _ _ _ _ => (pg_name (i := 3) S.nd rfl (by first | exact .inl rfl | exact .inr rfl | exact .inr (.inl rfl) | exact .inr (.inr rfl)))) (fun _ _ _ _ _ => pts_nil) (fun _ _ _ _ _ => (pe_lcountK K (pv 1) (pa_cons (pv 3) pa_nil)))) pa_nil) pe_int)))), ?_⟩
    try dsimp only [cxOf, Cx.nox]
    obtain ⟨_, rfl, a, P, rfl, ⟨ps, hps, hP⟩, hl, k⟩ := h
    have hlen : ps.length = P.length := paired_len hP
    walk_at "go"
    intro D hD
    refine lc_prs hD hps hP (by omega) (fun c => V.int c.2) (fun p c H2 C E hc hpc s2 hC => ?_) (fun H2 s2 e2 => ?_)
    · walk_at "go"
      exact hC _ (Same.refl _)
    · have e3 : P.map (fun c => V.int c.2) = (P.map (·.2)).map V.int := by rw [List.map_map]; rfl
      rw [e3] at e2
      walk_at "go"
      intro D2 hD2
      refine lc_map_lst (SqL.of e2) hD2 (by rw [List.length_map, List.length_map]; omega) (fun x => match x with | .int q => .int ((cP P q : Nat) : Int) | _ => .non) (fun x H3 C E hx s3 hC => ?_) (fun H3 s3 e4 => ?_)
      · obtain ⟨q, hq, rfl⟩ := List.mem_map.mp hx
        walk_at "go"
        refine ⟨.inl ⟨rfl, _, SqL.of (s3 _ _ e2)⟩, ?_⟩
        walk_at "go"
        refine ⟨D, _, q, rfl, rfl, SqL.of (s3 _ _ e2), ?_⟩
        rw [cP_count]
        exact hC _ (Same.refl _)
      · have e5 : (((P.map (·.2)).map V.int).map fun x => match x with | .int q => V.int ((cP P q : Nat) : Int) | _ => .non) = ((P.map (·.2)).map fun q => ((cP P q : Nat) : Int)).map V.int := by
          simp only [List.map_map]
          rfl
        rw [e5] at e4
        walk_at "go"
        refine ⟨D2, _, 0, rfl, rfl, SqL.of e4, fun e => ?_, fun m h1 h2 => ?_⟩
        · have : P = [] := List.map_eq_nil_iff.mp (List.map_eq_nil_iff.mp e)
          subst this
          exact k 0 _ (s2.trans s3) mc_nil
        · obtain ⟨n, rfl, hn⟩ := mc_of h1 h2
          exact k n _ (s2.trans s3) hn
theorem ok_shows (T : Txt K mg)  (c_is_integer : Cal P w K mg base 1 "is_integer" (sp_is_integer K)) {f : Addr} {fd : FuncData} (F : FnP K "_shows" s_shows f fd) : FnOk P w K mg base CX0 2 f fd ["offers", "most", "blocks"] (sp_shows K) := by
  refine F.ok sc_shows (fun vs H Q E h => ?_) (fun cdv A outer s H vs Q E hr h => ?_)
  · obtain ⟨_, _, _, rfl, _⟩ := h
    rfl
  · have S := sc_shows
    refine ⟨_, PSs.nox (pss_cons (ps_if (pw_or (pt_not (pt_val (pe_callB call_isi (by rfl) T.f_isinstance (by first | rfl | decide +kernel) (pa_cons (pv 2) (pa_cons (pe_bltn (v := .ty "tuple") (by rfl) T.f_tuple (by first | rfl | decide +kernel) rfl) pa_nil))))) (pw_or1 (pt_not (pt_val (pe_callB (cr_all rfl) (by rfl) T.f_all (by first | rfl | decide +kernel) (pa_cons (pe_lc (own := [("block", 4)]) (g := gName 4) (tt := tYes) rfl S.nd (pi_tup (pv 2)) (blkOk_by (N := N_shows) (sc := defScope s_shows) (by decide +kernel)) (fun _ _ _ _ _ => (pg_name (i := 4) S.nd rfl (by first | exact .inl rfl | exact .inr rfl | exact .inr (.inl rfl) | exact .inr (.inr rfl)))) (fun _ _ _ _ _ => pts_nil) (fun _ _ _ _ _ => (pe_and (pe_c c_is_integer hr (by decide) (by rfl) (pa_cons (pv 4) pa_nil)) (pe_one (pe_cmp (pc_din (hu_of hr) (pv 4) (pv 0))))))) pa_nil)))))).pt
    (pss_one (ps_ret pe_bl))
    pss_nil)
    (pss_cons (ps_if (pt_not (pt_val (pe_callB (cr_all rfl) (by rfl) T.f_all (by first | rfl | decide +kernel) (pa_cons (pe_lc (own := [("first", 5), ("second", 6)]) (g := gTup K 2 (gCons (gName 5) (gCons (gName 6) gNil))) (tt := tYes) rfl S.nd (RZ.pi_zipA (by rfl) T.f_zip (pa_cons (pv 2) (pa_cons (pe_slice sl_tupA (pv 2) (po_some pe_int) po_none) pa_nil))) (blkOk_by (N := N_shows) (sc := defScope s_shows) (by decide +kernel)) (fun _ _ _ _ _ => (pg_tupK (n := 2) K rfl (pgs_cons (pg_name (i := 5) S.nd rfl (by first | exact .inl rfl | exact .inr rfl | exact .inr (.inl rfl) | exact .inr (.inr rfl))) (pgs_cons (pg_name (i := 6) S.nd rfl (by first | exact .inl rfl | exact .inr rfl | exact .inr (.inl rfl) | exact .inr (.inr rfl))) pgs_nil)))) (fun _ _ _ _ _ => pts_nil) (fun _ _ _ _ _ => (pe_cmpR op_lt (pv 5) (pv 6) (nomark _)))) pa_nil))))
    (pss_one (ps_ret pe_bl))
    pss_nil)
    (pss_cons (ps_set (i := 3) S.nd rfl (by first | exact .inl rfl | exact .inr rfl | exact .inr (.inl rfl) | exact .inr (.inr rfl)) (pe_callTy (cr_setL rfl) (by rfl) T.f_set (by first | rfl | decide +kernel) (pa_cons (pe_lc2 (own := [("block", 4), ("peer", 7)]) (vs1 := [7]) (g := gName 4) (g1 := gName 7) (tt := tYes) (tt1 := tYes) rfl S.nd (pi_tup (pv 2)) (blkOk_by (N := N_shows) (sc := defScope s_shows) (by decide +kernel)) (by decide) (fun _ _ _ _ _ => (pg_name (i := 4) S.nd rfl (by first | exact .inl rfl | exact .inr rfl | exact .inr (.inl rfl) | exact .inr (.inr rfl)))) (fun _ _ _ _ _ => pts_nil) (fun _ _ _ _ _ => (pi_tupK K (pe_dget (hu_of hr) (pv 0) (pv 4) (fun _ _ => rfl)))) (fun _ _ _ _ _ => (pg_name (i := 7) S.nd rfl (by first | exact .inl rfl | exact .inr rfl | exact .inr (.inl rfl) | exact .inr (.inr rfl)))) (fun _ _ _ _ _ => pts_nil) (fun _ _ _ _ _ => (pv 7))) pa_nil)))
    (pss_one (ps_ret (pe_ifExp (pt_cmpR op_gt (pv 1) pe_int (nomark _)) (pe_cmpR op_gt (pe_callB call_len_seq (by rfl) T.f_len (by first | rfl | decide +kernel) (pa_cons (pv 2) pa_nil)) (pe_op op_mul (pe_op op_sub (pv 1) pe_int) (pe_callB cr_lenS (by rfl) T.f_len (by first | rfl | decide +kernel) (pa_cons (pv 3) pa_nil))) (nomark _)) (pe_cmpR op_eq (pe_callB call_len_seq (by rfl) T.f_len (by first | rfl | decide +kernel) (pa_cons (pv 2) pa_nil)) pe_int (nomark _)))))))), ?_⟩
    try dsimp only [cxOf, Cx.nox]
    obtain ⟨_, _, _, rfl, d, p, O, m, B, rfl, rfl, rfl, hm, hm2, hO, ook, hp, k⟩ := h
    obtain ⟨wl, ed, hw⟩ := id hO
    have hwk := paired_keyO (R := fun q L => SqT K H q (L.map V.int)) hw
    have hlk : (keyO O).length ≤ 40 := by unfold keyO; rw [List.length_map]; exact ook.len
    cases hp with
    | lst xs h =>
      walk_at "go"
      exact k false _ (Same.refl _) (by simp)
    | non h =>
      walk_at "go"
      intro D hD
      refine lc_tupM hD h (by decide) (fun x => .bl false) (fun x H2 C E hx s2 hC => ?_) (fun H2 s2 e2 => ?_)
      · rw [List.mem_singleton.mp hx]
        walk_at "go"
        refine ⟨_, rfl, .inr (.inl rfl), fun z => ?_, fun _ => ?_⟩
        · obtain ⟨i, z⟩ := z
          cases z
        walk_at "go"
        exact hC _ (Same.refl _)
      · walk_at "go"
        refine ⟨D, [false], rfl, SqL.of e2, ?_⟩
        walk_at "go"
        exact k false _ s2 (by simp)
    | nums bs h hl =>
      walk_at "go"
      intro D hD
      refine lc_tupM hD h (by rw [List.length_map]; omega) (fun x => match x with | .int i => .bl (decide (i ∈ keyO O)) | _ => .non) (fun x H2 C E hx s2 hC => ?_) (fun H2 s2 e2 => ?_)
      · obtain ⟨i, hi, rfl⟩ := List.mem_map.mp hx
        walk_at "go"
        refine ⟨_, rfl, .inl ⟨_, rfl⟩, fun _ => ?_, fun z => absurd rfl (z _)⟩
        walk_at "go"
        refine ⟨d, _, rfl, DGet.k (k := Sum.inl i) (s2 _ _ ed), ?_⟩
        rw [val_keyO, hwk]
        exact hC _ (Same.refl _)
      · have e3 : ((bs.map V.int).map fun x => match x with | .int i => V.bl (decide (i ∈ keyO O)) | _ => .non) = (bs.map fun i => decide (i ∈ keyO O)).map V.bl := by
          simp only [List.map_map]
          rfl
        rw [e3] at e2
        walk_at "go"
        refine ⟨D, _, rfl, SqL.of e2, ?_⟩
        walk_at "go"
        by_cases hin : ∀ x ∈ bs, x ∈ keyO O
        · have ea : (!(bs.map fun i => decide (i ∈ keyO O)).all id) = false := by
            rw [Bool.not_eq_false', List.all_map]
            exact List.all_eq_true.mpr fun x hx => decide_eq_true (hin x hx)
          rw [ea]
          walk_at "go"
          refine e_slA (same_tup s2 h) fun r H3 s3 hr => ?_
          have ec : cutV (bs.map V.int) (some 1) none = (bs.drop 1).map V.int := by
            have e := cut_fromV (bs.map V.int) 1
            rw [← List.map_drop] at e
            exact e
          rw [ec] at hr
          walk_at "go"
          refine ⟨p, r, _, _, rfl, .inr ⟨same_tup (s2.trans s3) h, hr, fun D2 hD2 => ?_⟩⟩
          refine lc_it (walk_zipTT (K := K) (xs := bs.map V.int) (ys := (bs.drop 1).map V.int) (n := bs.length - 1) (by rw [List.length_map, List.length_map, List.length_drop]; omega)) (fun i H1 => Same H3 H1 ∧ H1 D2 = some (.lst (((List.range i).map fun j => decide (bs.getD j 0 < bs.getD (j + 1) 0)).map V.bl))) ⟨same_new hD2, upd_same⟩ (fun i H1 _ z => ⟨same_tup (s2.trans (s3.trans z.1)) h, same_tup z.1 hr⟩) (fun i x H1 H4 hi z y => ?_) (fun H4 z => ?_)
          · obtain ⟨s4, e4⟩ := z
            obtain ⟨T, x1, x2, rfl, hT, rfl, g1, g2⟩ := y
            have g1 : (bs.map V.int)[i]? = some x1 := g1
            have g2 : ((bs.drop 1).map V.int)[i]? = some x2 := g2
            rw [List.getElem?_map] at g1 g2
            obtain ⟨y1, hy1, rfl⟩ := Option.map_eq_some_iff.mp g1
            obtain ⟨y2, hy2, rfl⟩ := Option.map_eq_some_iff.mp g2
            rw [List.getElem?_drop] at hy2
            have d1 : bs.getD i 0 = y1 := by rw [List.getD_eq_getElem?_getD, hy1]; rfl
            have d2 : bs.getD (i + 1) 0 = y2 := by rw [List.getD_eq_getElem?_getD, Nat.add_comm i 1, hy2]; rfl
            refine ⟨T, _, rfl, SqT.of upd_same, rfl, ?_⟩
            walk_at "go"
            refine ⟨_, (same_new hT) _ _ e4, Nat.lt_of_le_of_lt (by rw [List.length_map, List.length_map, List.length_range]; omega : _ ≤ 1000000) (by decide), Same.mut (s4.trans (same_new hT)) hD2, ?_⟩
            rw [upd_same, List.range_succ, List.map_append, List.map_append]
            show _ = some (HO.lst (_ ++ [V.bl (decide (bs.getD i 0 < bs.getD (i + 1) 0))]))
            rw [d1, d2]
          · obtain ⟨s4, e4⟩ := z
            walk_at "go"
            refine ⟨D2, _, rfl, SqL.of e4, ?_⟩
            walk_at "go"
            have hall : ((List.range (bs.length - 1)).map fun j => decide (bs.getD j 0 < bs.getD (j + 1) 0)).all id = true ↔ bs.Pairwise (· < ·) := by
              rw [← asc_iff, List.all_map, List.all_eq_true]
              exact ⟨fun q j hj => of_decide_eq_true (q j (List.mem_range.mpr (by omega))), fun q j hj => decide_eq_true (q j (by have := List.mem_range.mp hj; omega))⟩
            by_cases hasc : bs.Pairwise (· < ·)
            · have eb : (!((List.range (bs.length - 1)).map fun j => decide (bs.getD j 0 < bs.getD (j + 1) 0)).all id) = false := by
                rw [hall.mpr hasc]; rfl
              rw [eb]
              walk_at "go"
              have s04 := s2.trans (s3.trans s4)
              refine ⟨p, rfl, ⟨_, same_tup s04 h⟩, fun D3 hD3 => ?_⟩
              refine lc2_it (walk_tup (K := K) (xs := bs.map V.int)) (fun i H1 => Same H4 H1 ∧ ∃ acc : List Int, H1 D3 = some (.lst (acc.map V.int)) ∧ acc.length ≤ 4 * i ∧ ∀ q, q ∈ acc ↔ ∃ x ∈ bs.take i, q ∈ rowO O x) ⟨same_new hD3, [], upd_same, Nat.le_refl _, by simp⟩ (fun i H1 _ z => same_tup (s04.trans z.1) h) (fun i x H1 H5 hi z y => ?_) (fun H5 z => ?_)
              · obtain ⟨s5, acc, e5, l5, m5⟩ := z
                obtain ⟨rfl, hx⟩ := y
                rw [List.getElem?_map] at hx
                obtain ⟨x, hx1, rfl⟩ := Option.map_eq_some_iff.mp hx
                have hxb : x ∈ bs := List.mem_of_getElem? hx1
                have hxk := hin x hxb
                obtain ⟨r0, hr0, er0⟩ := row_in ook hxk
                have hl4 := (ook.rows _ hr0).2.1
                rw [er0] at hl4
                obtain ⟨q, eq, hq⟩ := val_dcO (R := fun q L => SqT K H q (L.map V.int)) x hw hxk
                have hq5 := same_tup (s04.trans s5) hq
                have tk : bs.take (i + 1) = bs.take i ++ [x] := by rw [List.take_succ, hx1]; rfl
                walk_at "go"
                refine ⟨d, .ref q, rfl, by rw [← eq]; exact DGet.k (k := Sum.inl x) (s04.trans s5 _ _ ed), q, rfl, ⟨_, hq5⟩, ?_⟩
                refine inn_it (walk_tup (K := K) (xs := (rowO O x).map V.int)) (fun j H1 => Same H4 H1 ∧ H1 D3 = some (.lst ((acc ++ (rowO O x).take j).map V.int))) ⟨s5, by rw [List.take_zero, List.append_nil]; exact e5⟩ (fun j H1 _ z => same_tup (s04.trans z.1) hq) (fun j y H1 H6 hj z hy => ?_) (fun H6 z => ?_)
                · obtain ⟨s6, e6⟩ := z
                  obtain ⟨rfl, hy⟩ := hy
                  rw [List.getElem?_map] at hy
                  obtain ⟨y, hy1, rfl⟩ := Option.map_eq_some_iff.mp hy
                  have hi50 : i < bs.length := by rw [List.length_map] at hi; exact hi
                  walk_at "go"
                  refine ⟨_, e6, Nat.lt_of_le_of_lt (by rw [List.length_map, List.length_append, List.length_take]; omega : _ ≤ 1000000) (by decide), Same.mut s6 hD3, ?_⟩
                  rw [upd_same, List.take_succ, hy1, ← List.append_assoc]
                  simp only [List.map_append]
                  rfl
                · obtain ⟨s6, e6⟩ := z
                  rw [List.length_map, List.take_length] at e6
                  refine ⟨s6, _, e6, by rw [List.length_append]; omega, fun r => ?_⟩
                  rw [tk, List.mem_append, m5]
                  constructor
                  · rintro (⟨x', h1, h2⟩ | h1)
                    · exact ⟨x', List.mem_append_left _ h1, h2⟩
                    · exact ⟨x, by simp, h1⟩
                  · rintro ⟨x', h1, h2⟩
                    rcases List.mem_append.mp h1 with h1 | h1
                    · exact .inl ⟨x', h1, h2⟩
                    · rw [List.mem_singleton.mp h1] at h2; exact .inr h2
              · obtain ⟨s5, acc, e5, l5, m5⟩ := z
                rw [List.length_map] at l5
                rw [List.length_map, List.take_length] at m5
                walk_at "go"
                refine ⟨D3, acc, rfl, SqL.of e5, by omega, fun a n ha hn => ?_⟩
                have s6 := (s04.trans s5).trans (same_new (o := SetO w a (fun j => decide (j ∈ acc)) n) ha)
                have ea6 : (upd H5 a (SetO w a (fun j => decide (j ∈ acc)) n)) a = some (SetO w a (fun j => decide (j ∈ acc)) n) := upd_same
                revert s6 ea6
                generalize upd H5 a (SetO w a (fun j => decide (j ∈ acc)) n) = H6
                intro s6 ea6
                have hp6 := same_tup s6 h
                walk_at "go"
                by_cases hm0 : 0 < m
                · rw [if_pos (decide_eq_true hm0)]
                  walk_at "go"
                  refine ⟨a, _, n, rfl, ea6, fun N nd hN => ?_⟩
                  have hNe : Nei O bs N := ⟨nd, fun q => by rw [← hN q, decide_eq_true_iff, m5]⟩
                  have hNl := List.Nodup.length_le_of_subset nd (l₂ := acc) fun q hq => of_decide_eq_true ((hN q).mpr hq)
                  walk_at "go"
                  refine k _ _ s6 ?_
                  rw [decide_eq_true_iff, List.length_map]
                  constructor
                  · intro z
                    refine ⟨fun _ => ⟨hasc, hin, fun M hM => ?_⟩, fun z0 => by omega⟩
                    rw [Nei.len hM hNe]; exact z
                  · intro z
                    exact (z.1 hm0).2.2 N hNe
                · rw [if_neg (by simp [hm0])]
                  walk_at "go"
                  refine k _ _ s6 ?_
                  rw [decide_eq_true_iff, List.length_map]
                  constructor
                  · intro z
                    exact ⟨fun z0 => absurd z0 hm0, fun _ => List.eq_nil_of_length_eq_zero (by omega)⟩
                  · intro z
                    rw [z.2 (by omega)]; rfl
            · have eb : (!((List.range (bs.length - 1)).map fun j => decide (bs.getD j 0 < bs.getD (j + 1) 0)).all id) = true := by
                rw [Bool.not_eq_true']
                exact Bool.eq_false_iff.mpr fun z => hasc (hall.mp z)
              rw [eb]
              walk_at "go"
              refine k false _ (s2.trans (s3.trans s4)) ⟨fun z => (by cases z), fun z => absurd ?_ hasc⟩
              rcases Int.lt_or_le 0 m with z0 | z0
              · exact (z.1 z0).1
              · rw [z.2 z0]; exact List.Pairwise.nil
        · have ea : (!(bs.map fun i => decide (i ∈ keyO O)).all id) = true := by
            rw [Bool.not_eq_true', List.all_map]
            refine Bool.eq_false_iff.mpr fun z => hin fun x hx => ?_
            exact of_decide_eq_true (List.all_eq_true.mp z x hx)
          rw [ea]
          walk_at "go"
          refine k false _ s2 ⟨fun z => (by cases z), fun z => absurd (fun x hx => ?_) hin⟩
          rcases Int.lt_or_le 0 m with z0 | z0
          · exact (z.1 z0).2.1 x hx
          · rw [z.2 z0] at hx; cases hx
theorem ok_law_draws (T : Txt K mg)   {f : Addr} {fd : FuncData} (F : FnP K "_law_draws" s_law_draws f fd) : FnOk P w K mg base CX0 1 f fd ["script"] (sp_law_draws K) := by
  refine F.ok sc_law_draws (fun vs H Q E h => ?_) (fun cdv A outer s H vs Q E hr h => ?_)
  · obtain ⟨_, rfl, _⟩ := h
    rfl
  · have S := sc_law_draws
    refine ⟨_, PSs.nox (pss_one (ps_ret (pe_lst (pa_cons (pe_callTy call_list_of (by rfl) T.f_list (by first | rfl | decide +kernel) (pa_cons (pv 0) pa_nil)) (pa_cons pe_int (pa_cons pe_int (pa_cons pe_int pa_nil))))))), ?_⟩
    try dsimp only [cxOf, Cx.nox]
    obtain ⟨_, rfl, sa, ns, rfl, hS, hl, k⟩ := h
    walk_at "go"
    intro l hl2
    walk_at "go"
    rename_i p hp
    have s1 := same_new (o := .lst (ns.map V.int)) hl2
    have s2 := same_new (o := .lst [V.ref l, V.int 0, V.int 0, V.int 1]) hp
    have np : l ≠ p := fun e => by
      rw [← e, upd_same] at hp
      cases hp
    exact k p l _ (s1.free hp) (s1.trans s2) ⟨⟨0, 0, 1, by decide, by decide, by decide, upd_same⟩, by rw [upd_ne np]; exact upd_same, np, hl⟩
theorem ok_law_draw (T : Txt K mg)   {f : Addr} {fd : FuncData} (F : FnP K "_law_draw" s_law_draw f fd) : FnOk P w K mg base CX0 1 f fd ["draws", "limit"] (sp_law_draw K) := by
  refine F.ok sc_law_draw (fun vs H Q E h => ?_) (fun cdv A outer s H vs Q E hr h => ?_)
  · obtain ⟨_, _, rfl, _⟩ := h
    rfl
  · have S := sc_law_draw
    refine ⟨_, PSs.nox (C8.pss_cut (ps_if (pw_and (pt_cmpR op_eq (pe_ix ix_list (pv 0) pe_int (fun _ _ => rfl)) pe_int (nomark _)) (pw_and1 (pt_cmpR op_lt (pe_ix ix_list (pv 0) pe_int (fun _ _ => rfl)) (pe_callB call_len_seq (by rfl) T.f_len (by first | rfl | decide +kernel) (pa_cons (pe_ix ix_list (pv 0) pe_int (fun _ _ => rfl)) pa_nil)) (nomark _)))).pt
    (pss_cons (ps_set (i := 2) S.nd rfl (by first | exact .inl rfl | exact .inr rfl | exact .inr (.inl rfl) | exact .inr (.inr rfl)) (pe_callB call_abs (by rfl) T.f_abs (by first | rfl | decide +kernel) (pa_cons (pe_callTy call_int1 (by rfl) T.f_int (by first | rfl | decide +kernel) (pa_cons (pe_ix ix_list (pe_ix ix_list (pv 0) pe_int (fun _ _ => rfl)) (pe_ix ix_list (pv 0) pe_int (fun _ _ => rfl)) (fun _ _ => rfl)) pa_nil)) pa_nil)))
      (pss_cons (ps_asg (pe_op op_add (pe_ix ix_list (pv 0) pe_int (fun _ _ => rfl)) pe_int) (pg_sub (pv 0) pe_int set_list))
      (C8.pss_cut (ps_if (pt_cmpR op_ge (pv 2) (pe_op op_pow pe_int pe_int) (nomark _))
      (pss_one (ps_asg (pv 2) (pg_sub (pv 0) pe_int set_list)))
      pss_nil)
      (pss_one (ps_asg (pe_op op_mod (pe_callTy call_int1 (by rfl) T.f_int (by first | rfl | decide +kernel) (pa_cons (pe_op op_add (pe_op op_add (pe_op op_mul (pe_ix ix_list (pv 0) pe_int (fun _ _ => rfl)) pe_int) (pv 2)) pe_int) pa_nil)) pe_int) (pg_sub (pv 0) pe_int set_list))))))
    pss_nil)
    (pss_cons (ps_if (pt_cmpR op_gt (pe_ix ix_list (pv 0) pe_int (fun _ _ => rfl)) pe_int (nomark _))
    (pss_cons (ps_set (i := 3) S.nd rfl (by first | exact .inl rfl | exact .inr rfl | exact .inr (.inl rfl) | exact .inr (.inr rfl)) (pe_op op_mod (pe_callTy call_int1 (by rfl) T.f_int (by first | rfl | decide +kernel) (pa_cons (pe_ix ix_list (pv 0) pe_int (fun _ _ => rfl)) pa_nil)) (pv 1)))
      (pss_cons (ps_asg (pe_op op_fdivW (pe_ix ix_list (pv 0) pe_int (fun _ _ => rfl)) (pv 1)) (pg_sub (pv 0) pe_int set_list))
      (pss_one (ps_ret (pv 3)))))
    pss_nil)
    (pss_cons (ps_asg (pe_op op_mod (pe_callTy call_int1 (by rfl) T.f_int (by first | rfl | decide +kernel) (pa_cons (pe_op op_add (pe_op op_mul (pe_ix ix_list (pv 0) pe_int (fun _ _ => rfl)) pe_int) pe_int) pa_nil)) pe_int) (pg_sub (pv 0) pe_int set_list))
    (pss_one (ps_ret (pe_op op_mod (pe_callTy call_int1 (by rfl) T.f_int (by first | rfl | decide +kernel) (pa_cons (pe_op op_fdivW (pe_ix ix_list (pv 0) pe_int (fun _ _ => rfl)) pe_int) pa_nil)) (pv 1))))))), ?_⟩
    try dsimp only [cxOf, Cx.nox]
    obtain ⟨_, _, rfl, st, sc, ns, n, rfl, rfl, d, hn0, hn1, k⟩ := h
    obtain ⟨ia, ib, ic, ha0, hb0, hc0, hs⟩ := d.s
    have h1 : ∀ (x y z : Int), 0 ≤ x → 0 ≤ y → 0 ≤ z → z < 2147483647 → Kp st H (upd H st (.lst [.ref sc, .int x, .int y, .int z])) ∧ Dw K st sc ns (upd H st (.lst [.ref sc, .int x, .int y, .int z])) := fun x y z hx hy hz hz2 =>
      have k1 : Kp st H (upd H st (.lst [.ref sc, .int x, .int y, .int z])) := Kp.put (Kp.refl st H)
      ⟨k1, d.kp k1 ⟨x, y, z, hx, hy, ⟨hz, hz2⟩, upd_same⟩⟩
    have hS : SqL K H sc (ns.map V.int) := SqL.of d.l
    have md : ∀ x : Int, 0 ≤ x % 2147483647 ∧ x % 2147483647 < 2147483647 := fun x => ⟨Int.emod_nonneg _ (by decide), Int.emod_lt_of_pos _ (by decide)⟩
    have md2 : ∀ x : Int, 0 ≤ x % 2147483629 ∧ x % 2147483629 < 2147483629 := fun x => ⟨Int.emod_nonneg _ (by decide), Int.emod_lt_of_pos _ (by decide)⟩
    refine e_cut (Mid := fun σ' H' => ∃ (v2 : Option V), σ' = [some (.ref st), some (.int n), v2, none] ∧ Kp st H H' ∧ Dw K st sc ns H') ?_ ?_
    · walk_at "go"
      refine e_ixL (SqL.of hs) rfl ?_
      walk_at "go"
      refine i_d (fun e1 => ?_) (fun e1 => ?_)
      · walk_at "go"
        refine e_ixL (SqL.of hs) rfl ?_
        walk_at "go"
        refine e_ixL (SqL.of hs) rfl ?_
        walk_at "go"
        refine i_d (fun e2 => ?_) (fun e2 => ?_)
        · obtain ⟨j, hj⟩ : ∃ j : Nat, ia = (j : Int) := ⟨ia.toNat, by omega⟩
          have hlt : j < ns.length := by rw [List.length_map] at e2; omega
          have hat : atI (ns.map V.int) ia = some (.int ns[j]) := at_of (j := j) (by omega) (by rw [List.getElem?_map, List.getElem?_eq_getElem hlt]; rfl)
          generalize ns[j] = x at hat
          walk_at "go"
          refine e_ixL (SqL.of hs) rfl ?_
          walk_at "go"
          refine e_ixL (SqL.of hs) rfl ?_
          walk_at "go"
          refine e_ixL hS hat ?_
          walk_at "go"
          have hcell : ∃ c : Int, 0 ≤ c ∧ c = (if x < 0 then -x else x) := ⟨_, by split <;> omega, rfl⟩
          obtain ⟨c, hc, ec⟩ := hcell
          rw [← ec]
          refine e_ixL (SqL.of hs) rfl ?_
          walk_at "go"
          refine e_setL hs rfl ?_
          refine e_cut (Mid := fun σ' H' => ∃ b : Int, 0 ≤ b ∧ σ' = [some (.ref st), some (.int n), some (.int c), none] ∧ H' = upd H st (.lst [.ref sc, .int (ia + 1), .int b, .int ic])) ?_ ?_
          · walk_at "go"
            refine i_d (fun e3 => ?_) (fun e3 => ?_)
            · walk_at "go"
              refine e_setL upd_same rfl ?_
              rw [upd_upd]
              exact ⟨c, hc, rfl, rfl⟩
            · walk_at "go"
              exact ⟨ib, hb0, rfl, rfl⟩
          · rintro σ' H' ⟨b, hb, rfl, rfl⟩
            walk_at "go"
            refine e_ixL (SqL.of upd_same) rfl ?_
            walk_at "go"
            refine e_setL upd_same rfl ?_
            rw [upd_upd]
            have hm := md (ic * 48271 + c + 13)
            obtain ⟨k1, d1⟩ := h1 (ia + 1) b _ (by omega) hb hm.1 hm.2
            exact ⟨_, rfl, k1, d1⟩
        · walk_at "go"
          exact ⟨_, rfl, Kp.refl _ _, d⟩
      · walk_at "go"
        exact ⟨_, rfl, Kp.refl _ _, d⟩
    · rintro σ' H' ⟨v2, rfl, k1, d1⟩
      obtain ⟨ja, jb, jc, hja, hjb, hjc, hs1⟩ := d1.s
      walk_at "go"
      refine e_ixL (SqL.of hs1) rfl ?_
      walk_at "go"
      refine i_d (fun e1 => ?_) (fun e1 => ?_)
      · walk_at "go"
        refine e_ixL (SqL.of hs1) rfl ?_
        walk_at "go"
        refine e_ixL (SqL.of hs1) rfl ?_
        walk_at "go"
        refine e_setL hs1 rfl ?_
        have hj2 : 0 ≤ jb / n := Int.ediv_nonneg hjb (by omega)
        have k2 : Kp st H (upd H' st (.lst [.ref sc, .int ja, .int (jb / n), .int jc])) := k1.put
        walk_at "go"
        exact k _ _ (Int.emod_nonneg _ (by omega)) (Int.emod_lt_of_pos _ hn0) k2 (d.kp k2 ⟨ja, jb / n, jc, hja, hj2, hjc, upd_same⟩)
      · walk_at "go"
        refine e_ixL (SqL.of hs1) rfl ?_
        walk_at "go"
        refine e_setL hs1 rfl ?_
        have hm := md2 (jc * 69621 + 7)
        have k2 : Kp st H (upd H' st (.lst [.ref sc, .int ja, .int jb, .int ((jc * 69621 + 7) % 2147483629)])) := k1.put
        walk_at "go"
        refine e_ixL (SqL.of upd_same) rfl ?_
        walk_at "go"
        exact k _ _ (Int.emod_nonneg _ (by omega)) (Int.emod_lt_of_pos _ hn0) k2 (d.kp k2 ⟨ja, jb, _, hja, hjb, ⟨hm.1, by omega⟩, upd_same⟩)
theorem ok_law_offers (T : Txt K mg)  (c_law_draw : Cal P w K mg base 1 "_law_draw" (sp_law_draw K)) {f : Addr} {fd : FuncData} (F : FnP K "_law_offers" s_law_offers f fd) : FnOk P w K mg base CX0 2 f fd ["draws"] (sp_law_offers K) := by
  refine F.ok sc_law_offers (fun vs H Q E h => ?_) (fun cdv A outer s H vs Q E hr h => ?_)
  · obtain ⟨_, rfl, _⟩ := h
    rfl
  · have S := sc_law_offers
    refine ⟨_, PSs.nox (pss_cons (ps_set (i := 1) S.nd rfl (by first | exact .inl rfl | exact .inr rfl | exact .inr (.inl rfl) | exact .inr (.inr rfl)) pe_dnewK)
    (pss_cons (ps_for PassesOwn.never rfl (pi_range1 (by rfl) T.f_range (pa_cons (pe_c c_law_draw hr (by decide) (by rfl) (pa_cons (pv 0) (pa_cons pe_int pa_nil))) pa_nil)) (pg_name (i := 2) S.nd rfl (by first | exact .inl rfl | exact .inr rfl | exact .inr (.inl rfl) | exact .inr (.inr rfl)))
    (pss_cons (ps_set (i := 3) S.nd rfl (by first | exact .inl rfl | exact .inr rfl | exact .inr (.inl rfl) | exact .inr (.inr rfl)) (pe_slice sl_list (pe_lc (own := [("peer", 4)]) (g := gName 4) rfl S.nd (pi_list (pe_lst (pa_cons pe_int (pa_cons pe_int (pa_cons pe_int (pa_cons pe_int pa_nil)))))) (blkOk_by (N := N_law_offers) (sc := defScope s_law_offers) (by decide +kernel)) (fun _ _ _ _ _ => (pg_name (i := 4) S.nd rfl (by first | exact .inl rfl | exact .inr rfl | exact .inr (.inl rfl) | exact .inr (.inr rfl)))) (fun _ _ _ _ _ => (pts_one (pt_cmpR op_eq (pe_c c_law_draw hr (by decide) (by rfl) (pa_cons (pv 0) (pa_cons pe_int pa_nil))) pe_int (nomark _)))) (fun _ _ _ _ _ => (pv 4))) po_none (po_some pe_int)))
      (C8.pss_cut (ps_if (pt_cmpR op_eq (pe_callB call_len_seq (by rfl) T.f_len (by first | rfl | decide +kernel) (pa_cons (pv 3) pa_nil)) pe_int (nomark _))
      (pss_one (ps_set (i := 3) S.nd rfl (by first | exact .inl rfl | exact .inr rfl | exact .inr (.inl rfl) | exact .inr (.inr rfl)) (pe_lst (pa_cons (pe_ix ix_list (pe_lst (pa_cons pe_int (pa_cons pe_int (pa_cons pe_int (pa_cons pe_int pa_nil))))) (pe_c c_law_draw hr (by decide) (by rfl) (pa_cons (pv 0) (pa_cons pe_int pa_nil))) (fun _ _ => rfl)) pa_nil))))
      pss_nil)
      (pss_one (ps_dput (hu_of hr) (pv 1) (pe_ix ix_list (pe_lst (pa_cons pe_int (pa_cons pe_int (pa_cons pe_int (pa_cons pe_int (pa_cons pe_int (pa_cons pe_int (pa_cons pe_int pa_nil)))))))) (pv 2) (fun _ _ => rfl)) (pe_callTy call_tuple_of (by rfl) T.f_tuple (by first | rfl | decide +kernel) (pa_cons (pv 3) pa_nil)) rfl)))))
    (pss_one (ps_ret (pv 1))))), ?_⟩
    try dsimp only [cxOf, Cx.nox]
    obtain ⟨_, rfl, st, sc, ns, rfl, d0, k⟩ := h
    walk_at "go"
    intro d hd
    have hds : d ≠ st := d0.free hd
    have k1 : Kp st H (upd H d (.dK [])) := Kp.of (same_new hd)
    have d1 := d0.same (same_new (o := .dK []) hd)
    have e1 : (upd H d (.dK [])) d = some (.dK (dcO [])) := upd_same
    revert k1 d1 e1
    generalize upd H d (.dK []) = H1
    intro k1 d1 e1
    walk_at "go"
    refine ⟨_, _, rfl, st, sc, ns, 8, rfl, rfl, d1, by decide, by decide, fun n H2 n0 n8 k2 d2 => ?_⟩
    have e2 := k2 _ _ hds e1
    obtain ⟨n, rfl⟩ := Int.eq_ofNat_of_zero_le n0
    walk_at "go"
    refine for_rng (fun i σ H3 => (∃ v2 v3 v4 : Option V, σ = [some (.ref st), some (.ref d), v2, v3, v4]) ∧ Kp st H H3 ∧ Dw K st sc ns H3 ∧ ∃ (w : List (Int × Addr)) (O : OfT), H3 d = some (.dK (dcO w)) ∧ Paired (fun x o => x.1 = o.1 ∧ SqT K (hid [st, d] H3) x.2 (o.2.map V.int)) w O ∧ keyO O = NM.take i ∧ ∀ r ∈ O, r.2 ≠ [] ∧ r.2.length ≤ 3 ∧ r.2.Nodup ∧ ∀ q ∈ r.2, 1 ≤ q ∧ q ≤ 9) ⟨⟨_, _, _, rfl⟩, k1.trans k2, d2, [], [], e2, .nil, rfl, fun r h => (by cases h)⟩ (fun i σ H3 hi z => ?_) (fun σ H3 z => ?_)
    · obtain ⟨⟨v2, v3, v4, rfl⟩, k3, d3, w, O, e3, hw, hk, hr⟩ := z
      have hi : i < n := by omega
      walk_at "go"
      rename_i pl hpl
      have hps := d3.free hpl
      have s31 := same_new (o := .lst [.int 1, .int 2, .int 5, .int 9]) hpl
      have d31 := d3.same s31
      have k31 : Kp st H (upd H3 pl (.lst [.int 1, .int 2, .int 5, .int 9])) := k3.trans (Kp.of s31)
      have e31 := s31 _ _ e3
      have hw31 : Paired (fun x o => x.1 = o.1 ∧ SqT K (hid [st, d] (upd H3 pl (.lst [.int 1, .int 2, .int 5, .int 9]))) x.2 (o.2.map V.int)) w O := paired_imp (fun _ _ q => ⟨q.1, same_tup (hid_same s31) q.2⟩) hw
      have ep31 : (upd H3 pl (.lst [.int 1, .int 2, .int 5, .int 9])) pl = some (.lst (([1, 2, 5, 9] : List Int).map V.int)) := upd_same
      revert d31 k31 e31 hw31 ep31
      generalize upd H3 pl (.lst [.int 1, .int 2, .int 5, .int 9]) = H3a
      intro d31 k31 e31 hw31 ep31
      intro D hD
      have hDs := d31.free hD
      have hDd : D ≠ d := fun z => by rw [z, e31] at hD; cases hD
      refine lc_it (walk_list (K := K) (xs := ([1, 2, 5, 9] : List Int).map V.int)) (fun j H4 => Kp st H3a H4 ∧ Dw K st sc ns H4 ∧ ∃ acc : List Int, H4 D = some (.lst (acc.map V.int)) ∧ acc.Sublist (([1, 2, 5, 9] : List Int).take j)) ⟨Kp.new hD, d31.same (same_new hD), [], upd_same, List.nil_sublist _⟩ (fun j H4 _ q => SqL.of (q.1 _ _ hps ep31)) (fun j x H4 H4b hj z y => ?_) (fun H4 z => ?_)
      · obtain ⟨k4, d4, acc, e4, sub⟩ := z
        obtain ⟨rfl, hx⟩ := y
        rw [List.getElem?_map] at hx
        obtain ⟨p, hp, rfl⟩ := Option.map_eq_some_iff.mp hx
        have htk : ([1, 2, 5, 9] : List Int).take (j + 1) = ([1, 2, 5, 9] : List Int).take j ++ [p] := by rw [List.take_succ, hp]; rfl
        have hal := sub.length_le
        have ht4 : (([1, 2, 5, 9] : List Int).take j).length ≤ 4 := by rw [List.length_take]; exact Nat.min_le_right _ _
        walk_at "go"
        refine ⟨_, _, rfl, st, sc, ns, 2, rfl, rfl, d4, by decide, by decide, fun r H5 r0 r1 k5 d5 => ?_⟩
        have e5 := k5 _ _ hDs e4
        walk_at "go"
        by_cases hr0 : r = 0
        · rw [if_pos (decide_eq_true hr0)]
          walk_at "go"
          refine ⟨_, e5, Nat.lt_of_le_of_lt (by rw [List.length_map]; omega : _ ≤ 1000) (by decide), (k4.trans k5).mut hD, d31.mut d5 hD (k4.trans k5), acc ++ [p], by rw [upd_same, List.map_append]; rfl, ?_⟩
          rw [htk]
          exact sub.append (List.Sublist.refl _)
        · rw [if_neg (by simp [hr0])]
          refine ⟨k4.trans k5, d5, acc, e5, ?_⟩
          rw [htk]
          exact sub.trans (List.sublist_append_left _ _)
      · obtain ⟨k4, d4, acc, e4, sub⟩ := z
        have sub4 : acc.Sublist [1, 2, 5, 9] := sub.trans (List.take_sublist _ _)
        have e34 := k4 _ _ hds e31
        have hw4 : Paired (fun x o => x.1 = o.1 ∧ SqT K (hid [st, d] H4) x.2 (o.2.map V.int)) w O := paired_imp (fun _ _ q => ⟨q.1, same_tup (hid_fr ((kp_fr k4).mono (by simp))) q.2⟩) hw31
        walk_at "go"
        refine e_slL (SqL.of e4) fun l hl => ?_
        have ec : cutV (acc.map V.int) none (some 3) = (acc.take 3).map V.int := by
          have e := cut_toV (acc.map V.int) 3
          rw [← List.map_take] at e
          exact e
        rw [ec]
        have hls := d4.free hl
        have s45 := same_new (o := .lst ((acc.take 3).map V.int)) hl
        have k5 : Kp st H (upd H4 l (.lst ((acc.take 3).map V.int))) := (k31.trans k4).trans (Kp.of s45)
        have d5 := d4.same s45
        have e5 := s45 _ _ e34
        have el5 : (upd H4 l (.lst ((acc.take 3).map V.int))) l = some (.lst ((acc.take 3).map V.int)) := upd_same
        have hw5 : Paired (fun x o => x.1 = o.1 ∧ SqT K (hid [st, d] (upd H4 l (.lst ((acc.take 3).map V.int)))) x.2 (o.2.map V.int)) w O := paired_imp (fun _ _ q => ⟨q.1, same_tup (hid_same s45) q.2⟩) hw4
        have sub5 : (acc.take 3).Sublist [1, 2, 5, 9] := (List.take_sublist _ _).trans sub4
        have l45 : (acc.take 3).length ≤ 3 := by rw [List.length_take]; omega
        revert k5 d5 e5 el5 hw5 sub5 l45
        generalize acc.take 3 = pe
        generalize upd H4 l (.lst (pe.map V.int)) = H5
        intro k5 d5 e5 el5 hw5 sub5 l45
        have pe9 : ∀ q ∈ pe, 1 ≤ q ∧ q ≤ 9 := fun q hq => by
          have := sub5.subset hq
          simp at this
          omega
        have pnd : pe.Nodup := List.Nodup.sublist sub5 (by decide)
        clear ec
        walk_at "go"
        refine e_cut (Mid := fun σ H6 => (∃ (v2 v4 : Option V) (l6 : Addr) (pe : List Int), σ = [some (.ref st), some (.ref d), some (.int (0 + (i : Int))), some (.ref l6), v4] ∧ H6 l6 = some (.lst (pe.map V.int)) ∧ pe ≠ [] ∧ pe.length ≤ 3 ∧ pe.Nodup ∧ ∀ q ∈ pe, 1 ≤ q ∧ q ≤ 9) ∧ Kp st H H6 ∧ Dw K st sc ns H6 ∧ H6 d = some (.dK (dcO w)) ∧ Paired (fun x o => x.1 = o.1 ∧ SqT K (hid [st, d] H6) x.2 (o.2.map V.int)) w O) ?_ (fun σ H6 z => ?_)
        · walk_at "go"
          by_cases hpe : pe = []
          · rw [if_pos (by simp [hpe])]
            walk_at "go"
            rename_i pq hpq
            have s6 := same_new (o := .lst [.int 1, .int 2, .int 5, .int 9]) hpq
            have hpqs := d5.free hpq
            have ep6 : (upd H5 pq (.lst [.int 1, .int 2, .int 5, .int 9])) pq = some (.lst (([1, 2, 5, 9] : List Int).map V.int)) := upd_same
            have d6 := d5.same s6
            have e6 := s6 _ _ e5
            refine ⟨_, _, rfl, st, sc, ns, 4, rfl, rfl, d6, by decide, by decide, fun r2 H8 r20 r21 k8 d8 => ?_⟩
            have e8 := k8 _ _ hds e6
            refine num_atL (SqL.of (k8 _ _ hpqs ep6)) r20 (by simpa using r21) fun x hx => ?_
            walk_at "go"
            rename_i l8 hl8
            have hx9 : 1 ≤ x ∧ x ≤ 9 := by
              simp at hx
              omega
            have k58 : Kp st H5 H8 := (Kp.of s6).trans k8
            exact ⟨⟨none, _, l8, [x], rfl, upd_same, by simp, by simp, by simp, fun q hq => by rw [List.mem_singleton.mp hq]; exact hx9⟩, (k5.trans k58).trans (Kp.of (same_new hl8)), d8.same (same_new hl8), same_new hl8 _ _ e8, paired_imp (fun _ _ q => ⟨q.1, same_tup ((hid_fr ((kp_fr k58).mono (by simp))).trans (hid_same (same_new hl8))) q.2⟩) hw5⟩
          · rw [if_neg (by simp [hpe])]
            walk_at "go"
            exact ⟨⟨none, _, l, pe, rfl, el5, hpe, l45, pnd, pe9⟩, k5, d5, e5, hw5⟩
        · obtain ⟨⟨v2, v4, l6, pe, rfl, el6, pn, plen, pnd, p9⟩, k6, d6, e6, hw6⟩ := z
          walk_at "go"
          refine ⟨l6, _, rfl, .inl ⟨SqL.of el6, fun a ha => ?_⟩⟩
          walk_at "go"
          rename_i q hq
          have had : a ≠ d := fun z => by rw [z, e6] at ha; cases ha
          have s7 := (same_new (o := .tup (pe.map V.int)) ha).trans (same_new (o := .lst [V.int 256, V.int 257, V.int 300, V.int 511, V.int 65536, V.int 131071, V.int 4294967296]) hq)
          have ea7 : (upd (upd H6 a (.tup (pe.map V.int))) q (.lst [V.int 256, V.int 257, V.int 300, V.int 511, V.int 65536, V.int 131071, V.int 4294967296])) a = some (.tup (pe.map V.int)) := same_new hq _ _ upd_same
          have eq7 : (upd (upd H6 a (.tup (pe.map V.int))) q (.lst [V.int 256, V.int 257, V.int 300, V.int 511, V.int 65536, V.int 131071, V.int 4294967296])) q = some (.lst (NM.map V.int)) := upd_same
          have ha0 := d6.free ha
          revert s7 ea7 eq7
          generalize upd (upd H6 a (.tup (pe.map V.int))) q (.lst [V.int 256, V.int 257, V.int 300, V.int 511, V.int 65536, V.int 131071, V.int 4294967296]) = H7
          intro s7 ea7 eq7
          have hi7 : i < NM.length := by
            have : NM.length = 7 := rfl
            omega
          have hni : NM[i]? = some NM[i] := List.getElem?_eq_getElem hi7
          have hgt : atI (NM.map V.int) (0 + (i : Int)) = some (.int NM[i]) := by
            rw [show (0 + (i : Int)) = (i : Int) by omega]
            exact atI_nat (by rw [List.getElem?_map, hni]; rfl)
          refine e_ixL (SqL.of eq7) hgt ?_
          have htk : NM.take (i + 1) = NM.take i ++ [NM[i]] := by rw [List.take_succ, hni]; rfl
          have hwk := paired_keyO (R := fun q L => SqT K (hid [st, d] H6) q (L.map V.int)) hw6
          have hlw : w.length ≤ 7 := by
            have h1 := congrArg List.length (hwk.trans hk)
            rw [List.length_map, List.length_take] at h1
            have : NM.length = 7 := rfl
            omega
          have hnew : NM[i] ∉ w.map (·.1) := fun z => by
            rw [hwk, hk] at z
            have nd : (NM.take (i + 1)).Nodup := List.Nodup.sublist (List.take_sublist _ _) (by decide)
            rw [htk] at nd
            exact (List.nodup_append.mp nd).2.2 _ z _ (by simp) rfl
          generalize NM[i] = nmi at *
          have k7 := k6.trans (Kp.of s7)
          refine ⟨d, _, rfl, DPut.k (k := Sum.inl nmi) (s7 _ _ e6) (Nat.lt_of_le_of_lt (by unfold dcO; rw [List.length_map]; omega : _ ≤ 1000) (by decide)), ⟨_, _, _, rfl⟩, k7.mut hd, d0.mut (d6.same s7) hd k7, w ++ [(nmi, a)], O ++ [(nmi, pe)], ?_, ?_, ?_, fun r hr2 => ?_⟩
          · rw [upd_same, putK_dcN a hnew]
          · refine prd_app (paired_imp (fun _ _ q => ⟨q.1, same_tup (hid_fr (((Fr.of s7)).put (by simp))) q.2⟩) hw6) (.cons ⟨rfl, SqT.of ?_⟩ .nil)
            rw [hid_at (by simp [ha0, had]), upd_ne had]
            exact ea7
          · unfold keyO at hk ⊢
            rw [List.map_append, hk, htk]
            rfl
          · rcases List.mem_append.mp hr2 with z | z
            · exact hr r z
            · rw [List.mem_singleton.mp z]; exact ⟨pn, plen, pnd, p9⟩
    · obtain ⟨⟨v2, v3, v4, rfl⟩, k3, d3, w, O, e3, hw, hk, hr⟩ := z
      have hlen : O.length ≤ 7 := by
        have h1 := congrArg List.length hk
        unfold keyO at h1
        rw [List.length_map, List.length_take] at h1
        have : NM.length = 7 := rfl
        omega
      have ndk : (keyO O).Nodup := by rw [hk]; exact List.Nodup.sublist (List.take_sublist _ _) (by decide)
      walk_at "go"
      refine k d O H3 k3 d3 ⟨w, by rw [hid_at (by simpa using hds)]; exact e3, paired_imp (fun _ _ q => ⟨q.1, same_tup (hid_le (by simp)) q.2⟩) hw⟩ ⟨ndk, by omega, fun r hr2 => ?_⟩ hlen fun r hr2 => ?_
      · obtain ⟨h1, h2, h3, h4⟩ := hr r hr2
        exact ⟨h1, by omega, h4⟩
      · obtain ⟨h1, h2, h3, h4⟩ := hr r hr2
        have hm : r.1 ∈ NM := by
          have : r.1 ∈ keyO O := List.mem_map.mpr ⟨r, hr2, rfl⟩
          rw [hk] at this
          exact List.mem_of_mem_take this
        refine ⟨h3, h2, ?_⟩
        unfold NM at hm
        simp at hm
        omega
theorem ok_law_most (T : Txt K mg)   {f : Addr} {fd : FuncData} (F : FnP K "_law_most" s_law_most f fd) : FnOk P w K mg base CX0 1 f fd ["plan"] (sp_law_most K) := by
  refine F.ok sc_law_most (fun vs H Q E h => ?_) (fun cdv A outer s H vs Q E hr h => ?_)
  · obtain ⟨_, rfl, _⟩ := h
    rfl
  · have S := sc_law_most
    refine ⟨_, PSs.nox (pss_cons (ps_set (i := 1) S.nd rfl (by first | exact .inl rfl | exact .inr rfl | exact .inr (.inl rfl) | exact .inr (.inr rfl)) (pe_lc (own := [("row", 2)]) (g := gName 2) (tt := tYes) rfl S.nd (pi_tup (pv 0)) (blkOk_by (N := N_law_most) (sc := defScope s_law_most) (by decide +kernel)) (fun _ _ _ _ _ => (pg_name (i := 2) S.nd rfl (by first | exact .inl rfl | exact .inr rfl | exact .inr (.inl rfl) | exact .inr (.inr rfl)))) (fun _ _ _ _ _ => pts_nil) (fun _ _ _ _ _ => (pe_ix (ixT K) (pv 2) pe_int (fun _ _ => rfl)))))
    (pss_one (ps_ret (pe_callB (cr_max rfl) (by rfl) T.f_max (by first | rfl | decide +kernel) (pa_cons (pe_op op_cat (pe_lst (pa_cons pe_int pa_nil)) (pe_lc (own := [("peer", 3)]) (g := gName 3) (tt := tYes) rfl S.nd (pi_list (pv 1)) (blkOk_by (N := N_law_most) (sc := defScope s_law_most) (by decide +kernel)) (fun _ _ _ _ _ => (pg_name (i := 3) S.nd rfl (by first | exact .inl rfl | exact .inr rfl | exact .inr (.inl rfl) | exact .inr (.inr rfl)))) (fun _ _ _ _ _ => pts_nil) (fun _ _ _ _ _ => (pe_lcountK K (pv 1) (pa_cons (pv 3) pa_nil))))) pa_nil))))), ?_⟩
    try dsimp only [cxOf, Cx.nox]
    obtain ⟨_, rfl, a, P, rfl, ⟨ps, hps, hpr⟩, hl, k⟩ := h
    have hpl : ps.length = P.length := paired_len hpr
    walk_at "go"
    intro D hD
    refine lc_prs hD hps hpr (by omega) (fun c => V.int c.2) (fun q c H5 C E hc hqc s5 hC => ?_) (fun H5 s5 e5 => ?_)
    · walk_at "go"
      exact ⟨_, _, 1, .int c.2, rfl, rfl, hqc, rfl, hC _ (Same.refl _)⟩
    have e6 : P.map (fun c => V.int c.2) = (P.map (·.2)).map V.int := by rw [List.map_map]; rfl
    rw [e6] at e5
    walk_at "go"
    rename_i p0 hp0
    have s36 := s5.trans (same_new (o := .lst [V.int 0]) hp0)
    have e60 : (upd H5 p0 (.lst [V.int 0])) p0 = some (.lst ([(0 : Int)].map V.int)) := upd_same
    have e63 : (upd H5 p0 (.lst [V.int 0])) D = some (.lst ((P.map (·.2)).map V.int)) := same_new hp0 _ _ e5
    revert s36 e60 e63
    generalize upd H5 p0 (.lst [V.int 0]) = H6
    intro s36 e60 e63
    refine ⟨D, rfl, ⟨_, SqL.of e63⟩, fun D4 hD4 => ?_⟩
    refine lc_map_lst (SqL.of e63) hD4 (by rw [List.length_map, List.length_map]; omega) (fun x => match x with | .int q => .int ((cP P q : Nat) : Int) | _ => .non) (fun x H7 C E hx s7 hC => ?_) (fun H7 s7 e7 => ?_)
    · obtain ⟨q, hq, rfl⟩ := List.mem_map.mp hx
      walk_at "go"
      refine ⟨.inl ⟨rfl, _, SqL.of (s7 _ _ e63)⟩, ?_⟩
      walk_at "go"
      refine ⟨D, _, q, rfl, rfl, SqL.of (s7 _ _ e63), ?_⟩
      rw [cP_count]
      exact hC _ (Same.refl _)
    have e8 : (((P.map (·.2)).map V.int).map fun x => match x with | .int q => V.int ((cP P q : Nat) : Int) | _ => .non) = ((P.map (·.2)).map fun q => ((cP P q : Nat) : Int)).map V.int := by
      simp only [List.map_map]
      rfl
    rw [e8] at e7
    refine e_cat (s7 _ _ e60) e7 (by rw [List.length_map, List.length_map, List.length_map, List.length_map]; simp; omega) fun l9 hl9 => ?_
    rw [← List.map_append]
    walk_at "go"
    refine ⟨l9, _, rfl, SqL.of upd_same, by simp, fun mm h1 h2 => ?_⟩
    obtain ⟨j, rfl, hj⟩ := mc_of0 h1 h2
    walk_at "go"
    exact k j _ ((s36.trans s7).trans (same_new hl9)) hj
theorem ok_law_plans (T : Txt K mg)   {f : Addr} {fd : FuncData} (F : FnP K "_law_plans" s_law_plans f fd) : FnOk P w K mg base CX0 1 f fd ["offers"] (sp_law_plans K) := by
  refine F.ok sc_law_plans (fun vs H Q E h => ?_) (fun cdv A outer s H vs Q E hr h => ?_)
  · obtain ⟨_, rfl, _⟩ := h
    rfl
  · have S := sc_law_plans
    refine ⟨_, PSs.nox (pss_cons (ps_set (i := 1) S.nd rfl (by first | exact .inl rfl | exact .inr rfl | exact .inr (.inl rfl) | exact .inr (.inr rfl)) (pe_lst (pa_cons (pe_tup pa_nil) pa_nil)))
    (pss_cons (ps_for PassesOwn.never rfl (pi_list (pe_callB (call_sortedDI rfl) (by rfl) T.f_sorted (by first | rfl | decide +kernel) (pa_cons (pv 0) pa_nil))) (pg_name (i := 2) S.nd rfl (by first | exact .inl rfl | exact .inr rfl | exact .inr (.inl rfl) | exact .inr (.inr rfl)))
    (pss_cons (ps_set (i := 3) S.nd rfl (by first | exact .inl rfl | exact .inr rfl | exact .inr (.inl rfl) | exact .inr (.inr rfl)) (pe_lst pa_nil))
      (pss_cons (ps_for PassesOwn.never rfl (pi_list (pv 1)) (pg_name (i := 4) S.nd rfl (by first | exact .inl rfl | exact .inr rfl | exact .inr (.inl rfl) | exact .inr (.inr rfl)))
      (pss_one (ps_set (i := 3) S.nd rfl (by first | exact .inl rfl | exact .inr rfl | exact .inr (.inl rfl) | exact .inr (.inr rfl)) (pe_op op_cat (pv 3) (pe_lc (own := [("peer", 5)]) (g := gName 5) (tt := tYes) rfl S.nd (pi_tup (pe_dget (hu_of hr) (pv 0) (pv 2) (fun _ _ => rfl))) (blkOk_by (N := N_law_plans) (sc := defScope s_law_plans) (by decide +kernel)) (fun _ _ _ _ _ => (pg_name (i := 5) S.nd rfl (by first | exact .inl rfl | exact .inr rfl | exact .inr (.inl rfl) | exact .inr (.inr rfl)))) (fun _ _ _ _ _ => pts_nil) (fun _ _ _ _ _ => (pe_op (catAK K) (pv 4) (pe_tup (pa_cons (pe_tup (pa_cons (pv 2) (pa_cons (pv 5) pa_nil))) pa_nil)))))))))
      (pss_one (ps_set (i := 1) S.nd rfl (by first | exact .inl rfl | exact .inr rfl | exact .inr (.inl rfl) | exact .inr (.inr rfl)) (pv 3))))))
    (pss_one (ps_ret (pv 1))))), ?_⟩
    try dsimp only [cxOf, Cx.nox]
    obtain ⟨_, rfl, d, O, rfl, hO, ook, hol, hr3, k⟩ := h
    obtain ⟨w, ed, hw⟩ := id hO
    have hwk := paired_keyO (R := fun q L => SqT K H q (L.map V.int)) hw
    have hlk : (keyO O).length ≤ 7 := by unfold keyO; rw [List.length_map]; exact hol
    walk_at "go"
    rename_i p0 hp0 p1 hp1
    have s1 := (same_new (o := .tup []) hp0).trans (same_new (o := .lst [.ref p0]) hp1)
    have e1 : (upd (upd H p0 (.tup [])) p1 (.lst [.ref p0])) p1 = some (.lst ([p0].map V.ref)) := upd_same
    have hv1 : Vec K (upd (upd H p0 (.tup [])) p1 (.lst [.ref p0])) p0 [] := ⟨[], same_tup (same_new hp1) (SqT.of upd_same), .nil⟩
    revert s1 e1 hv1
    generalize upd (upd H p0 (.tup [])) p1 (.lst [.ref p0]) = H1
    intro s1 e1 hv1
    refine ⟨d, dcO w, keyO O, rfl, .inl (s1 _ _ ed), by rw [keys_dcO, hwk], by omega, fun ys l hys hsr hl => ?_⟩
    have hyl : ys.length ≤ 7 := by rw [hys.length_eq]; exact hlk
    have s2 := s1.trans (same_new (o := .lst (ys.map V.int)) hl)
    have e2 := same_new (o := .lst (ys.map V.int)) hl _ _ e1
    have hv2 := hv1.same (same_new (o := .lst (ys.map V.int)) hl)
    have el2 : (upd H1 l (.lst (ys.map V.int))) l = some (.lst (ys.map V.int)) := upd_same
    revert s2 e2 hv2 el2
    generalize upd H1 l (.lst (ys.map V.int)) = H2
    intro s2 e2 hv2 el2
    refine ⟨l, rfl, ⟨_, SqL.of el2⟩, ?_⟩
    refine for_ints (ns := ys) (fun pre σ H3 => (∃ (a : Addr) (v2 v3 v4 : Option V) (ps : List Addr), σ = [some (.ref d), some (.ref a), v2, v3, v4, none] ∧ H3 a = some (.lst (ps.map V.ref)) ∧ Paired (fun p P => Vec K H3 p P) ps (plsOf O pre) ∧ ps.length ≤ 3 ^ pre.length ∧ ∀ P ∈ plsOf O pre, P.length = pre.length) ∧ Same H H3 ∧ H3 l = some (.lst (ys.map V.int)) ∧ pre.length ≤ 7) ⟨⟨p1, _, _, _, [p0], rfl, e2, .cons hv2 .nil, Nat.le_refl _, fun P hP => by rw [List.mem_singleton.mp hP]; rfl⟩, s2, el2, Nat.zero_le _⟩ (fun pre σ H3 z => SqL.of z.2.2.1) (fun pre y post σ H3 e0 z => ?_) (fun σ H3 z => ?_)
    · obtain ⟨⟨a, v2, v3, v4, ps, rfl, ea, hps, hpn, hP⟩, s3, el3, hpre⟩ := z
      have hyy : y ∈ ys := by rw [e0]; simp
      have hyk : y ∈ keyO O := hys.mem_iff.mp hyy
      have hpre2 : pre.length < 7 := by
        have := congrArg List.length e0
        rw [List.length_append, List.length_cons] at this
        omega
      obtain ⟨rw0, hrw, erw⟩ := row_in ook hyk
      have hrl := hr3 _ hrw
      rw [erw] at hrl
      obtain ⟨q, eq, hq⟩ := val_dcO (R := fun q L => SqT K H q (L.map V.int)) y hw hyk
      have hpn2 : ps.length ≤ 729 := Nat.le_trans hpn (pow3 (m := 6) (by omega))
      walk_at "go"
      rename_i b hb
      have s4 := same_new (o := .lst []) hb
      have eb4 : (upd H3 b (.lst [])) b = some (.lst (([] : List Addr).map V.ref)) := upd_same
      have ea4 := s4 _ _ ea
      have hps4 : Paired (fun p P => Vec K (upd H3 b (.lst [])) p P) ps (plsOf O pre) := paired_imp (fun _ _ h => h.same s4) hps
      have el4 := s4 _ _ el3
      replace s4 := s3.trans s4
      revert s4 eb4 ea4 hps4 el4
      generalize upd H3 b (.lst []) = H4
      intro eb4 ea4 hps4 el4 s4
      refine ⟨a, rfl, ⟨_, SqL.of ea4⟩, ?_⟩
      refine for_list (K := K) (xs := ps.map V.ref) (fun j σ H5 => (∃ (b : Addr) (v4 : Option V) (qs : List Addr), σ = [some (.ref d), some (.ref a), some (.int y), some (.ref b), v4, none] ∧ H5 b = some (.lst (qs.map V.ref)) ∧ Paired (fun p P => Vec K H5 p P) qs (extP ((plsOf O pre).take j) y (rowO O y)) ∧ qs.length ≤ 3 * j) ∧ Same H4 H5) ⟨⟨b, _, [], rfl, eb4, .nil, Nat.le_refl _⟩, Same.refl _⟩ (fun j σ H5 _ z => SqL.of (z.2 _ _ ea4)) (fun j x σ H5 hx z => ?_) (fun σ H5 z => ?_)
      · obtain ⟨⟨b, v4, qs, rfl, eb5, hqs, hqn⟩, s5⟩ := z
        rw [List.getElem?_map] at hx
        obtain ⟨p, hp, rfl⟩ := Option.map_eq_some_iff.mp hx
        obtain ⟨P, hPj, hvP⟩ := paired_get hps4 j p hp
        have hj : j < 729 := by
          have := (List.getElem?_eq_some_iff.mp hp).1
          omega
        have hPl := hP P (List.mem_of_getElem? hPj)
        have hvP5 := hvP.same s5
        have hqH5 : SqT K H5 q ((rowO O y).map V.int) := same_tup (s4.trans s5) hq
        walk_at "go"
        refine ⟨d, .ref q, rfl, by rw [← eq]; exact DGet.k (k := Sum.inl y) ((s4.trans s5) _ _ ed), q, rfl, ⟨_, hqH5⟩, fun D hD => ?_⟩
        refine lc_rel (walk_tup (K := K) (xs := (rowO O y).map V.int)) hD (by rw [List.length_map]; omega) (fun H6 s6 => same_tup s6 hqH5) (fun i v H6 => ∃ (t : Addr) (x : Int), v = V.ref t ∧ (rowO O y)[i]? = some x ∧ Vec K H6 t (P ++ [(y, x)])) (fun i v H6 H7 h s => ?_) (fun i v H6 H7 C E acc hi s6 e6 hy hC => ?_) (fun H8 us s8 e8 l8 hr8 => ?_)
        · obtain ⟨t, x, h1, h2, h3⟩ := h
          exact ⟨t, x, h1, h2, h3.same s⟩
        · obtain ⟨rfl, hx⟩ := hy
          rw [List.getElem?_map] at hx
          obtain ⟨x, hxr, rfl⟩ := Option.map_eq_some_iff.mp hx
          walk_at "go"
          rename_i u1 hu1 u2 hu2
          have s9 := (same_new (o := .tup [.int y, .int x]) hu1).trans (same_new (o := .tup [.ref u1]) hu2)
          have hv9 : Vec K (upd (upd H7 u1 (.tup [.int y, .int x])) u2 (.tup [.ref u1])) u2 [(y, x)] := ⟨[u1], SqT.of upd_same, .cons (same_tup (same_new hu2) (SqT.of upd_same)) .nil⟩
          refine e_catV ((hvP5.same s6).same s9) hv9 (by rw [hPl]; simp; omega) fun t H9 s10 ht => ?_
          have eD : H9 D = some (.lst acc) := (s9.trans s10) _ _ e6
          exact hC _ _ (s9.trans s10) ⟨t, x, rfl, hxr, vec_hid ht (fun z m => by rw [List.mem_singleton.mp m]; exact nt_lst eD)⟩
        obtain ⟨rs, rfl⟩ := all_refs us fun u m => by
          obtain ⟨i, hi⟩ := List.getElem?_of_mem m
          obtain ⟨t, _, e, _⟩ := hr8 i u hi
          exact ⟨t, e⟩
        rw [List.length_map, List.length_map] at l8
        have pp : Paired (fun p P => Vec K H8 p P) rs ((rowO O y).map fun x => P ++ [(y, x)]) := prd_mk (by rw [List.length_map]; exact l8) fun i t X h1 h2 => by
          obtain ⟨t2, x, e2, e3, e4⟩ := hr8 i (.ref t) (by rw [List.getElem?_map, h1]; rfl)
          cases e2
          rw [List.getElem?_map, e3] at h2
          cases h2
          exact e4.same hid_sub
        have hb8 := s8 _ _ eb5
        refine e_cat hb8 e8 (by rw [List.length_map, List.length_map]; omega) fun b2 hb2 => ?_
        rw [← List.map_append]
        have s9 := same_new (o := .lst ((qs ++ rs).map V.ref)) hb2
        have htk : (plsOf O pre).take (j + 1) = (plsOf O pre).take j ++ [P] := by rw [List.take_succ, hPj]; rfl
        walk_at "go"
        refine ⟨⟨b2, _, qs ++ rs, rfl, upd_same, ?_, by rw [List.length_append]; omega⟩, s5.trans (s8.trans s9)⟩
        rw [htk, ext_snoc]
        exact prd_app (paired_imp (fun _ _ h => h.same (s8.trans s9)) hqs) (paired_imp (fun _ _ h => h.same s9) pp)
      · obtain ⟨⟨b, v4, qs, rfl, eb5, hqs, hqn⟩, s5⟩ := z
        have hpl := paired_len hps4
        rw [List.length_map, hpl, List.take_length, ← pls_snoc] at hqs
        rw [List.length_map] at hqn
        walk_at "go"
        refine ⟨⟨b, _, _, _, qs, rfl, eb5, hqs, ?_, fun P hPm => ?_⟩, s4.trans s5, s5 _ _ el4, by rw [List.length_append, List.length_singleton]; omega⟩
        · rw [List.length_append, List.length_singleton, Nat.pow_succ]
          omega
        · rw [pls_snoc] at hPm
          rw [List.length_append, List.length_singleton]
          exact ext_mem hP P hPm
    · obtain ⟨⟨a, v2, v3, v4, ps, rfl, ea, hps, hpn, hP⟩, s3, el3, hpre⟩ := z
      walk_at "go"
      rw [pls_all] at hps hP
      exact k a ps ys H3 s3 ⟨hys, hsr⟩ ea hps (Nat.le_trans hpn (pow3 (m := 7) hyl)) hP
theorem ok_law (T : Txt K mg) (c_law_draws : ∀ base : Heap, Cal P w K mg base 1 "_law_draws" (sp_law_draws K)) (c_law_offers : ∀ base : Heap, Cal P w K mg base 2 "_law_offers" (sp_law_offers K)) (c_law_plans : ∀ base : Heap, Cal P w K mg base 1 "_law_plans" (sp_law_plans K)) (c_law_most : ∀ base : Heap, Cal P w K mg base 1 "_law_most" (sp_law_most K)) (c_share : ∀ base : Heap, Cal P w K mg base 24 "share" (sp_share K)) (c_judge_share : ∀ base : Heap, Cal P w K mg base 3 "judge_share" (sp_judge_share K)) {f : Addr} {fd : FuncData} (F : FnP K "law" s_law f fd) (bnd : ∀ (s : Shared) (v : Value), BindsTo s fd ⟨[v], []⟩ [("script", v)]) : TopOk P w K mg 63 f := by
  intro sa ns hn base H s hK hN e0 hS
  replace c_law_draws := c_law_draws base
  replace c_law_offers := c_law_offers base
  replace c_law_plans := c_law_plans base
  replace c_law_most := c_law_most base
  replace c_share := c_share base
  replace c_judge_share := c_judge_share base
  refine enterG (k := 24) (ps := ["script"]) (us := [Value.ref sa]) (vs := [V.ref sa]) F sc_law (topRoom.mono (by decide)) e0 (bnd s (.ref sa)) (.cons (show RelV (.ref sa) (.ref sa) from rfl) .nil) rfl fun cdv => ?_
  have S := sc_law
  have hr : Room 24 (callerA.deeper (envOfC "law" (defScope s_law) s.heap.objs.size f cdv)) := Room.deeper (topRoom.mono (by decide)) _
  have hg : (callerA.deeper (envOfC "law" (defScope s_law) s.heap.objs.size f cdv)).guards = some [] := topGuards _
  refine ⟨_, PSs.nox (pss_cons (ps_set (i := 1) S.nd rfl (by first | exact .inl rfl | exact .inr rfl | exact .inr (.inl rfl) | exact .inr (.inr rfl)) (pe_c c_law_draws hr (by decide) (by rfl) (pa_cons (pv 0) pa_nil)))
    (pss_cons (ps_set (i := 2) S.nd rfl (by first | exact .inl rfl | exact .inr rfl | exact .inr (.inl rfl) | exact .inr (.inr rfl)) (pe_c c_law_offers hr (by decide) (by rfl) (pa_cons (pv 1) pa_nil)))
    (pss_cons (ps_set (i := 3) S.nd rfl (by first | exact .inl rfl | exact .inr rfl | exact .inr (.inl rfl) | exact .inr (.inr rfl)) (pe_c c_law_plans hr (by decide) (by rfl) (pa_cons (pv 2) pa_nil)))
    (pss_cons (ps_set (i := 4) S.nd rfl (by first | exact .inl rfl | exact .inr rfl | exact .inr (.inl rfl) | exact .inr (.inr rfl)) (pe_callB (cr_min rfl) (by rfl) T.f_min (by first | rfl | decide +kernel) (pa_cons (pe_lc (own := [("plan", 10)]) (g := gName 10) (tt := tYes) rfl S.nd (pi_list (pv 3)) (blkOk_by (N := N_law) (sc := defScope s_law) (by decide +kernel)) (fun _ _ _ _ _ => (pg_name (i := 10) S.nd rfl (by first | exact .inl rfl | exact .inr rfl | exact .inr (.inl rfl) | exact .inr (.inr rfl)))) (fun _ _ _ _ _ => pts_nil) (fun _ _ _ _ _ => (pe_c c_law_most hr (by decide) (by rfl) (pa_cons (pv 10) pa_nil)))) pa_nil)))
    (pss_cons (ps_set (i := 5) S.nd rfl (by first | exact .inl rfl | exact .inr rfl | exact .inr (.inl rfl) | exact .inr (.inr rfl)) (pe_callB (cr_reprD hg hr.units) (by rfl) T.f_repr (by first | rfl | decide +kernel) (pa_cons (pv 2) pa_nil)))
    (pss_cons (ps_set (i := 6) S.nd rfl (by first | exact .inl rfl | exact .inr rfl | exact .inr (.inl rfl) | exact .inr (.inr rfl)) (pe_c c_share hr (by decide) (by rfl) (pa_cons (pv 2) pa_nil)))
    (pss_cons (ps_if (pw_or (pt_not (pt_val (pe_callB call_isi (by rfl) T.f_isinstance (by first | rfl | decide +kernel) (pa_cons (pv 6) (pa_cons (pe_bltn (v := .ty "tuple") (by rfl) T.f_tuple (by first | rfl | decide +kernel) rfl) pa_nil))))) (pw_or (pt_cmpR op_ne (pe_callB call_len_seq (by rfl) T.f_len (by first | rfl | decide +kernel) (pa_cons (pv 6) pa_nil)) pe_int (nomark _)) (pw_or (pt_cmpR op_ne (pe_ix ix_tup (pv 6) pe_int (fun _ _ => rfl)) (pv 4) (nomark _)) (pw_or1 (pt_cmpR op_ne (pe_callB (cr_reprD hg hr.units) (by rfl) T.f_repr (by first | rfl | decide +kernel) (pa_cons (pv 2) pa_nil)) (pv 5) (nomark _)))))).pt
    (pss_one (ps_ret pe_bl))
    pss_nil)
    (pss_cons (ps_if (pw_or (pt_cmpR (op_neP hr.units) (pe_ix ix_tup (pv 6) pe_int (fun _ _ => rfl)) (pe_ix ix_list (pe_lc (own := [("plan", 10)]) (g := gName 10) rfl S.nd (pi_list (pv 3)) (blkOk_by (N := N_law) (sc := defScope s_law) (by decide +kernel)) (fun _ _ _ _ _ => (pg_name (i := 10) S.nd rfl (by first | exact .inl rfl | exact .inr rfl | exact .inr (.inl rfl) | exact .inr (.inr rfl)))) (fun _ _ _ _ _ => (pts_one (pt_cmpR op_eq (pe_c c_law_most hr (by decide) (by rfl) (pa_cons (pv 10) pa_nil)) (pv 4) (nomark _)))) (fun _ _ _ _ _ => (pv 10))) pe_int (fun _ _ => rfl)) (nomark _)) (pw_or1 (pt_cmpR (op_neP hr.units) (pe_c c_share hr (by decide) (by rfl) (pa_cons (pv 2) pa_nil)) (pv 6) (nomark _)))).pt
    (pss_one (ps_ret pe_bl))
    pss_nil)
    (pss_cons (ps_set (i := 7) S.nd rfl (by first | exact .inl rfl | exact .inr rfl | exact .inr (.inl rfl) | exact .inr (.inr rfl)) (pe_ix ix_tup (pv 6) pe_int (fun _ _ => rfl)))
    (pss_cons (ps_if (pt_cmpR op_eq (pe_callB cr_lenDK (by rfl) T.f_len (by first | rfl | decide +kernel) (pa_cons (pv 2) pa_nil)) pe_int (nomark _))
    (pss_one (ps_ret (pe_and (pe_cmpR (op_eqP hr.units) (pv 6) (pe_tup (pa_cons pe_int (pa_cons (pe_tup pa_nil) (pa_cons (pe_tup pa_nil) pa_nil)))) (nomark _)) (pe_one (pe_cmpR op_is_bl (pe_c c_judge_share hr (by decide) (by rfl) (pa_cons (pv 2) (pa_cons (pv 6) pa_nil))) pe_bl (nomark _))))))
    pss_nil)
    (pss_cons (ps_if (pw_or (pt_not (pt_val (pe_callB call_isi (by rfl) T.f_isinstance (by first | rfl | decide +kernel) (pa_cons (pv 7) (pa_cons (pe_bltn (v := .ty "tuple") (by rfl) T.f_tuple (by first | rfl | decide +kernel) rfl) pa_nil))))) (pw_or1 (pt_cmpR (op_neP hr.units) (pe_callTy call_list_of (by rfl) T.f_list (by first | rfl | decide +kernel) (pa_cons (pv 7) pa_nil)) (pe_callB (call_sortedDI rfl) (by rfl) T.f_sorted (by first | rfl | decide +kernel) (pa_cons (pe_callTy (call_dictP rfl) (by rfl) T.f_dict (by first | rfl | decide +kernel) (pa_cons (pe_lc (own := [("block", 9)]) (g := gName 9) (tt := tYes) rfl S.nd (pi_tup (pv 7)) (blkOk_by (N := N_law) (sc := defScope s_law) (by decide +kernel)) (fun _ _ _ _ _ => (pg_name (i := 9) S.nd rfl (by first | exact .inl rfl | exact .inr rfl | exact .inr (.inl rfl) | exact .inr (.inr rfl)))) (fun _ _ _ _ _ => pts_nil) (fun _ _ _ _ _ => (pe_tup (pa_cons (pv 9) (pa_cons pe_bl pa_nil))))) pa_nil)) pa_nil)) (nomark _)))).pt
    (pss_one (ps_ret pe_bl))
    pss_nil)
    (pss_cons (ps_if (pw_or (pt_cmpR op_gt (pe_callB call_len_seq (by rfl) T.f_len (by first | rfl | decide +kernel) (pa_cons (pe_lc (own := [("block", 9)]) (g := gName 9) rfl S.nd (pi_tup (pv 7)) (blkOk_by (N := N_law) (sc := defScope s_law) (by decide +kernel)) (fun _ _ _ _ _ => (pg_name (i := 9) S.nd rfl (by first | exact .inl rfl | exact .inr rfl | exact .inr (.inl rfl) | exact .inr (.inr rfl)))) (fun _ _ _ _ _ => (pts_one (pt_cmp (pc_dnotin (hu_of hr) (pv 9) (pv 2))))) (fun _ _ _ _ _ => (pv 9))) pa_nil)) pe_int (nomark _)) (pw_or1 (pt_cmpR op_isnot_bl (pe_c c_judge_share hr (by decide) (by rfl) (pa_cons (pv 2) (pa_cons (pv 6) pa_nil))) pe_bl (nomark _)))).pt
    (pss_one (ps_ret pe_bl))
    pss_nil)
    (pss_cons (ps_set (i := 8) S.nd rfl (by first | exact .inl rfl | exact .inr rfl | exact .inr (.inl rfl) | exact .inr (.inr rfl)) pe_dnewK)
    (pss_cons (ps_for PassesOwn.never rfl (pi_tup (pv 7)) (pg_name (i := 9) S.nd rfl (by first | exact .inl rfl | exact .inr rfl | exact .inr (.inl rfl) | exact .inr (.inr rfl)))
    (pss_one (ps_expr (pe_bm PySem.F.plainAttrs_dict PySem.F.slot_dict_update PySem.F.type_dict_update mt_updD (pv 8) (pa_cons (pe_callTy (call_dictP rfl) (by rfl) T.f_dict (by first | rfl | decide +kernel) (pa_cons (pe_lc (own := [("peer", 11)]) (g := gName 11) (tt := tYes) rfl S.nd (pi_tup (pe_dget (hu_of hr) (pv 2) (pv 9) (fun _ _ => rfl))) (blkOk_by (N := N_law) (sc := defScope s_law) (by decide +kernel)) (fun _ _ _ _ _ => (pg_name (i := 11) S.nd rfl (by first | exact .inl rfl | exact .inr rfl | exact .inr (.inl rfl) | exact .inr (.inr rfl)))) (fun _ _ _ _ _ => pts_nil) (fun _ _ _ _ _ => (pe_tup (pa_cons (pv 11) (pa_cons pe_bl pa_nil))))) pa_nil)) pa_nil)))))
    (pss_one (ps_ret (pe_cmpR op_gt (pe_callB call_len_seq (by rfl) T.f_len (by first | rfl | decide +kernel) (pa_cons (pv 7) pa_nil)) (pe_op op_mul (pe_op op_sub (pv 4) pe_int) (pe_callB cr_lenDK (by rfl) T.f_len (by first | rfl | decide +kernel) (pa_cons (pv 8) pa_nil))) (nomark _)))))))))))))))))), ?_⟩
  try dsimp only [cxOf, Cx.nox]
  walk_at "go"
  refine ⟨_, rfl, sa, ns, rfl, hS, hn, fun st sc H1 hst s1 d1 => ?_⟩
  walk_at "go"
  refine ⟨_, rfl, st, sc, ns, rfl, d1, fun d O H2 k2 d2 hO2 ook hol hrow => ?_⟩
  have hO : OfA K H2 d O := hO2.same hid_sub
  clear hO2 d2 k2 d1
  walk_at "go"
  refine ⟨_, rfl, d, O, rfl, hO, ook, hol, fun r hr => (hrow r hr).2.1, fun a ps ys H3 s3 srt ea hps hpn hlen => ?_⟩
  walk_at "go"
  have hne : 0 < (prods (ys.map fun y => (y, rowO O y))).length := by
    refine List.length_pos_of_mem (a := ys.map fun y => (y, (rowO O y).headD 0)) (prods_of (by rw [List.map_map]; exact List.map_id _) fun c hc => ?_)
    obtain ⟨y, hy, rfl⟩ := List.mem_map.mp hc
    obtain ⟨r, hr1, er⟩ := row_in ook (srt.perm.mem_iff.mp hy)
    have h2 := (ook.rows _ hr1).1
    rw [er] at h2
    show (rowO O y).headD 0 ∈ rowO O y
    cases e : rowO O y with
    | nil => exact absurd e h2
    | cons p l => exact List.mem_cons_self ..
  have hys7 : ys.length ≤ 7 := by rw [srt_len srt]; exact hol
  have hpl := paired_len hps
  generalize hPL : prods (ys.map fun y => (y, rowO O y)) = PL at *
  intro D hD
  refine lc_rel (walk_list (K := K) (xs := ps.map V.ref)) hD (by rw [List.length_map]; omega) (fun H4 s4 => s4.seq (SqL.of ea)) (fun i v H4 => ∃ X, PL[i]? = some X ∧ v = V.int (mxP X : Nat)) (fun i v H4 H5 h s => h) (fun i v H4 H5 C E acc hi s4 e4 hy hC => ?_) (fun H4 us s4 e4 l4 h4 => ?_)
  · obtain ⟨rfl, hx⟩ := hy
    rw [List.getElem?_map] at hx
    obtain ⟨p, hp, rfl⟩ := Option.map_eq_some_iff.mp hx
    obtain ⟨X, hX, hv⟩ := paired_get hps i p hp
    have hXl := hlen X (List.mem_of_getElem? hX)
    walk_at "go"
    refine ⟨_, rfl, p, X, rfl, hv.same s4, by omega, fun k H6 s6 hk => hC _ _ s6 ⟨X, hX, ?_⟩⟩
    rw [MC.un hk (mc_mx X)]
  rw [List.length_map] at l4
  have eus : us = (PL.map fun X => ((mxP X : Nat) : Int)).map V.int := by
    refine List.ext_getElem? fun i => ?_
    rw [List.getElem?_map, List.getElem?_map]
    cases e : us[i]? with
    | none =>
      have h1 := List.getElem?_eq_none_iff.mp e
      rw [List.getElem?_eq_none (by omega)]
      rfl
    | some v =>
      obtain ⟨X, hX, rfl⟩ := h4 i v e
      rw [hX]
      rfl
  rw [eus] at e4
  clear h4 eus
  walk_at "go"
  refine ⟨D, _, rfl, SqL.of e4, by rw [List.length_map]; exact hne, fun v hv1 hv2 => ?_⟩
  obtain ⟨X0, hX0, rfl⟩ := List.mem_map.mp hv1
  have hlow : ∀ X ∈ PL, mxP X0 ≤ mxP X := fun X hX => Int.ofNat_le.mp (hv2 _ (List.mem_map.mpr ⟨X, hX, rfl⟩))
  have hX0l := hlen X0 hX0
  have hm7 : mxP X0 ≤ 7 := by have := mc_len (mc_mx X0); omega
  generalize hmm : mxP X0 = m at *
  have s34 := s3.trans s4
  clear hv1 hv2 e4
  walk_at "go"
  have offs : OffS O := ⟨by omega, fun r hr => ⟨(hrow r hr).2.2.1, (hrow r hr).2.2.2, by have := (hrow r hr).2.1; omega, fun q hq => by have := (ook.rows r hr).2.2 q hq; omega⟩⟩
  refine e_reprO (hO.same s34) offs ?_
  generalize hτ : dictText (PyData.shownKv (offD O)) = τ
  walk_at "go"
  refine ⟨_, rfl, d, O, rfl, hO.same s34, ook, fun r p b m2 P L H5 s5 hr5 hP5 hb5 hm2 hL hrg hok hgrd h0 hlk => ?_⟩
  obtain ⟨ys2, srt2, grd⟩ := hgrd
  have ey : ys2 = ys := srt_un srt2 srt
  subst ey
  have hPk := grd.keys
  have hPin : P ∈ PL := by
    rw [← hPL]
    exact prods_of hPk fun c hc => (hok.mem c hc).2
  have em : m2 = m := by
    have h1 := hlow P hPin
    have h2 := mx_le.mpr hok.le
    rcases Nat.lt_or_ge m m2 with z | z
    · obtain ⟨q, rfl⟩ : ∃ q, m2 = q + 1 := ⟨m2 - 1, by omega⟩
      refine absurd ?_ (ShB.no hrg.shows)
      exact (feas_prods ook srt (by rw [hPL]; exact hX0) (Nat.le_refl _)).mono (by omega)
    · omega
  subst em
  have s35 := s34.trans s5
  walk_at "go"
  rw [if_neg (by simp)]
  walk_at "go"
  refine ⟨r, _, 0, .int m2, rfl, rfl, hr5, rfl, ?_⟩
  walk_at "go"
  rw [decide_eq_true rfl]
  walk_at "go"
  refine e_reprO (hO.same s35) offs ?_
  rw [hτ]
  walk_at "go"
  rw [decide_eq_true rfl]
  walk_at "go"
  refine ⟨r, _, 1, .ref p, rfl, rfl, hr5, rfl, ?_⟩
  have ea5 := (s4.trans s5) _ _ ea
  walk_at "go"
  have hfirst : (PL.filter fun X => decide (mxP X = m2)).head? = some P := by
    rw [← hPL]
    exact grd_first grd srt ook hok (by rw [hPL]; exact hlow)
  intro D2 hD2
  refine lc_it (walk_list (K := K) (xs := ps.map V.ref)) (fun i H6 => Same H5 H6 ∧ ∃ rs : List Addr, H6 D2 = some (.lst (rs.map V.ref)) ∧ Paired (fun p P => Vec K H3 p P) rs ((PL.take i).filter fun X => decide (mxP X = m2))) ⟨same_new hD2, [], upd_same, .nil⟩ (fun i H6 _ q => SqL.of (q.1 _ _ ea5)) (fun i v H6 H7 hi q hy => ?_) (fun H6 q => ?_)
  · obtain ⟨s6, rs, e6, hrs⟩ := q
    obtain ⟨rfl, hx⟩ := hy
    rw [List.getElem?_map] at hx
    obtain ⟨p1, hp1, rfl⟩ := Option.map_eq_some_iff.mp hx
    obtain ⟨X, hX, hv⟩ := paired_get hps i p1 hp1
    have hXl := hlen X (List.mem_of_getElem? hX)
    have htk : PL.take (i + 1) = PL.take i ++ [X] := by rw [List.take_succ, hX]; rfl
    have hrl : rs.length ≤ 2187 := by
      rw [paired_len hrs]
      refine Nat.le_trans (List.length_filter_le ..) ?_
      rw [List.length_take]
      omega
    have s36 : Same H3 H7 := (s4.trans s5).trans s6
    walk_at "go"
    refine ⟨_, rfl, p1, X, rfl, hv.same s36, by omega, fun k H8 s8 hk => ?_⟩
    have ek : k = mxP X := MC.un hk (mc_mx X)
    subst ek
    walk_at "go"
    have e8 := s8 _ _ e6
    by_cases hmX : mxP X = m2
    · rw [if_pos (decide_eq_true (by omega))]
      walk_at "go"
      refine ⟨_, e8, Nat.lt_of_le_of_lt (by rw [List.length_map]; omega : _ ≤ 10000) (by decide), Same.mut (s6.trans s8) hD2, rs ++ [p1], by rw [upd_same, List.map_append]; rfl, ?_⟩
      rw [htk, List.filter_append, List.filter_cons_of_pos (by simp [hmX]), List.filter_nil]
      exact prd_app hrs (.cons hv .nil)
    · rw [if_neg (by rw [decide_eq_true_iff]; omega)]
      refine ⟨s6.trans s8, rs, e8, ?_⟩
      rw [htk, List.filter_append, List.filter_cons_of_neg (by simp [hmX]), List.filter_nil, List.append_nil]
      exact hrs
  obtain ⟨s6, rs, e6, hrs⟩ := q
  rw [List.length_map, hpl, List.take_length] at hrs
  obtain ⟨p1, rs2, hrs1, hv1⟩ := head_paired hrs hfirst
  subst hrs1
  have s56 : Same H2 H6 := s35.trans s6
  have hr6 := same_tup s6 hr5
  have hP6 := hP5.same s6
  have hb6 := same_tup s6 hb5
  walk_at "go"
  refine e_ixL (SqL.of e6) (show atI ((p1 :: rs2).map V.ref) ((0 : Nat) : Int) = some (V.ref p1) from atI_nat rfl) ?_
  refine e_nePVV hP6 (hv1.same ((s4.trans s5).trans s6)) ?_
  rw [decide_eq_true rfl]
  walk_at "go"
  refine ⟨_, rfl, d, O, rfl, hO.same s56, ook, fun r7 p7 b7 m7 P7 L7 H7 s7 hr7 hP7 hb7 hm7b hL7 hrg7 hok7 hgrd7 h07 hlk7 => ?_⟩
  have em7 : m7 = m2 := by
    rcases Nat.lt_trichotomy m7 m2 with z | z | z
    · obtain ⟨q, rfl⟩ : ∃ q, m2 = q + 1 := ⟨m2 - 1, by omega⟩
      exact absurd (Feas.mono ⟨P7, hok7, fun x hx => hrg7.keys.perm.mem_iff.mpr hx⟩ (by omega)) (ShB.no hrg.shows)
    · exact z
    · obtain ⟨q, rfl⟩ : ∃ q, m7 = q + 1 := ⟨m7 - 1, by omega⟩
      exact absurd (Feas.mono ⟨P, hok, fun x hx => hrg.keys.perm.mem_iff.mpr hx⟩ (by omega)) (ShB.no hrg7.shows)
  subst em7
  have eP7 : P7 = P := by
    obtain ⟨ys7, srt7, grd7⟩ := hgrd7
    have ey7 : ys7 = ys2 := srt_un srt7 srt
    subst ey7
    have h2 := grd_first grd7 srt ook hok7 (by rw [hPL]; exact hlow)
    rw [hPL, hfirst] at h2
    exact (Option.some.inj h2).symm
  have eL7 : L7 = L := by
    cases m7 with
    | zero => rw [h0 rfl, h07 rfl]
    | succ q => exact (hlk7 q rfl).un (hlk q rfl)
  subst eP7 eL7
  have hr70 := same_tup s7 hr6
  have hP70 := hP6.same s7
  have hb70 := same_tup s7 hb6
  have s27 := s56.trans s7
  walk_at "go"
  refine e_nePap (dp_pap hr7 hP7 hb7) (dp_pap hr70 hP70 hb70) ?_
  walk_at "go"
  refine ⟨r, _, 2, .ref b, rfl, rfl, hr70, rfl, ?_⟩
  have hgood : (Srt O (P7.map (·.1)) ∧ ∀ c ∈ P7, c.2 ∈ rowO O c.1) ∧ (∃ k : Nat, MC P7 k ∧ (m7 : Int) = k) ∧ ShB O m7 L7 := ⟨⟨hrg.keys, hrg.mem⟩, hrg.most, hrg.shows⟩
  have hPl7 : P7.length = O.length := by rw [← List.length_map (as := P7) (·.1), hPk]; exact srt_len srt
  obtain ⟨w, ed, hw⟩ := id (hO.same s27)
  have hwk := paired_keyO (R := fun q L => SqT K H7 q (L.map V.int)) hw
  have hdl := dcO_len (R := fun q L => SqT K H7 q (L.map V.int)) hw
  walk_at "go"
  refine ⟨d, dcO w, rfl, .inl ed, ?_⟩
  rw [hdl]
  walk_at "go"
  by_cases hO0 : O.length = 0
  · rw [if_pos (decide_eq_true (by omega))]
    have hP0 : P7 = [] := List.eq_nil_of_length_eq_zero (by omega)
    have hm0 : m7 = 0 := by
      have h1 := mc_mx X0
      rw [hmm] at h1
      have h2 := mc_len h1
      have h3 := srt_len srt
      omega
    have hL0 : L7 = [] := h0 hm0
    walk_at "go"
    subst hP0 hL0 hm0
    rename_i q1 hq1 q2 hq2 q3 hq3
    have s8 := (same_new (o := .tup []) hq1).trans ((same_new (o := .tup []) hq2).trans (same_new (o := .tup [.int 0, .ref q1, .ref q2]) hq3))
    have hv1 : Vec K (upd (upd (upd H7 q1 (.tup [])) q2 (.tup [])) q3 (.tup [.int 0, .ref q1, .ref q2])) q1 [] := ⟨[], same_tup ((same_new hq2).trans (same_new hq3)) (SqT.of upd_same), .nil⟩
    have hv2 : SqT K (upd (upd (upd H7 q1 (.tup [])) q2 (.tup [])) q3 (.tup [.int 0, .ref q1, .ref q2])) q2 (([] : List Int).map V.int) := same_tup (same_new hq3) (SqT.of upd_same)
    have hv3 : SqT K (upd (upd (upd H7 q1 (.tup [])) q2 (.tup [])) q3 (.tup [.int 0, .ref q1, .ref q2])) q3 [.int ((0 : Nat) : Int), .ref q1, .ref q2] := SqT.of upd_same
    refine e_eqPap (dp_pap (same_tup s8 hr70) (hP70.same s8) (same_tup s8 hb70)) (dp_pap hv3 hv1 hv2) ?_
    walk_at "go"
    refine ⟨_, _, rfl, d, O, _, rfl, (hO.same s27).same s8, ook, .prs r p b _ [] _ (same_tup s8 hr70) (hP70.same s8) (by decide) (.nums [] (same_tup s8 hb70) (by decide)), fun b1 H9 s9 h9 => ?_⟩
    have e1 : b1 = true := h9.mpr hgood
    subst e1
    walk_at "go"
    rw [decide_eq_true rfl]
  rw [if_neg (by rw [decide_eq_true_iff]; omega)]
  have hjp : 0 < m7 := by
    rcases Nat.eq_zero_or_pos m7 with z | z
    · have h1 := mc_mx P7
      cases e : P7 with
      | nil => rw [e] at hPl7; exact absurd hPl7.symm hO0
      | cons c l =>
        have h2 := hok.le c.2
        have h3 : 0 < cP P7 c.2 := by
          unfold cP
          exact List.length_pos_of_mem (a := c) (List.mem_filter.mpr ⟨by rw [e]; exact List.mem_cons_self .., decide_eq_true rfl⟩)
        omega
    · exact z
  obtain ⟨hpw, hin, hgt⟩ := hrg.shows.1 (by omega)
  clear hfirst hrs e6 hv1 ea5 hps hlow hlen hPL hX0 hPin
  walk_at "go"
  intro lb hlb
  have s10 := same_new (o := .lst (L7.map V.int)) hlb
  have e10 : (upd H7 lb (.lst (L7.map V.int))) lb = some (.lst (L7.map V.int)) := upd_same
  revert s10 e10
  generalize upd H7 lb (.lst (L7.map V.int)) = H10
  intro s10 e10
  have hb10 := same_tup s10 hb70
  walk_at "go"
  intro D6 hD6
  refine lc_tks (K := K) (L := L7) (walk_tup (K := K) (xs := L7.map V.int)) (by rw [List.length_map]) hD6 (by rw [List.length_map]; omega) (fun H1 s1 => same_tup s1 hb10) (fun i H1 x H2 hy => ⟨hy.1, hy.2⟩) (fun y H1 C E hC => ?_) (fun H11 qs s11 e11 hq => ?_)
  · walk_at "go"
    rename_i t ht
    exact hC t ht
  walk_at "go"
  refine ⟨D6, qs, _, rfl, SqL.of e11, hq, fun p2 hp2 => ?_⟩
  rw [show mergeK [] (tks L7) = tks (addN [] L7) from merge_tks L7 []]
  have s12 := (s10.trans s11).trans (same_new (o := .dK (tks (addN [] L7))) hp2)
  have e12 : (upd H11 p2 (.dK (tks (addN [] L7)))) p2 = some (.dK (tks (addN [] L7))) := upd_same
  have e102 := same_new (o := .dK (tks (addN [] L7))) hp2 _ _ (s11 _ _ e10)
  revert s12 e12 e102
  generalize upd H11 p2 (.dK (tks (addN [] L7))) = H12
  intro s12 e12 e102
  have hal := addN_len L7 []
  rw [List.length_nil, Nat.zero_add] at hal
  walk_at "go"
  refine ⟨p2, _, addN [] L7, rfl, .inl e12, by unfold tks; rw [List.map_map]; rfl, by omega, fun zs l2 hzs hzr hl2 => ?_⟩
  have hasc := asc_sorted hzs hzr
  have s13 := s12.trans (same_new (o := .lst (zs.map V.int)) hl2)
  refine e_nePL (SqL.of (same_new (o := .lst (zs.map V.int)) hl2 _ _ e102)) (SqL.of upd_same) ?_
  revert s13
  generalize upd H12 l2 (.lst (zs.map V.int)) = H13
  intro s13
  rw [show (!decide (L7 = zs)) = false by rw [decide_eq_true (hasc.mpr hpw)]; rfl]
  clear e10 e11 e12 e102 hq hb10 hasc
  have hb13 := same_tup s13 hb70
  walk_at "go"
  intro D7 hD7
  refine lc_tupF hD7 hb13 (by rw [List.length_map]; omega) (fun x => match x with | .int i => !decide (i ∈ keyO O) | _ => false) (fun x => x) (fun x H14 C E hx s14 hC hE => ?_) (fun H14 s14 e14 => ?_)
  · obtain ⟨i, hi, rfl⟩ := List.mem_map.mp hx
    walk_at "go"
    refine ⟨d, valV (dcO w) (Sum.inl i), rfl, DGet.k (k := Sum.inl i) ((s13.trans s14) _ _ ed), ?_⟩
    refine ⟨_, rfl, ?_⟩
    rw [val_keyO, hwk]
    rw [if_neg (by simp [hin i hi])]
    exact hE (by simp [hin i hi]) _ (Same.refl _)
  have s15 := s13.trans s14
  have hb15 := same_tup s15 hb70
  have hr15 := same_tup s15 hr70
  walk_at "go"
  have hfl : ∀ (f : V → Bool), (((L7.map V.int).filter f).map fun x => x).length = (L7.filter fun i => f (.int i)).length := fun f => by
    rw [List.length_map, List.filter_map, List.length_map]
    rfl
  rw [hfl]
  have hin0 : (L7.filter fun i => !decide (i ∈ keyO O)).length = 0 := filter_none.mpr fun c hc => by simp [hin c hc]
  rw [if_neg (by rw [decide_eq_true_iff]; show ¬ (0 : Int) < ((L7.filter fun i => !decide (i ∈ keyO O)).length : Int); omega)]
  clear e14 hin0 hfl hb13
  walk_at "go"
  refine ⟨_, _, rfl, d, O, _, rfl, hO.same (s27.trans s15), ook, .prs r p b _ P7 _ hr15 (hP70.same s15) (by omega) (.nums L7 hb15 (by omega)), fun b1 H17 s17 h17 => ?_⟩
  have e1 : b1 = true := h17.mpr hgood
  subst e1
  have s18 := s15.trans s17
  have hb18 := same_tup s18 hb70
  clear h17 hb15 hr15
  walk_at "go"
  rw [if_neg (by decide)]
  walk_at "go"
  intro u hu
  have hu0 : H7 u = none := none_sm s18 hu
  have s19 := s18.trans (same_new (o := .dK []) hu)
  have e19 : (upd H17 u (.dK [])) u = some (.dK (tks [])) := upd_same
  have hb19 := same_tup s19 hb70
  revert s19 e19 hb19
  generalize upd H17 u (.dK []) = H19
  intro s19 e19 hb19
  walk_at "go"
  refine for_intsT (ns := L7) (fun pre σ H1 => (∃ v9 : Option V, σ = [some (.ref sa), some (.ref st), some (.ref d), some (.ref a), some (.int m7), some (.str τ), some (.ref r), some (.ref b), some (.ref u), v9, none, none]) ∧ Same H7 H1 ∧ ∃ N, H1 u = some (.dK (tks N)) ∧ In9 N ∧ ∀ q, q ∈ N ↔ ∃ x ∈ pre, q ∈ rowO O x) ⟨⟨_, rfl⟩, s19, [], e19, ⟨List.nodup_nil, fun q hq => by cases hq⟩, fun q => by simp⟩ (fun pre σ H1 z => same_tup z.2.1 hb70) (fun pre x post σ H1 e0 z => ?_) (fun σ H1 z => ?_)
  · obtain ⟨⟨v9, rfl⟩, s1, N, eu, h9, hN⟩ := z
    have hx : x ∈ L7 := by rw [e0]; simp
    obtain ⟨q0, er, hr⟩ := val_dcO (R := fun q L => SqT K H7 q (L.map V.int)) x hw (hin x hx)
    obtain ⟨rw0, hrw, erw⟩ := row_in ook (hin x hx)
    have hr9 := ook.rows _ hrw
    rw [erw] at hr9
    have hr1 := same_tup s1 hr
    walk_at "go"
    refine ⟨.inr (.inr (.inl ⟨rfl, .inl ⟨_, eu⟩⟩)), ?_⟩
    walk_at "go"
    refine ⟨d, .ref q0, rfl, by rw [← er]; exact DGet.k (k := Sum.inl x) (s1 _ _ ed), q0, rfl, ⟨_, hr1⟩, fun D8 hD8 => ?_⟩
    refine lc_tks (K := K) (L := rowO O x) (walk_tup (K := K) (xs := (rowO O x).map V.int)) (by rw [List.length_map]) hD8 (by rw [List.length_map]; omega) (fun H2 s2 => same_tup s2 hr1) (fun i H2 x H3 hy => ⟨hy.1, hy.2⟩) (fun y H2 C E hC => ?_) (fun H2 qs s2 e2 hq => ?_)
    · walk_at "go"
      rename_i t ht
      exact hC t ht
    walk_at "go"
    refine ⟨D8, qs, _, rfl, SqL.of e2, hq, fun p3 hp3 => ?_⟩
    rw [show mergeK [] (tks (rowO O x)) = tks (addN [] (rowO O x)) from merge_tks (rowO O x) []]
    have nup : u ≠ p3 := fun z => by rw [← z, s2 _ _ eu] at hp3; cases hp3
    have s3 := (s1.trans s2).trans (same_new (o := .dK (tks (addN [] (rowO O x)))) hp3)
    have eu3 := same_new (o := .dK (tks (addN [] (rowO O x)))) hp3 _ _ (s2 _ _ eu)
    have e3 : (upd H2 p3 (.dK (tks (addN [] (rowO O x))))) p3 = some (.dK (tks (addN [] (rowO O x)))) := upd_same
    revert s3 eu3 e3
    generalize upd H2 p3 (.dK (tks (addN [] (rowO O x)))) = H3
    intro s3 eu3 e3
    have h9b : In9 (addN N (addN [] (rowO O x))) := ⟨addN_nd _ h9.1, fun q hq => by
      rcases (addN_mem q _ _).mp hq with z | z
      · exact h9.2 q z
      · rcases (addN_mem q _ _).mp z with y | y
        · cases y
        · exact hr9.2.2 q y⟩
    have l9a := in9_len h9
    have l9b := addN_len (rowO O x) []
    rw [List.length_nil] at l9b
    walk_at "go"
    refine ⟨u, p3, tks N, tks (addN [] (rowO O x)), rfl, rfl, nup, eu3, e3, Nat.le_trans (by unfold tks; rw [List.length_map, List.length_map]; omega : _ ≤ 1000) (by decide), ⟨_, rfl⟩, Same.mut s3 hu0, addN N (addN [] (rowO O x)), ?_, h9b, fun q => ?_⟩
    · rw [merge_tks]; exact upd_same
    · rw [addN_mem, addN_mem, hN]
      constructor
      · rintro (⟨y, h1, h2⟩ | (h1 | h1))
        · exact ⟨y, List.mem_append_left _ h1, h2⟩
        · cases h1
        · exact ⟨x, by simp, h1⟩
      · rintro ⟨y, h1, h2⟩
        rcases List.mem_append.mp h1 with z | z
        · exact .inl ⟨y, z, h2⟩
        · rw [List.mem_singleton.mp z] at h2; exact .inr (.inr h2)
  · obtain ⟨⟨v9, rfl⟩, s1, N, eu, h9, hN⟩ := z
    have hb1 := same_tup s1 hb70
    have l9 := in9_len h9
    walk_at "go"
    refine ⟨u, _, rfl, .inl eu, ?_⟩
    rw [show (tks N).length = N.length from by unfold tks; rw [List.length_map]]
    walk_at "go"
    have hfin := hgt N ⟨h9.1, hN⟩
    rw [List.length_map, decide_eq_true hfin]
end
theorem facts {P : Program} {w : World} {K : PySem.W.Frag} {h : Heap} {mg : Str → Option Value} {f : Addr} (X : K.In h) (G : h.Ns mainGlobals mg) (hfa : mg ("law" : Str) = some (.ref f)) (cc : He.SaysD fa fn K) :
    TopOk P w K mg 63 f := by
  have c : He.SaysD fa fn K := cc
  have T : Txt K mg := ⟨He.free_ok X G (c.fact 16 (f := .free "abs") rfl), He.free_ok X G (c.fact 17 (f := .free "all") rfl), He.free_ok X G (c.fact 18 (f := .free "bool") rfl), He.free_ok X G (c.fact 19 (f := .free "dict") rfl), He.free_ok X G (c.fact 20 (f := .free "int") rfl), He.free_ok X G (c.fact 21 (f := .free "isinstance") rfl), He.free_ok X G (c.fact 22 (f := .free "len") rfl), He.free_ok X G (c.fact 23 (f := .free "list") rfl), He.free_ok X G (c.fact 24 (f := .free "max") rfl), He.free_ok X G (c.fact 25 (f := .free "min") rfl), He.free_ok X G (c.fact 26 (f := .free "range") rfl), He.free_ok X G (c.fact 27 (f := .free "repr") rfl), He.free_ok X G (c.fact 28 (f := .free "set") rfl), He.free_ok X G (c.fact 29 (f := .free "sorted") rfl), He.free_ok X G (c.fact 30 (f := .free "tuple") rfl), He.free_ok X G (c.fact 31 (f := .free "zip") rfl)⟩
  obtain ⟨fd_is_integer, F_is_integer⟩ := c.def_ 0 (d := d_is_integer) rfl
  have c_is_integer : ∀ base : Heap, Cal P w K mg base 1 "is_integer" (sp_is_integer K) := fun base => ⟨_, _, ["value"], ok_is_integer T  F_is_integer, He.glo_ok X G (c.fact 0 (f := .glo "is_integer") rfl), F_is_integer.kp, FunD.bindsN F_is_integer fun _ _ _ _ _ _ us hl => match us, hl with | [_], _ => rfl⟩
  obtain ⟨fd_most_of, F_most_of⟩ := c.def_ 8 (d := d_most_of) rfl
  have c_most_of : ∀ base : Heap, Cal P w K mg base 1 "_most_of" (sp_most_of K) := fun base => ⟨_, _, ["plan"], ok_most_of T  F_most_of, He.glo_ok X G (c.fact 8 (f := .glo "_most_of") rfl), F_most_of.kp, FunD.bindsN F_most_of fun _ _ _ _ _ _ us hl => match us, hl with | [_], _ => rfl⟩
  obtain ⟨fd_law_draws, F_law_draws⟩ := c.def_ 10 (d := d_law_draws) rfl
  have c_law_draws : ∀ base : Heap, Cal P w K mg base 1 "_law_draws" (sp_law_draws K) := fun base => ⟨_, _, ["script"], ok_law_draws T  F_law_draws, He.glo_ok X G (c.fact 10 (f := .glo "_law_draws") rfl), F_law_draws.kp, FunD.bindsN F_law_draws fun _ _ _ _ _ _ us hl => match us, hl with | [_], _ => rfl⟩
  obtain ⟨fd_law_draw, F_law_draw⟩ := c.def_ 11 (d := d_law_draw) rfl
  have c_law_draw : ∀ base : Heap, Cal P w K mg base 1 "_law_draw" (sp_law_draw K) := fun base => ⟨_, _, ["draws", "limit"], ok_law_draw T  F_law_draw, He.glo_ok X G (c.fact 11 (f := .glo "_law_draw") rfl), F_law_draw.kp, FunD.bindsN F_law_draw fun _ _ _ _ _ _ us hl => match us, hl with | [_, _], _ => rfl⟩
  obtain ⟨fd_law_most, F_law_most⟩ := c.def_ 13 (d := d_law_most) rfl
  have c_law_most : ∀ base : Heap, Cal P w K mg base 1 "_law_most" (sp_law_most K) := fun base => ⟨_, _, ["plan"], ok_law_most T  F_law_most, He.glo_ok X G (c.fact 13 (f := .glo "_law_most") rfl), F_law_most.kp, FunD.bindsN F_law_most fun _ _ _ _ _ _ us hl => match us, hl with | [_], _ => rfl⟩
  obtain ⟨fd_law_plans, F_law_plans⟩ := c.def_ 14 (d := d_law_plans) rfl
  have c_law_plans : ∀ base : Heap, Cal P w K mg base 1 "_law_plans" (sp_law_plans K) := fun base => ⟨_, _, ["offers"], ok_law_plans T  F_law_plans, He.glo_ok X G (c.fact 14 (f := .glo "_law_plans") rfl), F_law_plans.kp, FunD.bindsN F_law_plans fun _ _ _ _ _ _ us hl => match us, hl with | [_], _ => rfl⟩
  obtain ⟨fd_is_plan, F_is_plan⟩ := c.def_ 7 (d := d_is_plan) rfl
  have c_is_plan : ∀ base : Heap, Cal P w K mg base 2 "_is_plan" (sp_is_plan K) := fun base => ⟨_, _, ["offers", "plan"], ok_is_plan T (c_is_integer base) F_is_plan, He.glo_ok X G (c.fact 7 (f := .glo "_is_plan") rfl), F_is_plan.kp, FunD.bindsN F_is_plan fun _ _ _ _ _ _ us hl => match us, hl with | [_, _], _ => rfl⟩
  obtain ⟨fd_shows, F_shows⟩ := c.def_ 9 (d := d_shows) rfl
  have c_shows : ∀ base : Heap, Cal P w K mg base 2 "_shows" (sp_shows K) := fun base => ⟨_, _, ["offers", "most", "blocks"], ok_shows T (c_is_integer base) F_shows, He.glo_ok X G (c.fact 9 (f := .glo "_shows") rfl), F_shows.kp, FunD.bindsN F_shows fun _ _ _ _ _ _ us hl => match us, hl with | [_, _, _], _ => rfl⟩
  obtain ⟨fd_law_offers, F_law_offers⟩ := c.def_ 12 (d := d_law_offers) rfl
  have c_law_offers : ∀ base : Heap, Cal P w K mg base 2 "_law_offers" (sp_law_offers K) := fun base => ⟨_, _, ["draws"], ok_law_offers T (c_law_draw base) F_law_offers, He.glo_ok X G (c.fact 12 (f := .glo "_law_offers") rfl), F_law_offers.kp, FunD.bindsN F_law_offers fun _ _ _ _ _ _ us hl => match us, hl with | [_], _ => rfl⟩
  obtain ⟨fd_judge_share, F_judge_share⟩ := c.def_ 6 (d := d_judge_share) rfl
  have c_judge_share : ∀ base : Heap, Cal P w K mg base 3 "judge_share" (sp_judge_share K) := fun base => ⟨_, _, ["offers", "paper"], ok_judge_share T (c_is_plan base) (c_is_integer base) (c_shows base) (c_most_of base) F_judge_share, He.glo_ok X G (c.fact 6 (f := .glo "judge_share") rfl), F_judge_share.kp, FunD.bindsN F_judge_share fun _ _ _ _ _ _ us hl => match us, hl with | [_, _], _ => rfl⟩
  obtain ⟨fd_assign, F_assign⟩ := c.def_ 3 (d := d_assign) rfl
  obtain ⟨fd_moves_one, F_moves_one⟩ := c.def_ 4 (d := d_moves_one) rfl
  have both : ∀ (base : Heap) (n : Nat), Cal P w K mg base (2 * n + 1) "_assign" (sp_assign K n) ∧ Cal P w K mg base (2 * n + 2) "_moves_one" (sp_moves_one K n) := fun base n => by
    induction n with
    | zero =>
      have a : Cal P w K mg base (2 * 0 + 1) "_assign" (sp_assign K 0) := ⟨_, _, ["offers", "plan", "most", "block", "tried"], ⟨fun vs H Q E h => absurd h (assign_none vs H Q E), fun A outer s H args us vs Q E _ _ _ _ h => absurd h (assign_none vs H Q E)⟩, He.glo_ok X G (c.fact 3 (f := .glo "_assign") rfl), F_assign.kp, FunD.bindsN F_assign fun _ _ _ _ _ _ us hl => match us, hl with | [_, _, _, _, _], _ => rfl⟩
      exact ⟨a, ⟨_, _, ["offers", "plan", "most", "blocks", "tried"], ok_moves_one 0 T a F_moves_one, He.glo_ok X G (c.fact 4 (f := .glo "_moves_one") rfl), F_moves_one.kp, FunD.bindsN F_moves_one fun _ _ _ _ _ _ us hl => match us, hl with | [_, _, _, _, _], _ => rfl⟩⟩
    | succ n ih =>
      have a : Cal P w K mg base (2 * (n + 1) + 1) "_assign" (sp_assign K (n + 1)) := ⟨_, _, ["offers", "plan", "most", "block", "tried"], ok_assign n T ih.2 F_assign, He.glo_ok X G (c.fact 3 (f := .glo "_assign") rfl), F_assign.kp, FunD.bindsN F_assign fun _ _ _ _ _ _ us hl => match us, hl with | [_, _, _, _, _], _ => rfl⟩
      exact ⟨a, ⟨_, _, ["offers", "plan", "most", "blocks", "tried"], ok_moves_one (n + 1) T a F_moves_one, He.glo_ok X G (c.fact 4 (f := .glo "_moves_one") rfl), F_moves_one.kp, FunD.bindsN F_moves_one fun _ _ _ _ _ _ us hl => match us, hl with | [_, _, _, _, _], _ => rfl⟩⟩
  have c_assign : ∀ base : Heap, Cal P w K mg base 21 "_assign" (sp_assign K 10) := fun base => (both base 10).1
  have c_moves_one : ∀ base : Heap, Cal P w K mg base 22 "_moves_one" (sp_moves_one K 10) := fun base => (both base 10).2
  obtain ⟨fd_lacking, F_lacking⟩ := c.def_ 2 (d := d_lacking) rfl
  have c_lacking : ∀ base : Heap, Cal P w K mg base 22 "_lacking" (sp_lacking K) := fun base => ⟨_, _, ["offers", "most"], ok_lacking T (c_assign base) F_lacking, He.glo_ok X G (c.fact 2 (f := .glo "_lacking") rfl), F_lacking.kp, FunD.bindsN F_lacking fun _ _ _ _ _ _ us hl => match us, hl with | [_, _], _ => rfl⟩
  obtain ⟨fd_moves_one, F_moves_one⟩ := c.def_ 4 (d := d_moves_one) rfl
  obtain ⟨fd_first_plan, F_first_plan⟩ := c.def_ 5 (d := d_first_plan) rfl
  have c_first_plan : ∀ base : Heap, Cal P w K mg base 23 "_first_plan" (sp_first_plan K) := fun base => ⟨_, _, ["offers", "most"], ok_first_plan T (c_lacking base) F_first_plan, He.glo_ok X G (c.fact 5 (f := .glo "_first_plan") rfl), F_first_plan.kp, FunD.bindsN F_first_plan fun _ _ _ _ _ _ us hl => match us, hl with | [_, _], _ => rfl⟩
  obtain ⟨fd_share, F_share⟩ := c.def_ 1 (d := d_share) rfl
  have c_share : ∀ base : Heap, Cal P w K mg base 24 "share" (sp_share K) := fun base => ⟨_, _, ["offers"], ok_share T (c_lacking base) (c_first_plan base) F_share, He.glo_ok X G (c.fact 1 (f := .glo "share") rfl), F_share.kp, FunD.bindsN F_share fun _ _ _ _ _ _ us hl => match us, hl with | [_], _ => rfl⟩
  obtain ⟨fd_law, F_law⟩ := c.def_ 15 (d := d_law) rfl
  have e := hfa.symm.trans (He.glo_ok X G (c.fact 15 (f := .glo "law") rfl))
  cases e
  have b := FunD.bindsA (ps := ["script"]) F_law fun _ _ _ _ _ _ us hl => match us, hl with | [_], _ => rfl
  exact ok_law T c_law_draws c_law_offers c_law_plans c_law_most c_share c_judge_share F_law fun s v => b s [v] rfl
end Vk81
set_option maxHeartbeats 0
open PySem PySem.W PySem.Calls PyProof.Rows
theorem PySem.Challenge.cw_folderkin_k81_least_shares_holds : PySem.Challenge.rw_folderkin_k81_least_shares.Holds := by
  w_on; o_law
  refine HandSHeadRun.head_any (r := OpenLaw.row PySem.Challenge.rw_folderkin_k81_least_shares) (q := view (OpenLaw.row PySem.Challenge.rw_folderkin_k81_least_shares).prog [18]) (H := Vk81.hk) (ob := Vk81.ob) (M := 8000) (loose := ["is_integer", "share", "_lacking", "_assign", "_moves_one", "_first_plan", "judge_share", "_is_plan", "_most_of", "_shows", "_law_draws", "_law_draw", "_law_offers", "_law_most", "_law_plans"]) (d := HandSHeadRun.topDef (OpenLaw.row PySem.Challenge.rw_folderkin_k81_least_shares).prog 18) (kwd := []) Vk81.ob_eq
    (by kernel_rfl) (fun s => by kernel_rfl) Vk81.run (by kernel_rfl) (by kernel_rfl) (by kernel_rfl) (by rfl) (by first | assumption | decide +kernel) (by decide +kernel) ⟨rfl, rfl, rfl, rfl, rfl, by decide +kernel⟩ ?hw ?hc
  case hw => w_witness2
  case hc =>
    refine Vf.walk_ofG (l := PySem.Challenge.rw_folderkin_k81_least_shares) (n := 63) rfl (by decide) (by kernel_rfl) ?F
    intro w mg fa h Y G hmg0
    obtain ⟨K, KX, c⟩ := Y
    have hmg : mg ("law" : PySem.Str) = some (.ref fa) := by
      have e : (HandSHeadRun.topDef (OpenLaw.row PySem.Challenge.rw_folderkin_k81_least_shares).prog 18).name = ("law" : PySem.Str) := by kernel_rfl
      rw [← e]
      exact hmg0
    exact ⟨K, KX, Vk81.facts (P := (PySem.Challenge.rw_folderkin_k81_least_shares).prog) (w := w) KX G hmg c⟩
