import PyProof.Rows.All
import Wide.All
import OpenK.AllK
import Wide.FinOn
import KE.KStateDown
import HandS.ForMost
import HandS.Codes
import HandS.Defaults
import HandS.Flow
import HandS.Walk
import HandS.Wide
import HandS.IsInst
import HandS.Iter
import KE.GoesMore
import KE.GoesEnum
import KE.LtData
import KE.DataCmp
import HandS.WideBits
import HandS.RevRange
import HandS.TupLe
import HandS.TupAny
import HandS.Style
import HandS.Dict
import HandS.More
import KE.KDictPairs
import KE.OsGo
import HandS.ForSpec
import HandS.ExcIs
import KE.KExcIs
import HandS.Head0
import HandS.Head1
import HandS.Head2
import HandS.HeadEnd
import HandS.HeadHook1
import HandS.HeadHook2
import HandS.OwnEq
import HandS.MakeKw
import KE.DataEq
import HandS.DictTup
import HandS.Deep
import KE.KDictWalk
import HandS.Gcd
import HandS.Text
import HandS.StrMore
import HandS.SortKw
import KE.DataMinKey
import HandS.FStr
import PyProof.NeKinds
import HandS.DictComp
import HandS.SetKeys
import KE.KEqDict
import HandS.SetFor
import HandS.Strs
import KE.DataFind
import HandS.Zip
import KE.KDictZip
import PyProof.InstNe
import HandS.HotCalls
import KE.GoesRaise
import HandS.CallSlots
import HandS.TryOnly
import PyProof.TupleOfSeq
import HandS.SortRule
import KE.DataMinMax
import KE.SortData
import HandS.TupMul
import HandS.Ends
import PyProof.Rows.ReprR
import PyProof.ReprReads
import PyProof.ReprRoads
import PyProof.Rows.StrJoinMade
import HandS.FStrTup
import PyProof.Rows.StrRev
import PyProof.StrOps2
import Lean
import PySem.Challenge.RW_folderkin_k42_any_text_as_patterns
set_option Elab.async false
set_option linter.all false
set_option maxRecDepth 100000
set_option maxHeartbeats 4000000
namespace Vf
open PySem L2 PySem.Spec PyProof.Rows

/-- what is left of a loop, of a comprehension, behind what it walks -/
def ForB (J : It) (g : TG) (t : TS) (D : Ends) (σ : L2.St) (H1 : Hp) : Prop := ∃ W : Nat → Nat → L2.St → Hp → Prop, (∃ m, W 0 m σ H1) ∧ ∀ i m σ H, W i m σ H →
  (J.stop i H ∧ D.nx σ H) ∨ (J.go i H ∧ ∃ N : L2.St → Hp → Prop, (∀ σ' H', N σ' H' → ∃ m', m' < m ∧ W (i + 1) m' σ' H') ∧ ∀ x H', J.yld i H x H' → g x σ H' fun σ2 H2 => t { D with nx := N, ct := N, bk := D.nx } σ2 H2)
def LcB (J : It) (g : TG) (tt : TT) (te : TE) (vs : List Nat) (σ : L2.St) (D : Addr) (H1 : Hp) (Q : VK) : Prop := ∃ W : Nat → Nat → Hp → Prop, (∃ m, W 0 m (upd H1 D (.lst []))) ∧ ∀ i m H, W i m H →
  (J.stop i H ∧ Q (.ref D) H) ∨ (J.go i H ∧
    ∃ Nx : Hp → Prop, (∀ H', Nx H' → ∃ m', m' < m ∧ W (i + 1) m' H') ∧
    ∀ x H', J.yld i H x H' → g x (wipe σ vs) H' fun σ2 H2 => wipe σ2 vs = wipe σ vs ∧ tt σ2 H2 fun b H3 =>
    if b = true then te σ2 H3 fun y H4 => 
      ∃ acc, H4 D = some (.lst acc) ∧ acc.length < sizeLine ∧
      Nx (upd H4 D (.lst (acc ++ [y]))) else Nx H3)
section
variable {K : PySem.W.Frag} {g : TG} {t : TS} {D : Ends} {σ : L2.St} {H : Hp} {tt : TT} {te : TE} {vs : List Nat} {Q : VK} {Da : Addr}
/-- for c in z, a text: Pv by the signs gone -/
theorem for_str {z : Str} (Pv : List Nat → L2.St → Hp → Prop) (h0 : Pv [] σ H)
    (hs : ∀ (pre : List Nat) (c : Nat) (post : List Nat) σ H, z.cps.toList = pre ++ c :: post → Pv pre σ H → g (.str ⟨#[c]⟩) σ H fun σ2 H2 => t { D with nx := Pv (pre ++ [c]), ct := Pv (pre ++ [c]), bk := D.nx } σ2 H2)
    (hd : ∀ σ H, Pv z.cps.toList σ H → D.nx σ H) : ForB (Its z) g t D σ H := by
  refine for_it walk_str (fun i => Pv (z.cps.toList.take i)) (by simpa using h0) (fun _ _ _ _ _ => trivial) (fun i x σ H H' hi p y => ?_) (fun σ H p => ?_)
  · obtain ⟨e, c, hc, hx⟩ := y
    subst e hx
    have hc' : z.cps.toList[i]? = some c := by simpa using hc
    have hi' : i < z.cps.toList.length := by simpa using hi
    have e1 : z.cps.toList = z.cps.toList.take i ++ c :: z.cps.toList.drop (i + 1) := by
      have e2 := (List.getElem?_eq_some_iff.mp hc').2
      rw [← e2, List.getElem_cons_drop, List.take_append_drop]
    have e3 : z.cps.toList.take (i + 1) = z.cps.toList.take i ++ [c] := by
      rw [List.take_add_one, hc']; rfl
    rw [e3]
    exact hs _ c _ σ _ e1 p
  · refine hd σ H ?_
    have e : z.cps.toList.take z.cps.size = z.cps.toList := List.take_of_length_le (by simp)
    rw [← e]
    exact p
theorem lc_str {z : Str} (Pv : List Nat → Hp → Prop) (h0 : Pv [] (upd H Da (.lst [])))
    (hs : ∀ (pre : List Nat) (c : Nat) (post : List Nat) H, z.cps.toList = pre ++ c :: post → Pv pre H → g (.str ⟨#[c]⟩) (wipe σ vs) H fun σ2 H2 => wipe σ2 vs = wipe σ vs ∧ tt σ2 H2 fun b H3 =>
      if b = true then te σ2 H3 fun y H4 => ∃ acc, H4 Da = some (.lst acc) ∧ acc.length < sizeLine ∧ Pv (pre ++ [c]) (upd H4 Da (.lst (acc ++ [y]))) else Pv (pre ++ [c]) H3)
    (hd : ∀ H, Pv z.cps.toList H → Q (.ref Da) H) : LcB (Its z) g tt te vs σ Da H Q := by
  refine lc_it walk_str (fun i => Pv (z.cps.toList.take i)) (by simpa using h0) (fun _ _ _ _ => trivial) (fun i x H H' hi p y => ?_) (fun H p => ?_)
  · obtain ⟨e, c, hc, hx⟩ := y
    subst e hx
    have hc' : z.cps.toList[i]? = some c := by simpa using hc
    have e1 : z.cps.toList = z.cps.toList.take i ++ c :: z.cps.toList.drop (i + 1) := by
      have e2 := (List.getElem?_eq_some_iff.mp hc').2
      rw [← e2, List.getElem_cons_drop, List.take_append_drop]
    have e3 : z.cps.toList.take (i + 1) = z.cps.toList.take i ++ [c] := by
      rw [List.take_add_one, hc']; rfl
    rw [e3]
    exact hs _ c _ _ e1 p
  · refine hd H ?_
    have e : z.cps.toList.take z.cps.size = z.cps.toList := List.take_of_length_le (by simp)
    rw [← e]
    exact p
theorem for_rng {lo : Int} {n : Nat} (Pv : Nat → L2.St → Hp → Prop) (h0 : Pv 0 σ H)
    (hs : ∀ i σ H, i < n → Pv i σ H → g (.int (lo + i)) σ H fun σ2 H2 => t { D with nx := Pv (i + 1), ct := Pv (i + 1), bk := D.nx } σ2 H2) (hd : ∀ σ H, Pv n σ H → D.nx σ H) : ForB (Itr lo n) g t D σ H := for_range Pv h0 hs hd
theorem lc_rng {lo : Int} {n : Nat} (Pv : Nat → Hp → Prop) (h0 : Pv 0 (upd H Da (.lst [])))
    (hs : ∀ i H, i < n → Pv i H → g (.int (lo + i)) (wipe σ vs) H 
      fun σ2 H2 => wipe σ2 vs = wipe σ vs ∧ tt σ2 H2 fun b H3 =>
      if b = true then te σ2 H3 fun y H4 => ∃ acc, H4 Da = some (.lst acc) ∧ acc.length < sizeLine ∧ Pv (i + 1) (upd H4 Da (.lst (acc ++ [y]))) else Pv (i + 1) H3) (hd : ∀ H, Pv n H → Q (.ref Da) H) :
    LcB (Itr lo n) g tt te vs σ Da H Q := lc_range Pv h0 hs hd
/-- for x in xs, a list: Pv by what was taken -/
theorem for_lst {a : Addr} {xs : List V} (Pv : List V → L2.St → Hp → Prop) (h0 : Pv [] σ H) (hl : ∀ pre σ H, Pv pre σ H → SqL K H a xs)
    (hs : ∀ (pre : List V) (x : V) (post : List V) σ H, xs = pre ++ x :: post → Pv pre σ H → g x σ H fun σ2 H2 => t { D with nx := Pv (pre ++ [x]), ct := Pv (pre ++ [x]), bk := D.nx } σ2 H2)
    (hd : ∀ σ H, Pv xs σ H → D.nx σ H) : ForB (Itl K a) g t D σ H := by
  refine for_list (xs := xs) (fun i => Pv (xs.take i)) (by simpa using h0) (fun i σ H _ p => hl _ σ H p) (fun i x σ H hx p => ?_) (fun σ H p => ?_)
  · have e1 : xs = xs.take i ++ x :: xs.drop (i + 1) := by
      have e2 := (List.getElem?_eq_some_iff.mp hx).2
      rw [← e2, List.getElem_cons_drop, List.take_append_drop]
    have e3 : xs.take (i + 1) = xs.take i ++ [x] := by
      rw [List.take_add_one, hx]; rfl
    rw [e3]
    exact hs _ x _ σ H e1 p
  · rw [List.take_length] at p
    exact hd σ H p
theorem lc_lst {a : Addr} {xs : List V} (Pv : List V → Hp → Prop) (h0 : Pv [] (upd H Da (.lst []))) (hl : ∀ pre H, Pv pre H → SqL K H a xs)
    (hs : ∀ (pre : List V) (x : V) (post : List V) H, xs = pre ++ x :: post → Pv pre H → g x (wipe σ vs) H fun σ2 H2 => wipe σ2 vs = wipe σ vs ∧ tt σ2 H2 fun b H3 =>
      if b = true then te σ2 H3 fun y H4 => ∃ acc, H4 Da = some (.lst acc) ∧ acc.length < sizeLine ∧ Pv (pre ++ [x]) (upd H4 Da (.lst (acc ++ [y]))) else Pv (pre ++ [x]) H3)
    (hd : ∀ H, Pv xs H → Q (.ref Da) H) : LcB (Itl K a) g tt te vs σ Da H Q := by
  refine lc_list (xs := xs) (fun i => Pv (xs.take i)) (by simpa using h0) (fun i H _ p => hl _ H p) (fun i x H hx p => ?_) (fun H p => ?_)
  · have e1 : xs = xs.take i ++ x :: xs.drop (i + 1) := by
      have e2 := (List.getElem?_eq_some_iff.mp hx).2
      rw [← e2, List.getElem_cons_drop, List.take_append_drop]
    have e3 : xs.take (i + 1) = xs.take i ++ [x] := by
      rw [List.take_add_one, hx]; rfl
    rw [e3]
    exact hs _ x _ H e1 p
  · rw [List.take_length] at p
    exact hd H p
theorem for_tpl {a : Addr} {xs : List V} (Pv : List V → L2.St → Hp → Prop) (h0 : Pv [] σ H) (hl : ∀ pre σ H, Pv pre σ H → SqT K H a xs)
    (hs : ∀ (pre : List V) (x : V) (post : List V) σ H, xs = pre ++ x :: post → Pv pre σ H → g x σ H fun σ2 H2 => t { D with nx := Pv (pre ++ [x]), ct := Pv (pre ++ [x]), bk := D.nx } σ2 H2)
    (hd : ∀ σ H, Pv xs σ H → D.nx σ H) : ForB (Itt K a) g t D σ H := by
  refine for_tup (xs := xs) (fun i => Pv (xs.take i)) (by simpa using h0) (fun i σ H _ p => hl _ σ H p) (fun i x σ H hx p => ?_) (fun σ H p => ?_)
  · have e1 : xs = xs.take i ++ x :: xs.drop (i + 1) := by
      have e2 := (List.getElem?_eq_some_iff.mp hx).2
      rw [← e2, List.getElem_cons_drop, List.take_append_drop]
    have e3 : xs.take (i + 1) = xs.take i ++ [x] := by
      rw [List.take_add_one, hx]; rfl
    rw [e3]
    exact hs _ x _ σ H e1 p
  · rw [List.take_length] at p
    exact hd σ H p
end

/-! ### readings, one lemma a head -/
section
variable {σ : L2.St} {H : Hp} {Q : VK} {D : Ends} {te ta tb tx : TE} {tt tu : TT} {t u : TS} {as : TA} {r r' : R2} {x y v : V} {K : PySem.W.Frag}
theorem e_var {i : Nat} (h : σ[i]? = some (some v)) (q : Q v H) : tVar i σ H Q := ⟨v, h, q⟩
theorem e_c (q : Q v H) : tC v σ H Q := q
theorem e_op (q : ta σ H fun x H1 => tb σ H1 fun y H2 => r x y H2 Q) : tOp r ta tb σ H Q := q
theorem e_un {r : V → Hp → VK → Prop} (q : ta σ H fun x H1 => r x H1 Q) : tUn r ta σ H Q := q
theorem e_I0 {g : Int → Int → V} {i j : Int} (q : Q (g i j) H) : rI0 g (.int i) (.int j) H Q := ⟨i, j, rfl, rfl, q⟩
theorem e_I {C : Int → Int → Prop} {g : Int → Int → V} {i j : Int} (c : C i j) (q : Q (g i j) H) : rI C g (.int i) (.int j) H Q := ⟨i, j, rfl, rfl, c, q⟩
theorem e_U {g : Int → V} {i : Int} (q : Q (g i) H) : rU g (.int i) H Q := ⟨i, rfl, q⟩
theorem e_eq (s : scal x y = true) (q : Q (.bl (decide (x = y))) H) : rEq x y H Q := ⟨s, q⟩
theorem e_ne (s : scal x y = true) (q : Q (.bl (!decide (x = y))) H) : rNe x y H Q := ⟨s, q⟩
theorem e_eqI {i j : Int} (q : Q (.bl (decide (i = j))) H) : rEq (.int i) (.int j) H Q := ⟨rfl, by
  have e : decide (V.int i = V.int j) = decide (i = j) := by
    by_cases h : i = j
    · rw [h]; simp
    · rw [decide_eq_false h, decide_eq_false (fun z => h (V.int.inj z))]
  rw [e]; exact q⟩
theorem e_neI {i j : Int} (q : Q (.bl (!decide (i = j))) H) : rNe (.int i) (.int j) H Q := ⟨rfl, by
  have e : decide (V.int i = V.int j) = decide (i = j) := by
    by_cases h : i = j
    · rw [h]; simp
    · rw [decide_eq_false h, decide_eq_false (fun z => h (V.int.inj z))]
  rw [e]; exact q⟩
theorem e_eqS {i j : Str} (q : Q (.bl (decide (i = j))) H) : rEq (.str i) (.str j) H Q := ⟨rfl, by
  have e : decide (V.str i = V.str j) = decide (i = j) := by
    by_cases h : i = j
    · rw [h]; simp
    · rw [decide_eq_false h, decide_eq_false (fun z => h (V.str.inj z))]
  rw [e]; exact q⟩
theorem e_neS {i j : Str} (q : Q (.bl (!decide (i = j))) H) : rNe (.str i) (.str j) H Q := ⟨rfl, by
  have e : decide (V.str i = V.str j) = decide (i = j) := by
    by_cases h : i = j
    · rw [h]; simp
    · rw [decide_eq_false h, decide_eq_false (fun z => h (V.str.inj z))]
  rw [e]; exact q⟩
theorem e_eqB {i j : Bool} (q : Q (.bl (i == j)) H) : rEq (.bl i) (.bl j) H Q := ⟨rfl, by
  have e : decide (V.bl i = V.bl j) = (i == j) := by cases i <;> cases j <;> rfl
  rw [e]; exact q⟩
theorem e_neB {i j : Bool} (q : Q (.bl (i != j)) H) : rNe (.bl i) (.bl j) H Q := ⟨rfl, by
  have e : (!decide (V.bl i = V.bl j)) = (i != j) := by cases i <;> cases j <;> rfl
  rw [e]; exact q⟩
theorem e_test {Q : Bool → Hp → Prop} (q : te σ H fun x H' => ∃ k, x = .bl k ∧ Q k H') : tTest te σ H Q := q
theorem e_B {Q : Bool → Hp → Prop} (q : te σ H fun x H' => ∃ k, x = .bl k ∧ Q k H') : tB te σ H Q := q
theorem e_ex {b : Bool} {P : Bool → Prop} (q : P b) : ∃ k, V.bl b = .bl k ∧ P k := ⟨b, rfl, q⟩
theorem e_and {Q : Bool → Hp → Prop} (q : tt σ H fun c H1 => if c = true then tu σ H1 Q else Q false H1) : tAnd tt tu σ H Q := q
theorem e_or {Q : Bool → Hp → Prop} (q : tt σ H fun c H1 => if c = true then Q true H1 else tu σ H1 Q) : tOr tt tu σ H Q := q
theorem e_not {Q : Bool → Hp → Prop} (q : tt σ H fun c H1 => Q (!c) H1) : tNot tt σ H Q := q
theorem e_yes {Q : Bool → Hp → Prop} (q : Q true H) : tYes σ H Q := q
theorem e_andV (q : ta σ H fun x H1 => ∃ c, x = .bl c ∧ if c = true then tb σ H1 Q else Q (.bl false) H1) : tAndV ta tb σ H Q := q
theorem e_orV (q : ta σ H fun x H1 => ∃ c, x = .bl c ∧ if c = true then Q (.bl true) H1 else tb σ H1 Q) : tOrV ta tb σ H Q := q
theorem e_notV (q : ta σ H fun x H1 => ∃ c, x = .bl c ∧ Q (.bl (!c)) H1) : tNotV ta σ H Q := q
theorem e_if (q : tt σ H fun c H1 => if c = true then ta σ H1 Q else tb σ H1 Q) : tIf tt ta tb σ H Q := q
theorem e_chain (q : ta σ H fun x H1 => tb σ H1 fun y H2 => r x y H2 fun z H3 => ∃ k, z = .bl k ∧ (if k = true then tx σ H3 fun w' H4 => r' y w' H4 Q else Q (.bl false) H3)) : tChain r r' ta tb tx σ H Q := q
theorem e_seq (q : t { D with nx := u D } σ H) : tSeq t u D σ H := q
theorem e_next (q : D.nx σ H) : tNext D σ H := q
theorem e_break (q : D.bk σ H) : tBreak D σ H := q
theorem e_cont (q : D.ct σ H) : tCont D σ H := q
theorem e_drop (q : te σ H fun _ H1 => D.nx σ H1) : tDrop te D σ H := q
theorem e_ret (q : te σ H D.rt) : tRet te D σ H := q
theorem e_retN (q : D.rt .non H) : tRetN D σ H := q
theorem e_ifS (q : tt σ H fun b H1 => if b = true then t D σ H1 else u D σ H1) : tIfS tt t u D σ H := q
theorem e_asg {g : TG} (q : te σ H fun x H1 => g x σ H1 D.nx) : tAsg te g D σ H := q
theorem e_name {i : Nat} {Q : L2.St → Hp → Prop} (q : Q (σ.set i (some v)) H) : gName i v σ H Q := q
theorem e_sub {to ti : TE} {st : TSet} {Q : L2.St → Hp → Prop} (q : to σ H fun o H1 => ti σ H1 fun i H2 => st o i v H2 fun H3 => Q σ H3) : gSub to ti st v σ H Q := q
theorem e_aug {i : Nat} {ti : TIp} (h : σ[i]? = some (some x)) (q : te σ H fun y H1 => ti x y H1 fun z H2 => D.nx (σ.set i (some z)) H2) : tAug i te ti D σ H := ⟨x, h, q⟩
theorem e_nil {Q : List V → Hp → Prop} (q : Q [] H) : tNil σ H Q := q
theorem e_cons {Q : List V → Hp → Prop} (q : ta σ H fun x H1 => as σ H1 fun xs H2 => Q (x :: xs) H2) : tCons ta as σ H Q := q
theorem e_call {sp : Sp} {dvs : List V} {E : XK} (q : as σ H fun vs H1 => sp (vs ++ dvs) H1 Q E) : tCall sp dvs E as σ H Q := q
theorem e_CB {r : List V → Hp → VK → Prop} (q : as σ H fun vs H1 => r vs H1 Q) : tCB r as σ H Q := q
theorem e_tup (q : as σ H fun xs H1 => xs.length ≤ sizeLine ∧ ∀ p, H1 p = none → Q (.ref p) (upd H1 p (.tup xs))) : tTup as σ H Q := q
theorem e_lst (q : as σ H fun xs H1 => xs.length ≤ sizeLine ∧ ∀ p, H1 p = none → Q (.ref p) (upd H1 p (.lst xs))) : tLst as σ H Q := q
theorem e_sl {r : V → Option Int → Option Int → Hp → VK → Prop} {tl th : TO} (q : te σ H fun x H1 => tl σ H1 fun l H2 => th σ H2 fun u H3 => r x l u H3 Q) : tSl r te tl th σ H Q := q
theorem e_noP {Q : Option Int → Hp → Prop} (q : Q none H) : tNoPart σ H Q := q
theorem e_part {Q : Option Int → Hp → Prop} (q : te σ H fun x H1 => ∃ i, x = .int i ∧ Q (some i) H1) : tPart te σ H Q := q
theorem e_exI {i : Int} {P : Int → Prop} (q : P i) : ∃ k, V.int i = .int k ∧ P k := ⟨i, rfl, q⟩
theorem e_bm {T : String} {r : V → List V → Hp → VK → Prop} {to : TE} (q : to σ H fun x H1 => tyV K T x H1 ∧ as σ H1 fun xs H2 => r x xs H2 Q) : tBM K T r to as σ H Q := q
theorem e_for {wi : TI} {g : TG} (q : wi σ H fun J H1 => ForB J g t D σ H1) : tFor wi g t D σ H := q
theorem e_lc {wi : TI} {g : TG} {vs : List Nat} (q : wi σ H fun J H1 => ∀ D, H1 D = none → LcB J g tt te vs σ D H1 Q) : tLc wi g tt te vs σ H Q := q
theorem e_exS {i : Str} {P : Str → Prop} (q : P i) : ∃ k, V.str i = .str k ∧ P k := ⟨i, rfl, q⟩
theorem e_exR {a : Addr} {xs : List V} {P : Addr → Prop} (h : SqL K H a xs) (q : P a) : ∃ k, V.ref a = .ref k ∧ (∃ xs, SqL K H k xs) ∧ P k := ⟨a, rfl, ⟨xs, h⟩, q⟩
theorem e_exRT {a : Addr} {xs : List V} {P : Addr → Prop} (h : SqT K H a xs) (q : P a) : ∃ k, V.ref a = .ref k ∧ (∃ xs, SqT K H k xs) ∧ P k := ⟨a, rfl, ⟨xs, h⟩, q⟩
theorem e_rng1 {n : Int} {P : Int → Prop} (h1 : -(2 ^ 62) ≤ n) (h2 : n < 2 ^ 62) (q : P n) : ∃ j : Int, [V.int n] = [.int j] ∧ -(2 ^ 62) ≤ j ∧ j < 2 ^ 62 ∧ P j := ⟨n, rfl, h1, h2, q⟩
theorem e_rng2 {m n : Int} {P : Int → Int → Prop} (h : -(2 ^ 62) ≤ m ∧ m < 2 ^ 62 ∧ -(2 ^ 62) ≤ n ∧ n < 2 ^ 62) (q : P m n) : ∃ i j : Int, [V.int m, V.int n] = [.int i, .int j] ∧ (-(2 ^ 62) ≤ i ∧ i < 2 ^ 62 ∧ -(2 ^ 62) ≤ j ∧ j < 2 ^ 62) ∧ P i j := ⟨m, n, rfl, h, q⟩
theorem e_m0 {r : V → List V → Hp → VK → Prop} {to : TE} (q : to σ H fun x H1 => (∃ a, x = .str a) ∧ r x [] H1 Q) : tM0 r to σ H Q := q
theorem e_m1 {r : V → List V → Hp → VK → Prop} {to : TE} (q : to σ H fun x H1 => (∃ a, x = .str a) ∧ te σ H1 fun y H2 => r x [y] H2 Q) : tM1 r to te σ H Q := q
theorem e_slS {z : Str} {lo hi : Option Int} (h : z.length ≤ sizeLine) (q : Q (.str (cutS z lo hi)) H) : rSlS (.str z) lo hi H Q := ⟨z, rfl, h, q⟩
theorem e_iList {R : It → Hp → Prop} {tl : TE} (q : tl σ H fun x H1 => ∃ a, x = .ref a ∧ (∃ xs, SqL K H1 a xs) ∧ R (Itl K a) H1) : iList K tl σ H R := q
theorem e_iTup {R : It → Hp → Prop} {tl : TE} (q : tl σ H fun x H1 => ∃ a, x = .ref a ∧ (∃ xs, SqT K H1 a xs) ∧ R (Itt K a) H1) : iTup K tl σ H R := q
theorem e_iStr {R : It → Hp → Prop} {tl : TE} (q : tl σ H fun v H1 => ∃ x, v = .str x ∧ R (Its x) H1) : iStr tl σ H R := q
theorem e_iRng1 {R : It → Hp → Prop} (q : as σ H fun vs H1 => ∃ j : Int, vs = [.int j] ∧ -(2 ^ 62) ≤ j ∧ j < 2 ^ 62 ∧ R (Itr 0 j.toNat) H1) : iRng1 as σ H R := q
theorem e_iRng2 {R : It → Hp → Prop} (q : as σ H fun vs H1 => ∃ i j : Int, vs = [.int i, .int j] ∧ (-(2 ^ 62) ≤ i ∧ i < 2 ^ 62 ∧ -(2 ^ 62) ≤ j ∧ j < 2 ^ 62) ∧ R (Itr i (j - i).toNat) H1) : iRng2 as σ H R := q
theorem e_ixL {p : Addr} {xs : List V} {i : Int} (h : SqL K H p xs) (ha : atI xs i = some v) (q : Q v H) : rIxL K (.ref p) (.int i) H Q := ⟨p, xs, i, v, rfl, rfl, h, ha, q⟩
theorem e_ixT {p : Addr} {xs : List V} {i : Int} (h : SqT K H p xs) (ha : atI xs i = some v) (q : Q v H) : rIxT K (.ref p) (.int i) H Q := ⟨p, xs, i, v, rfl, rfl, h, ha, q⟩
theorem e_ixS {z : Str} {i : Int} {c : Nat} (hz : z.length ≤ sizeLine) (ha : atI z.cps.toList i = some c) (q : Q (.str ⟨#[c]⟩) H) : rIxS (.str z) (.int i) H Q := ⟨z, i, c, rfl, rfl, hz, ha, q⟩
theorem e_len {p : Addr} {ys : List V} (h : SqL K H p ys) (q : Q (.int ys.length) H) : ∃ p' ys', [V.ref p] = [V.ref p'] ∧ (SqL K H p' ys' ∨ SqT K H p' ys') ∧ Q (.int (ys'.length : Nat)) H := ⟨p, ys, rfl, .inl h, q⟩
theorem e_lenT {p : Addr} {ys : List V} (h : SqT K H p ys) (q : Q (.int ys.length) H) : ∃ p' ys', [V.ref p] = [V.ref p'] ∧ (SqL K H p' ys' ∨ SqT K H p' ys') ∧ Q (.int (ys'.length : Nat)) H := ⟨p, ys, rfl, .inr h, q⟩
theorem e_lenS {z : Str} (h : z.length ≤ sizeLine) (q : Q (.int z.length) H) : ∃ z', [V.str z] = [V.str z'] ∧ z'.length ≤ sizeLine ∧ Q (.int (z'.length : Nat)) H := ⟨z, rfl, h, q⟩
theorem e_int1 {i : Int} (q : Q (.int i) H) : (∃ i', [V.int i] = [V.int i'] ∧ Q (.int i') H) ∨ ∃ k, [V.int i] = [V.bl k] ∧ Q (.int (if k = true then 1 else 0)) H := .inl ⟨i, rfl, q⟩
theorem e_setL {p : Addr} {xs : List V} {k : Int} {j : Nat} {Q : Hp → Prop} (h : H p = some (.lst xs)) (hj : ixN xs.length k = some j) (q : Q (upd H p (.lst (xs.set j v)))) : rSetL (.ref p) (.int k) v H Q := ⟨p, xs, k, j, rfl, rfl, h, hj, q⟩
theorem e_cut {Mid : L2.St → Hp → Prop} (h1 : t { D with nx := Mid } σ H) (h2 : ∀ σ' H', Mid σ' H' → u D σ' H') : C8.tCut t u D σ H := ⟨Mid, h1, h2⟩
/-- a test that is known, or open -/
theorem i_T {A B : Prop} (h : A) : if true = true then A else B := by rw [if_pos rfl]; exact h
theorem i_F {A B : Prop} (h : B) : if false = true then A else B := by rw [if_neg Bool.false_ne_true]; exact h
theorem i_d {p : Prop} [Decidable p] {A B : Prop} (h1 : p → A) (h2 : ¬ p → B) : if decide p = true then A else B := by
  by_cases h : p
  · rw [decide_eq_true h]; exact i_T (h1 h)
  · rw [decide_eq_false h]; exact i_F (h2 h)
theorem i_nd {p : Prop} [Decidable p] {A B : Prop} (h1 : ¬ p → A) (h2 : p → B) : if (!decide p) = true then A else B := by
  by_cases h : p
  · rw [decide_eq_true h]; exact i_F (h2 h)
  · rw [decide_eq_false h]; exact i_T (h1 h)
theorem i_b {b : Bool} {A B : Prop} (h1 : b = true → A) (h2 : b = false → B) : if b = true then A else B := by
  cases b
  · exact i_F (h2 rfl)
  · exact i_T (h1 rfl)
theorem i_nself {b : Bool} {A B : Prop} (h : B) : if (!(b == b)) = true then A else B := by
  rw [beq_self_eq_true]; exact i_F h
theorem i_self {α : Type} [DecidableEq α] {x : α} {A B : Prop} (h : A) : if decide (x = x) = true then A else B := by
  rw [decide_eq_true rfl]; exact i_T h
theorem i_neself {α : Type} [DecidableEq α] {x : α} {A B : Prop} (h : B) : if (!decide (x = x)) = true then A else B := by
  rw [decide_eq_true rfl]; exact i_F h
theorem i_nb {b : Bool} {A B : Prop} (h1 : b = false → A) (h2 : b = true → B) : if (!b) = true then A else B := by
  cases b
  · exact i_T (h1 rfl)
  · exact i_F (h2 rfl)
end

section
variable {K : PySem.W.Frag} {H : Hp} {Q : VK}
theorem isi_ty {x : V} {t n : String} {b : Bool} (ty : TyX K H x (.type t)) (e : PySem.W.kitOne K (.type t) (.type n) = some b) (q : Q (.bl b) H) : rIsi K [x, .ty n] H Q := ⟨x, .ty n, _, _, b, rfl, .ty n, ty, e, q⟩
theorem isi_bb {x : Bool} (q : Q (.bl true) H) : rIsi K [.bl x, .ty "bool"] H Q := isi_ty (.base (.bl x)) (kit_ty (by decide +kernel)) q
theorem isi_ib {x : Int} (q : Q (.bl false) H) : rIsi K [.int x, .ty "bool"] H Q := isi_ty (.base (.int x)) (kit_ty (by decide +kernel)) q
theorem isi_bi {x : Bool} (q : Q (.bl true) H) : rIsi K [.bl x, .ty "int"] H Q := isi_ty (.base (.bl x)) (kit_ty (by decide +kernel)) q
theorem isi_ii {x : Int} (q : Q (.bl true) H) : rIsi K [.int x, .ty "int"] H Q := isi_ty (.base (.int x)) (kit_ty (by decide +kernel)) q
theorem isi_si {x : Str} (q : Q (.bl false) H) : rIsi K [.str x, .ty "int"] H Q := isi_ty (.base (.str x)) (kit_ty (by decide +kernel)) q
theorem isi_ni (q : Q (.bl false) H) : rIsi K [.non, .ty "int"] H Q := isi_ty (.base .non) (kit_ty (by decide +kernel)) q
theorem isi_tt {p : Addr} {xs : List V} (h : H p = some (.tup xs)) (q : Q (.bl true) H) : rIsi K [.ref p, .ty "tuple"] H Q := isi_ty (.base (.tup h)) (kit_ty (by decide +kernel)) q
theorem isi_ll {p : Addr} {xs : List V} (h : H p = some (.lst xs)) (q : Q (.bl true) H) : rIsi K [.ref p, .ty "list"] H Q := isi_ty (.base (.lst h)) (kit_ty (by decide +kernel)) q
theorem isi_lt {p : Addr} {xs : List V} (h : H p = some (.lst xs)) (q : Q (.bl false) H) : rIsi K [.ref p, .ty "tuple"] H Q := isi_ty (.base (.lst h)) (kit_ty (by decide +kernel)) q
end
/-! ### defs that are called by their names -/
structure Cal (P : Program) (w : World) (K : PySem.W.Frag) (mg : Str → Option Value) (base : Heap) (k : Nat) (x : Str) (sp : Sp) : Prop where
  ex : ∃ (f : Addr) (fd : FuncData) (ps : List Str), FnOk P w K mg base CX0 k f fd ps sp ∧ mg x = some (.ref f) ∧ PySem.W.keepIn K (.ref f) = true ∧ Binds K fd ps []
theorem pe_c {X : Cx} {k j : Nat} {x : Str} {sp : Sp} {p pos : Pos} {e : Expr} {es : List Expr} {t : TA} (c : Cal X.prog X.w X.K X.mg X.base k x sp) (hr : Room j X.A) (hk : k ≤ j) (hg : Gl X x) (ha : PA X (e :: es) t)
    (hdb : (x == ("__debug__" : Str)) = false := by decide) 
    (he : starEach (e :: es) X.env = (false, eval e X.env) :: starEach es X.env := by rfl) 
    (hpl : (backTo pos (starEach es X.env)).any (·.1) = false := by rfl) :
    PE X (.Call (.Name x p) (e :: es) [] pos) (tCall sp [] E0 t) := by
  obtain ⟨f, fd, ps, F, hm, kp, b⟩ := c.ex
  exact pe_call F (hr.mono hk) hg hm kp b .nil pass0 ha hdb he hpl
theorem pe_c0 {X : Cx} {k j : Nat} {x : Str} {sp : Sp} {p pos : Pos} (c : Cal X.prog X.w X.K X.mg X.base k x sp) (hr : Room j X.A) (hk : k ≤ j) (hg : Gl X x)
    (hdb : (x == ("__debug__" : Str)) = false := by decide) :
    PE X (.Call (.Name x p) [] [] pos) (tCall sp [] E0 tNil) := by
  obtain ⟨f, fd, ps, F, hm, kp, b⟩ := c.ex
  exact pe_call0 F (hr.mono hk) hg hm kp b .nil pass0 hdb

/-- promises by arity -/
abbrev sp0 (R : Hp → VK → Prop) : Sp := fun vs H Q _ => vs = [] ∧ R H Q
abbrev sp1 (R : V → Hp → VK → Prop) : Sp := fun vs H Q _ => ∃ a, vs = [a] ∧ R a H Q
abbrev sp2 (R : V → V → Hp → VK → Prop) : Sp := fun vs H Q _ => ∃ a b, vs = [a, b] ∧ R a b H Q
abbrev sp3 (R : V → V → V → Hp → VK → Prop) : Sp := fun vs H Q _ => ∃ a b c, vs = [a, b, c] ∧ R a b c H Q
abbrev sp4 (R : V → V → V → V → Hp → VK → Prop) : Sp := fun vs H Q _ => ∃ a b c d, vs = [a, b, c, d] ∧ R a b c d H Q


theorem sz_of {n : Nat} (h : n ≤ 1000000) : n ≤ sizeLine := Nat.le_trans h (by decide)
/-! ### heaps: all but one address as it was -/
def Kp (st : Addr) (H H' : Hp) : Prop := ∀ b o, b ≠ st → H b = some o → H' b = some o
theorem Kp.refl (st : Addr) (H : Hp) : Kp st H H := fun _ _ _ h => h
theorem Kp.trans {st : Addr} {H H1 H2 : Hp} (a : Kp st H H1) (b : Kp st H1 H2) : Kp st H H2 := fun c o n h => b c o n (a c o n h)
theorem Kp.of {st : Addr} {H H' : Hp} (a : Same H H') : Kp st H H' := fun c o _ h => a c o h
theorem same_new {H : Hp} {p : Addr} {o : HO} (h : H p = none) : Same H (upd H p o) := fun b x e => by
  rw [upd_ne (ne_of_none e h)]
  exact e
theorem Kp.new {st p : Addr} {H : Hp} {o : HO} (h : H p = none) : Kp st H (upd H p o) := Kp.of (same_new h)
/-- an object that was not there at first may change -/
theorem Kp.mut {st p : Addr} {H H' : Hp} {o : HO} (a : Kp st H H') (h : H p = none) : Kp st H (upd H' p o) := fun b x n e => by
  rw [upd_ne (ne_of_none e h)]
  exact a b x n e
theorem Kp.put {st : Addr} {H H' : Hp} {o : HO} (a : Kp st H H') : Kp st H (upd H' st o) := fun b x n e => by
  rw [upd_ne n]
  exact a b x n e
theorem Same.mut {p : Addr} {H H' : Hp} {o : HO} (a : Same H H') (h : H p = none) : Same H (upd H' p o) := fun b x e => by
  rw [upd_ne (ne_of_none e h)]
  exact a b x e
theorem Kp.free {st p : Addr} {H H' : Hp} (a : Kp st H H') (hs : ∃ o, H' st = some o) (h : H' p = none) : H p = none := by
  cases q : H p with
  | none => rfl
  | some o =>
    by_cases e : p = st
    · obtain ⟨o', h'⟩ := hs
      rw [e, h'] at h
      cases h
    · rw [a p o e q] at h
      cases h

/-- the state of the draws and the script: two ints at st, the script at sc whatever is drawn -/
structure Dr (K : PySem.W.Frag) (st sc : Addr) (ns : List Int) (H : Hp) : Prop where
  s : ∃ a b : Int, 0 ≤ a ∧ 0 ≤ b ∧ H st = some (.lst [.int a, .int b])
  sc : ∀ H', Kp st H H' → SqL K H' sc (ns.map V.int)
  len : ns.length ≤ 63
theorem Dr.kp {K : PySem.W.Frag} {st sc : Addr} {ns : List Int} {H H' : Hp} (d : Dr K st sc ns H) (k : Kp st H H') (s : ∃ a b : Int, 0 ≤ a ∧ 0 ≤ b ∧ H' st = some (.lst [.int a, .int b])) : Dr K st sc ns H' :=
  ⟨s, fun H2 k2 => d.sc H2 (k.trans k2), d.len⟩
theorem Dr.same {K : PySem.W.Frag} {st sc : Addr} {ns : List Int} {H H' : Hp} (d : Dr K st sc ns H) (k : Same H H') : Dr K st sc ns H' := by
  obtain ⟨a, b, h1, h2, h3⟩ := d.s
  exact d.kp (Kp.of k) ⟨a, b, h1, h2, k _ _ h3⟩
theorem Dr.seq {K : PySem.W.Frag} {st sc : Addr} {ns : List Int} {H : Hp} (d : Dr K st sc ns H) : SqL K H sc (ns.map V.int) := d.sc H (Kp.refl st H)
theorem sq_keep {K : PySem.W.Frag} {H H' : Hp} {a p : Addr} {xs : List V} (h : SqL K H a xs) (hp : H p = none) (k : Kp p H H') : SqL K H' a xs := by
  rcases h with (h | ⟨c9, h⟩) | h
  · exact .inl (.inl (k _ _ (ne_of_none h hp) h))
  · exact .inl (.inr ⟨c9, k _ _ (ne_of_none h hp) h⟩)
  · exact .inr h
theorem Dr.start {K : PySem.W.Frag} {st sc : Addr} {ns : List Int} {H : Hp} (h : SqL K H sc (ns.map V.int)) (hp : H st = none) (hl : ns.length ≤ 63) : Dr K st sc ns (upd H st (.lst [.int 0, .int 0])) :=
  ⟨⟨0, 0, by decide, by decide, upd_same⟩, fun H' k => sq_keep h hp fun b o n e => k b o n (by rw [upd_ne n]; exact e), hl⟩
theorem Dr.ne {K : PySem.W.Frag} {st sc p : Addr} {ns : List Int} {H : Hp} (d : Dr K st sc ns H) (h : H p = none) : p ≠ st := by
  obtain ⟨a, b, _, _, h3⟩ := d.s
  intro e
  rw [e, h3] at h
  cases h
theorem pick_int {l : List Int} {d : Int} (h0 : 0 ≤ d) (h1 : d < l.length) : ∃ n, n ∈ l ∧ atI (l.map V.int) d = some (.int n) := by
  have h : d.toNat < l.length := by omega
  exact ⟨l[d.toNat], List.getElem_mem h, at_of (j := d.toNat) (by omega) (by rw [List.getElem?_map, List.getElem?_eq_getElem h]; rfl)⟩
theorem pick_nat {l : List Nat} {d : Int} (h0 : 0 ≤ d) (h1 : d < l.length) : ∃ n, n ∈ l ∧ atI l d = some n := by
  have h : d.toNat < l.length := by omega
  obtain ⟨j, hj⟩ : ∃ j : Nat, d = (j : Int) := ⟨d.toNat, by omega⟩
  have h2 : j < l.length := by omega
  subst hj
  exact ⟨l[j], List.getElem_mem h2, atI_nat (List.getElem?_eq_getElem h2)⟩
theorem at_last {ns : List Int} (h : 0 < ns.length) : ∃ x, atI (ns.map V.int) (-1) = some (.int x) := by
  have e : ns = ns.dropLast ++ [ns.getLast (by intro q; rw [q] at h; cases h)] := (List.dropLast_concat_getLast _).symm
  rw [e, List.map_append]
  exact ⟨_, atI_last _ _⟩
theorem pick_sign {z : Str} {d : Int} (h0 : 0 ≤ d) (h1 : d < (z.length : Int)) : ∃ c, c ∈ z.cps.toList ∧ atI z.cps.toList d = some c :=
  pick_nat h0 (by simpa [Str.length] using h1)
theorem len_app (a b : Str) : (a ++ b).length = a.length + b.length := PySem.Str.length_append a b
/-- what a call behind which only the draws' state has changed hands on -/
def RDraw (K : PySem.W.Frag) (st sc : Addr) (ns : List Int) (H : Hp) (G : Hp → Prop) : Prop := Dr K st sc ns H ∧ ∀ H', Kp st H H' → Dr K st sc ns H' → G H'
theorem Dr.mut {K : PySem.W.Frag} {st sc p : Addr} {ns : List Int} {H0 H1 : Hp} {o : HO} (d0 : Dr K st sc ns H0) (d : Dr K st sc ns H1) (hp : H0 p = none) (k : Kp st H0 H1) : Dr K st sc ns (upd H1 p o) := by
  obtain ⟨a, b, h1, h2, h3⟩ := d.s
  exact d0.kp (k.mut hp) ⟨a, b, h1, h2, by rw [upd_ne (d0.ne hp).symm]; exact h3⟩
section
variable {K : PySem.W.Frag} {g : TG} {σ : L2.St} {te : TE} {vs : List Nat} {Q : VK} {Da st sc : Addr} {ns : List Int} {H0 : Hp}
/-- [e for k in range(..)], e with draws -/
theorem lc_dr {lo : Int} {n : Nat} (d0 : Dr K st sc ns H0) (hD : H0 Da = none) (hn : n ≤ 1000000) (Pe : V → Prop)
    (hs : ∀ (i : Nat) (H2 : Hp) (C : VK) (E : Hp → Prop), i < n → Kp st H0 H2 → Dr K st sc ns H2 → (∀ y H3, Kp st H2 H3 → Dr K st sc ns H3 → Pe y → C y H3) →
      g (.int (lo + i)) (wipe σ vs) H2 fun σ2 H2 => wipe σ2 vs = wipe σ vs ∧ tYes σ2 H2 fun b H3 => if b = true then te σ2 H3 C else E H3)
    (hd : ∀ (H : Hp) (xs : List V), Kp st H0 H → Dr K st sc ns H → H Da = some (.lst xs) → xs.length = n → (∀ x ∈ xs, Pe x) → Q (.ref Da) H) : LcB (Itr lo n) g tYes te vs σ Da H0 Q := by
  have nD := d0.ne hD
  refine lc_rng (fun i H2 => Kp st H0 H2 ∧ Dr K st sc ns H2 ∧ ∃ xs : List V, H2 Da = some (.lst xs) ∧ xs.length = i ∧ ∀ x ∈ xs, Pe x) ⟨Kp.new hD, d0.same (same_new hD), [], upd_same, rfl, fun _ hy => by cases hy⟩ (fun i H2 hi p => ?_) (fun H2 p => ?_)
  · obtain ⟨k4, d4, xs, e4, l4, o4⟩ := p
    refine hs i H2 _ _ hi k4 d4 fun y H3 k5 d5 hy => ?_
    refine ⟨xs, k5 _ _ nD e4, Nat.lt_of_le_of_lt (Nat.le_of_lt (by omega : xs.length < 1000001)) (by decide), (k4.trans k5).mut hD, Dr.mut d0 d5 hD (k4.trans k5), xs ++ [y], upd_same, by simp [l4], fun z hz => ?_⟩
    rcases List.mem_append.mp hz with h | h
    · exact o4 z h
    · rw [List.mem_singleton.mp h]; exact hy
  · obtain ⟨k4, d4, xs, e4, l4, o4⟩ := p
    exact hd H2 xs k4 d4 e4 l4 o4
/-- [e for k in range(..)], e a function of k -/
theorem lc_map_rng {lo : Int} {n : Nat} (hD : H0 Da = none) (hn : n ≤ 1000000) (f : Nat → V)
    (hs : ∀ (i : Nat) (H2 : Hp) (C : VK) (E : Hp → Prop), i < n → Same H0 H2 → (∀ H3, Same H2 H3 → C (f i) H3) →
      g (.int (lo + i)) (wipe σ vs) H2 fun σ2 H2 => wipe σ2 vs = wipe σ vs ∧ tYes σ2 H2 fun b H3 => if b = true then te σ2 H3 C else E H3)
    (hd : ∀ (H : Hp), Same H0 H → H Da = some (.lst ((List.range n).map f)) → Q (.ref Da) H) : LcB (Itr lo n) g tYes te vs σ Da H0 Q := by
  refine lc_rng (fun i H2 => Same H0 H2 ∧ H2 Da = some (.lst ((List.range i).map f))) ⟨same_new hD, upd_same⟩ (fun i H2 hi p => ?_) (fun H2 p => hd H2 p.1 p.2)
  obtain ⟨k4, e4⟩ := p
  refine hs i H2 _ _ hi k4 fun H3 k5 => ?_
  refine ⟨_, k5 _ _ e4, Nat.lt_of_le_of_lt (by simp; omega : _ ≤ 1000000) (by decide), Same.mut (k4.trans k5) hD, ?_⟩
  rw [upd_same, List.range_succ, List.map_append]
  rfl
/-- [e for x in xs], a list, e a function of x -/
theorem lc_map_lst {a : Addr} {xs : List V} (hS : SqL K H0 a xs) (hD : H0 Da = none) (hn : xs.length ≤ 1000000) (f : V → V)
    (hs : ∀ (x : V) (H2 : Hp) (C : VK) (E : Hp → Prop), x ∈ xs → Same H0 H2 → (∀ H3, Same H2 H3 → C (f x) H3) →
      g x (wipe σ vs) H2 fun σ2 H2 => wipe σ2 vs = wipe σ vs ∧ tYes σ2 H2 fun b H3 => if b = true then te σ2 H3 C else E H3)
    (hd : ∀ (H : Hp), Same H0 H → H Da = some (.lst (xs.map f)) → Q (.ref Da) H) : LcB (Itl K a) g tYes te vs σ Da H0 Q := by
  refine lc_lst (xs := xs) (fun pre H2 => Same H0 H2 ∧ H2 Da = some (.lst (pre.map f)) ∧ pre.length ≤ xs.length) ⟨same_new hD, upd_same, Nat.zero_le _⟩ (fun pre H2 p => p.1.seq hS) (fun pre x post H2 e p => ?_) (fun H2 p => hd H2 p.1 p.2.1)
  obtain ⟨k4, e4, l4⟩ := p
  refine hs x H2 _ _ (by rw [e]; simp) k4 fun H3 k5 => ?_
  refine ⟨_, k5 _ _ e4, Nat.lt_of_le_of_lt (by simp; omega : _ ≤ 1000000) (by decide), Same.mut (k4.trans k5) hD, ?_, by rw [e]; simp⟩
  rw [upd_same, List.map_append]
  rfl
end
/-- a draw: any number below the size -/
def spDraw (K : PySem.W.Frag) : Sp := sp3 fun a b c H Q => ∃ (st sc : Addr) (ns : List Int) (n : Int), a = .ref st ∧ b = .ref sc ∧ c = .int n ∧ Dr K st sc ns H ∧ 0 < n ∧ n < 2 ^ 60 ∧
  ∀ (d : Int) (H' : Hp), 0 ≤ d → d < n → Kp st H H' → Dr K st sc ns H' → Q (.int d) H'

abbrev FnP (K : PySem.W.Frag) (x : Str) (st : Stmt) (f : Addr) (fd : FuncData) : Prop :=
  FunD K x x (defArgs st) (defBody st) (defScope st) [] [] f fd
end Vf

namespace PySem
open Sem (wp)
theorem meets_enumerate_newTup (l : Addr) (row : Array Value) (ob : Obj) (cap : Nat) :
    Meets (Builtin.«enumerate.__new__» ⟨[.type "enumerate", .ref l], []⟩) (fun _ R s => (s.heap.get? l = some ob ∧ ob.cls = .type "tuple" ∧ ob.data = .seq row cap) ∧
      R (.ok (.ret (.ref (s.heap.push { cls := .type "tuple_iterator", data := .fields #[.ref l, .int 0 0] }).objs.size)))
        { s with heap := (s.heap.push { cls := .type "tuple_iterator", data := .fields #[.ref l, .int 0 0] }).push { cls := .type "enumerate", data := .fields #[.none, .bool false, .ref s.heap.objs.size, rawInt 0, .none, .none] } }) :=
  .of_wp fun prg w A R s h => by
    obtain ⟨hp, g, d, tk, os⟩ := s; obtain ⟨⟨hl9, wc, wd⟩, h⟩ := h
    have hsub := sub_enumerate
    have isT : Heap.IsTuple (Shared.heap ⟨hp, g, d, tk, os⟩) l row := ⟨_, hl9, wc, cap, wd⟩
    have q1 : ∀ {A' : Around} {E : Value → Shared → Prop} {Q : Value → Shared → Prop}, Q (.ref hp.objs.size) ⟨hp.push { cls := .type "tuple_iterator", data := .fields #[.ref l, .int 0 0] }, g, d, tk, os⟩ → wpAny (model prg w) A' (pyIter (.ref l)) Q E ⟨hp, g, d, tk, os⟩ :=
      fun q => wpAny_pyIter_tuple isT q
    wp_walk using q1
    refine wpAny_stack_any fun here => wpAny_pure ?_
    split
    · rename_i cls9 _ _ _ _ _
      cases (cls9 == Value.type "enumerate")
      · wp_walk using q1
        exact ⟨_, rfl, h⟩
      · wp_walk using q1
        exact ⟨_, rfl, h⟩
    · wp_walk using q1
      exact ⟨_, rfl, h⟩
section
variable {prg : Program} {w : World} {A : Around} {E : Value → Shared → Prop} {s : Shared}
/-- the object that enumerate makes, and the turning over a tuple -/
abbrev enOf (it : Addr) : Obj := { data := .fields #[.none, .bool false, .ref it, rawInt 0, .none, .none], cls := .type "enumerate" }
abbrev tiOf (l : Addr) : Obj := { data := .fields #[.ref l, .int 0 0], cls := .type "tuple_iterator" }
theorem call_enumerate_tup {l : Addr} {row : Array Value} {Q : Value → Shared → Prop} (isT : s.heap.IsTuple l row)
    (h : ∀ h', IsEnum h' (s.heap.objs.size + 1) s.heap.objs.size 0 .none → h'.IsTupleIter s.heap.objs.size l 0 → h'.objs.size = s.heap.objs.size + 2 →
      (∀ bb ob, s.heap.get? bb = some ob → h'.get? bb = some ob) → Q (.ref (s.heap.objs.size + 1)) { s with heap := h' }) :
    wpAny (model prg w) A
      (call (.type "enumerate") [.ref l]) Q E s := by
  obtain ⟨ob, hl9, wc, cap, wd⟩ := isT
  refine callType_new F.called_enumerate (by decide) (F.typeCall_enumerate_1 _)
    (F.newCall_enumerate_1 _) (fun it => F.args_object_init_2 it _) F.entry_enumerate_new (meets_enumerate_newTup l row ob cap) ⟨⟨hl9, wc, wd⟩, ?_⟩
  have szz : (s.heap.push (tiOf l)).objs.size = s.heap.objs.size + 1 := Heap.size_push ..
  show _ ∧ _
  rw [szz]
  have qe : IsEnum ((s.heap.push (tiOf l)).push
      (enOf s.heap.objs.size)) (s.heap.objs.size + 1) s.heap.objs.size 0 .none := by
    have := Heap.get?_push_size (s.heap.push (tiOf l))
      (o := enOf s.heap.objs.size) rfl
    rw [szz] at this; exact this
  refine ⟨⟨_, qe, rfl⟩, h _ qe ⟨_, Heap.get?_push_of_some _ (Heap.get?_push_size _ rfl), rfl, rfl⟩ (by rw [Heap.size_push, szz]) fun bb ob x => Heap.get?_push_of_some _ (Heap.get?_push_of_some _ x)⟩
theorem enumT_end {e it t : Addr} {i : Nat} {row : Array Value} {prev : Value} {Q : Option Value → Shared → Prop} (hh : A.handled = none)
    (qe : IsEnum s.heap e it i prev) (qi : s.heap.IsTupleIter it t i) (hl9 : s.heap.IsTuple t row) (ne2 : t ≠ it) (atx : row[i]? = none)
    (hQ : ∀ h', Heap.ExtBut it s.heap h' → Q none { s with heap := h' }) : wpAny (model prg w) A (pyNext (.ref e)) Q E s := by
  have ty1 : s.TypeIs (.ref e) "enumerate" := ⟨_, qe, rfl⟩
  unfold pyNext
  refine wpAny_bind (wpAny_attempt (wpAny_callSpecial?_slot (name := Str.ofString "__next__") ty1 F.slot_enumerate_next
    (wpAny_call_entry F.slot_enumerate_next ty1 F.entry_enumerate_next ?_ (F.args_enumerate_next_1 _))))
  show wpAny (model prg w) A.in1
    (field (.ref e) 2 >>= _) _ _ s
  refine wpAny_bind (wpAny_field qe rfl (x := .ref it) rfl ?_)
  refine wpAny_bind (wpAny_nextOf_tuple_end hh qi hl9 atx fun h' x he' hx' => ?_)
  obtain ⟨ob, wo, wc⟩ := hx'
  refine wpAny_bind (wpAny_isInstance (T := "StopIteration") (b := true) ⟨ob, wo, wc⟩ isSubtype_stop ?_)
  exact wpAny_pure (hQ _ he')
end
end PySem
namespace Vf
open PySem L2 PySem.Spec PyProof.Rows
/-- enumerate(t), t a tuple -/
def IteT (K : PySem.W.Frag) (a : Addr) : It :=
  ⟨fun i H => ∃ (xs : List V) (x : V), SqT K H a xs ∧ xs[i]? = some x, fun i H v H' => ∃ T x, v = .ref T ∧ H T = none ∧ H' = upd H T (.tup [.int (i : Nat), x]) ∧ ∀ xs, SqT K H a xs → xs[i]? = some x, fun i H => ∃ xs : List V, SqT K H a xs ∧ xs.length ≤ i⟩
theorem turn_enumT {P : Program} {w : World} {K : PySem.W.Frag} {elts : List Expr} {kk : Nat} {tpos : Pos} (a e it : Addr) :
    Turn P w K (.Tuple elts kk tpos) (IteT K a) [e, it] e (fun i h => (∃ prev, IsEnum h e it ((i : Nat) : Int) prev) ∧ h.IsTupleIter it a i ∧ e ≠ it) where
  mem := by simp
  obj := fun i h here bb mb => by
    obtain ⟨⟨prev, qe⟩, ⟨ob, wo, wc, wd⟩, _⟩ := here
    have e' : bb = e ∨ bb = it := by simpa using mb
    rcases e' with z | z
    · rw [z]; exact ⟨_, qe, fun v q => nomatch q⟩
    · rw [z]; exact ⟨ob, wo, fun v q => by rw [wd] at q; cases q⟩
  keep := fun i h h' here k => let ⟨⟨prev, qe⟩, hi9, qn⟩ := here; ⟨⟨prev, k e (by simp) _ qe⟩, hi9.at fun ob q => k it (by simp) ob q, qn⟩
  item := by
    intro X hP hw hK wc i pins s σ H E I fp here got
    subst hP hw hK
    obtain ⟨⟨prev, qe⟩, qi, qn⟩ := here
    obtain ⟨xs, x, wq, atx⟩ := got
    obtain ⟨cells, rds, p, szz⟩ := I.tuple wq
    obtain ⟨u, mu, rdu⟩ := rds.get atx
    have le1 : e < s.heap.objs.size := Heap.lt_size qe
    have le2 : it < s.heap.objs.size := by obtain ⟨_, q, _⟩ := qi; exact Heap.lt_size q
    have ne1 : a ≠ e := by
      intro z
      obtain ⟨ob, wo, hc2, _⟩ := p
      rw [z, qe] at wo
      cases wo
      injection hc2 with q
      exact absurd q (by decide)
    have ne2 : a ≠ it := by
      intro z
      obtain ⟨ob, wo, hc2, _⟩ := p
      obtain ⟨o2, ho2, hc3, _⟩ := qi
      rw [z, ho2] at wo
      cases wo
      rw [hc3] at hc2
      injection hc2 with q
      exact absurd q (by decide)
    have hlt : i < cells.toArray.size := by
      have := (List.getElem?_eq_some_iff.mp mu).1
      simpa using this
    refine wpAny_pyNext_enum_itemD (Draws.tuple (A := X.A.in1) (show X.A.in1.handled = none from I.ok.hd wc) it a ne2 cells.toArray) qe ⟨qi, p⟩ hlt qn (by simp [qn, Ne.symm ne1]) fun x' h' tk hP wo hst' ty1 hsz keep1 => ?_
    have ex : x' = u := by
      have q1 : cells[i]? = some x' := by simpa using hP
      exact Option.some.inj (q1.symm.trans mu)
    subst ex
    refine ⟨_, rfl, wpAny_letOwnedTupleGo_enum (s := { s with heap := h', toks := tk + 1 }) wo fun h'' he' only1 => ?_⟩
    have ty2 : h''.get? s.heap.objs.size = some { cls := .type "tuple", data := .seq #[.int i tk, x'] } := (only1.2 _ (Nat.ne_of_gt le1)).trans ty1
    have fresh1 : ObjOk X.prog X.w (upd H s.heap.objs.size (.tup [.int (i : Nat), x])) h'' s.heap.objs.size (.tup [.int (i : Nat), x]) :=
      ⟨by show 2 ≤ sizeLine; decide, [.int i tk, x'], .cons ⟨_, rfl⟩ (.cons rdu .nil), ⟨_, ty2, rfl, _, rfl⟩⟩
    have J1 : Inv X pins σ (upd H s.heap.objs.size (.tup [.int (i : Nat), x])) { s with heap := h'', toks := tk + 1 } :=
      I.turnedNew (ch := [e, it]) (fun bb ob mb q => (only1.2 bb (fun z => mb (by simp [z]))).trans (keep1 bb ob (fun z => mb (by simp [z])) (fun z => mb (by simp [z])) q)) fp (Nat.le_refl _) fresh1
    refine ⟨.ref s.heap.objs.size, _, J1, rfl, ⟨_, x, rfl, I.hok.fresh (Nat.le_refl _), rfl, fun ys hy => by rw [I.tuple_inj hy wq]; exact atx⟩, ⟨⟨x', ?_⟩, hst'.1.at fun ob q => (only1.2 it (Ne.symm qn)).trans q, qn⟩, fun bb mb => ?_⟩
    · have up1 : ((i + 1 : Nat) : Int) = (i : Int) + 1 := by
        omega
      rw [up1]; exact he'
    · have below : bb < s.heap.objs.size := by
        have two : bb = e ∨ bb = it := by simpa using mb
        rcases two with rfl | rfl
        · exact le1
        · exact le2
      rw [upd_ne (Nat.ne_of_lt below)]
      exact (fp bb mb).1
  done := by
    intro X hP hw hK wc i pins s σ H E I fp here got
    subst hP hw hK
    obtain ⟨⟨prev, qe⟩, qi, qn⟩ := here
    obtain ⟨xs, wq, atx⟩ := got
    obtain ⟨cells, rds, p, szz⟩ := I.tuple wq
    obtain ⟨f0, f1, f2, f3, f4, f5⟩ := fp it (by simp)
    have hl := rds.length
    have ne2 : a ≠ it := by
      intro z
      obtain ⟨ob, wo, hc2, _⟩ := p
      obtain ⟨o2, ho2, hc3, _⟩ := qi
      rw [z, ho2] at wo
      cases wo
      rw [hc3] at hc2
      injection hc2 with q
      exact absurd q (by decide)
    refine enumT_end (I.ok.hd wc) qe qi p ne2 (by simp; omega) fun h' eb => ⟨rfl, I.turned (t' := s.toks) (fun bb ob mb q => eb bb ob mb q) f0 f1 f3 f4 f5⟩
  self := fun A i s Q E here h => let ⟨⟨_, qe⟩, _⟩ := here; wpAny_pyIter_enum qe h
def iEnumT (K : PySem.W.Frag) (ta : TA) : TI := fun σ H R => ta σ H fun vs H1 => ∃ a xs, vs = [.ref a] ∧ SqT K H1 a xs ∧ R (IteT K a) H1
theorem pi_enumT {X : Cx} {e : Expr} {ta : TA} {p pos tpos : Pos} {elts : List Expr} {kk : Nat} (got : Gl X "enumerate") (hm : X.mg "enumerate" = none) (ha : PA X [e] ta) (hs : starEach [e] X.env = [(false, eval e X.env)] := by rfl) :
    PI X (.Tuple elts kk tpos) (.Call (.Name "enumerate" p) [e] [] pos) (iEnumT X.K ta) := by
  constructor
  intro pins s σ H R I h
  refine Call_ (ld_blt I got hm boot_enumerate (PyProof.Rows.callWith_type1 (thn (ha.run pos pins s σ H _ I h) fun us s1 ⟨vs, H1, J1, r1, q1⟩ => ?_) hs rfl))
  obtain ⟨a, xs, ex, wq, q⟩ := q1
  subst ex
  cases r1 with
  | cons r rr =>
    cases rr
    cases r
    obtain ⟨cells, rds, p', szz⟩ := J1.tuple wq
    refine call_enumerate_tup p' fun h' qe qi hsz keep1 => wpAny_pyIter_enum qe ?_
    have J2 : Inv X pins σ H1 { s1 with heap := h' } := J1.kept (t' := s1.toks) keep1
    refine ⟨s1.heap.objs.size + 1, [s1.heap.objs.size + 1, s1.heap.objs.size], _, _, H1, rfl, J2, turn_enumT a (s1.heap.objs.size + 1) s1.heap.objs.size, ⟨⟨.none, qe⟩, qi, Nat.succ_ne_self _⟩, fun bb mb => ?_, q⟩
    have e' : bb = s1.heap.objs.size + 1 ∨ bb = s1.heap.objs.size := by simpa using mb
    have above : bb ≥ s1.heap.objs.size := by
      rcases e' with w9 | w9 <;> rw [w9]
      · exact Nat.le_succ _
      · exact Nat.le.refl
    exact J1.fpOk above (J1.hok.fresh above)
/-- enumerate of a list or of a tuple -/
theorem pi_or {X : Cx} {tg l : Expr} {w1 w2 : TI} (h1 : PI X tg l w1) (h2 : PI X tg l w2) : PI X tg l (fun σ H R => w1 σ H R ∨ w2 σ H R) := ⟨fun pins s σ H R I h => by
  rcases h with h | h
  · exact h1.run pins s σ H R I h
  · exact h2.run pins s σ H R I h⟩
end Vf

namespace Vf
open PySem L2 PySem.Spec PyProof.Rows
/-! ### rules with the written part named (inside a comprehension nothing may lean on its block) -/
section
variable {X : Cx} (K : PySem.W.Frag) {pos : Pos}
theorem ixL (hK : X.K = K := by rfl) : IxR X (rIxL K) := hK ▸ ix_list
theorem ixT (hK : X.K = K := by rfl) : IxR X (rIxT K) := hK ▸ ix_tup
theorem slL (hK : X.K = K := by rfl) : SlR X (rSlL K) := hK ▸ sl_list
theorem slT (hK : X.K = K := by rfl) : SlR X (rSlA K) := hK ▸ sl_tupA
theorem eqDK (hu : X.A.units + 64 < cLine) (hK : X.K = K := by rfl) : OpR X (compareOp .Eq) (rEqD K) := hK ▸ op_eqD hu
theorem neDK (hu : X.A.units + 64 < cLine) (hK : X.K = K := by rfl) : OpR X (compareOp .NotEq) (rNeD K) := hK ▸ op_neD hu
theorem inSK (hK : X.K = K := by rfl) : OpR X (compareOp .In) (rIn K false) := hK ▸ op_in_seq
theorem niSK (hK : X.K = K := by rfl) : OpR X (compareOp .NotIn) (rIn K true) := hK ▸ op_notIn_seq
theorem lenSK (hK : X.K = K := by rfl) : CallR X (.builtin "len") (fun xs H Q => ∃ p ys, xs = [.ref p] ∧ (SqL K H p ys ∨ SqT K H p ys) ∧ Q (.int (ys.length : Nat)) H) := hK ▸ call_len_seq
theorem lstOK (hK : X.K = K := by rfl) : CallR X (.type "list") (fun xs H Q => ∃ p ys, xs = [.ref p] ∧ (SqL K H p ys ∨ SqT K H p ys) ∧ ∀ l, H l = none → Q (.ref l) (upd H l (.lst ys))) := hK ▸ call_list_of
theorem isiK (hK : X.K = K := by rfl) : CallR X (.builtin "isinstance") (rIsi K) := hK ▸ call_isi
theorem pe_fldK {e : Expr} {f : Str} {ta : TE} (ha : PE X e ta) (hb : attributeBase e f X.env (eval e X.env) = eval e X.env := by rfl) (hK : X.K = K := by rfl) : PE X (.Attribute e f pos) (tFld K ta f) := hK ▸ pe_fld ha hb
theorem pg_tupK {es : List Expr} {k : Nat} {t : TGs} {n : Nat} (hc : X.calm = true) (h : PGs X es t)
    (hn : (assignEach es X.env).length = n := by rfl) (hst : (assignEach es X.env).findIdx? (·.1) = none := by rfl) (hK : X.K = K := by rfl) : PG X (.Tuple es k pos) (gTup K n t) := hK ▸ pg_tup hc h hn hst
end
/-! ### readings of these -/
section
variable {σ : L2.St} {H : Hp} {K : PySem.W.Frag} {ta tb : TE} {as : TA}
theorem e_iRevR {tr : L2.St → Hp → (Int → Int → Hp → Prop) → Prop} {R : It → Hp → Prop} (q : tr σ H fun a b H1 => -(2 ^ 62) ≤ a ∧ a < 2 ^ 62 ∧ -(2 ^ 62) ≤ b ∧ b < 2 ^ 62 ∧ R (Itc (a + (((b - a).toNat : Nat) : Int) - 1) (-1) (b - a).toNat) H1) : iRevR tr σ H R := q
theorem e_rg1 {Q : Int → Int → Hp → Prop} (q : ta σ H fun x H1 => ∃ n, x = .int n ∧ Q 0 n H1) : tRg1 ta σ H Q := q
theorem e_rg2 {Q : Int → Int → Hp → Prop} (q : ta σ H fun x H1 => tb σ H1 fun y H2 => ∃ i j, x = .int i ∧ y = .int j ∧ Q i j H2) : tRg2 ta tb σ H Q := q
theorem e_iEnum {R : It → Hp → Prop} (q : as σ H fun vs H1 => ∃ a xs, vs = [.ref a] ∧ SqL K H1 a xs ∧ R (Ite K a) H1) : iEnum K as σ H R := q
theorem e_iEnumT {R : It → Hp → Prop} (q : as σ H fun vs H1 => ∃ a xs, vs = [.ref a] ∧ SqT K H1 a xs ∧ R (IteT K a) H1) : iEnumT K as σ H R := q
theorem e_iRng3 {R : It → Hp → Prop} (q : as σ H fun vs H1 => ∃ (i j c : Int) (n : Nat), vs = [.int i, .int j, .int c] ∧ RgC i j c n ∧ R (Itc i c n) H1) : iRng3 as σ H R := q
theorem e_slL {Q : VK} {p : Addr} {xs : List V} {lo hi : Option Int} (h : SqL K H p xs) (q : ∀ r, H r = none → Q (.ref r) (upd H r (.lst (cutV xs lo hi)))) : rSlL K (.ref p) lo hi H Q := ⟨p, xs, rfl, h, q⟩
theorem e_app {Q : VK} {l : Addr} {xs : List V} {y : V} (h : H l = some (.lst xs)) (hz : xs.length < sizeLine) (q : Q .non (upd H l (.lst (xs ++ [y])))) : rAppend (.ref l) [y] H Q := ⟨l, xs, y, rfl, rfl, h, hz, q⟩
theorem e_ext {Q : VK} {l b : Addr} {xs zs : List V} (h : H l = some (.lst xs)) (hb : H b = some (.lst zs)) (hz : xs.length + zs.length ≤ sizeLine) (q : Q .non (upd H l (.lst (xs ++ zs)))) : rExtend (.ref l) [.ref b] H Q := ⟨l, b, xs, zs, rfl, rfl, h, hb, hz, q⟩
end
/-! ### rows of ints as data -/
abbrev Di (l : List Int) : List PyData := l.map PyData.int
theorem dpAll_ints {K : PySem.W.Frag} {H : Hp} : ∀ xs : List Int, DpAll K H (xs.map V.int) (Di xs)
  | [] => .nil
  | x :: r => .cons (.int x) (dpAll_ints r)
theorem eqvAll_ints : ∀ xs ys : List Int, PyData.eqvAll (Di xs) (Di ys) = decide (xs = ys)
  | [], [] => by
      simp [PyData.eqvAll]
  | [], _ :: _ => by
      simp [PyData.eqvAll]
  | _ :: _, [] => by
      simp [PyData.eqvAll]
  | x :: xs, y :: ys => by
    have ih := eqvAll_ints xs ys
    show (PyData.eqv (.int x) (.int y) && PyData.eqvAll (Di xs) (Di ys)) = _
    rw [ih]
    show ((x == y) && decide (xs = ys)) = decide (x :: xs = y :: ys)
    by_cases h : x = y
    · subst h; simp
    · simp [h]
theorem canAll_ints : ∀ xs : List Int, PyData.canLayAll0 (Di xs) = true
  | [] => rfl
  | x :: r => by
    show (PyData.canLay0 (.int x) && PyData.canLayAll0 (Di r)) = true
    rw [canAll_ints r]; rfl
theorem depthAll_ints : ∀ xs : List Int, PyData.depthAll (Di xs) = 0
  | [] => rfl
  | x :: r => by
    show max 0 (PyData.depthAll (Di r)) = 0
    rw [depthAll_ints r]; rfl
theorem shaped_list {ds : List PyData} (h1 : PyData.canLayAll0 ds = true) (h2 : PyData.depthAll ds ≤ 60) : SeqAt.shaped (.list ds) = true := by
  unfold SeqAt.shaped
  rw [show PyData.canLay0 (.list ds) = PyData.canLayAll0 ds from rfl, h1, show PyData.depth (.list ds) = PyData.depthAll ds + 1 from rfl]
  simp
  omega
theorem shaped_tuple {ds : List PyData} (h1 : PyData.canLayAll0 ds = true) (h2 : PyData.depthAll ds ≤ 60) : SeqAt.shaped (.tuple ds) = true := by
  unfold SeqAt.shaped
  rw [show PyData.canLay0 (.tuple ds) = PyData.canLayAll0 ds from rfl, h1, show PyData.depth (.tuple ds) = PyData.depthAll ds + 1 from rfl]
  simp
  omega
theorem shaped_li (xs : List Int) : SeqAt.shaped (.list (Di xs)) = true := shaped_list (canAll_ints xs) (by rw [depthAll_ints]; decide)
theorem shaped_ti (xs : List Int) : SeqAt.shaped (.tuple (Di xs)) = true := shaped_tuple (canAll_ints xs) (by rw [depthAll_ints]; decide)
section
variable {K : PySem.W.Frag} {H : Hp} {Q : VK} {a b : Addr} {xs ys : List Int}
theorem e_eqLL (h1 : SqL K H a (xs.map V.int)) (h2 : SqL K H b (ys.map V.int)) (q : Q (.bl (decide (xs = ys))) H) : rEqD K (.ref a) (.ref b) H Q :=
  ⟨_, _, .lst h1 (dpAll_ints xs), .lst h2 (dpAll_ints ys), shaped_li xs, shaped_li ys, by rw [show PyData.eqv (.list (Di xs)) (.list (Di ys)) = PyData.eqvAll (Di xs) (Di ys) from rfl, eqvAll_ints]; exact q⟩
theorem e_neLL (h1 : SqL K H a (xs.map V.int)) (h2 : SqL K H b (ys.map V.int)) (q : Q (.bl (!decide (xs = ys))) H) : rNeD K (.ref a) (.ref b) H Q :=
  ⟨_, _, .lst h1 (dpAll_ints xs), .lst h2 (dpAll_ints ys), shaped_li xs, shaped_li ys, by rw [show PyData.eqv (.list (Di xs)) (.list (Di ys)) = PyData.eqvAll (Di xs) (Di ys) from rfl, eqvAll_ints]; exact q⟩
theorem e_eqTT (h1 : SqT K H a (xs.map V.int)) (h2 : SqT K H b (ys.map V.int)) (q : Q (.bl (decide (xs = ys))) H) : rEqD K (.ref a) (.ref b) H Q :=
  ⟨_, _, .tup h1 (dpAll_ints xs), .tup h2 (dpAll_ints ys), shaped_ti xs, shaped_ti ys, by rw [show PyData.eqv (.tuple (Di xs)) (.tuple (Di ys)) = PyData.eqvAll (Di xs) (Di ys) from rfl, eqvAll_ints]; exact q⟩
theorem e_neTT (h1 : SqT K H a (xs.map V.int)) (h2 : SqT K H b (ys.map V.int)) (q : Q (.bl (!decide (xs = ys))) H) : rNeD K (.ref a) (.ref b) H Q :=
  ⟨_, _, .tup h1 (dpAll_ints xs), .tup h2 (dpAll_ints ys), shaped_ti xs, shaped_ti ys, by rw [show PyData.eqv (.tuple (Di xs)) (.tuple (Di ys)) = PyData.eqvAll (Di xs) (Di ys) from rfl, eqvAll_ints]; exact q⟩
end
/-! ### the order of alike data -/
def rLtD (K : PySem.W.Frag) : R2 := fun x y H Q => ∃ d e, Dp K H x d ∧ Dp K H y e ∧ PySem.W.alike d e = true ∧ d ≠ .none ∧ d.depth ≤ 60 ∧ Q (.bl (PySem.W.dataLt d e)) H
def rGtD (K : PySem.W.Frag) : R2 := fun x y H Q => ∃ d e, Dp K H x d ∧ Dp K H y e ∧ PySem.W.alike d e = true ∧ d ≠ .none ∧ d.depth ≤ 60 ∧ Q (.bl (PySem.W.dataLt e d)) H
theorem op_ltD {X : Cx} (hu : X.A.units + 64 < cLine) : OpR X (compareOp .Lt) (rLtD X.K) := by
  intro pins s σ H x y v u C I rx ry hq
  obtain ⟨d, e, hd, he, sd, se, hp, q⟩ := hq
  obtain ⟨toks1, r1⟩ := Dp.reads I d x v hd rx
  obtain ⟨toks2, r2⟩ := Dp.reads I e y u he ry
  exact PySem.W.lt_data r1 r2 sd se (by have := Nat.min_le_left d.depth e.depth; omega) ⟨.bl _, H, I, rfl, q⟩
theorem op_gtD {X : Cx} (hu : X.A.units + 64 < cLine) : OpR X (compareOp .Gt) (rGtD X.K) := by
  intro pins s σ H x y v u C I rx ry hq
  obtain ⟨d, e, hd, he, sd, se, hp, q⟩ := hq
  obtain ⟨toks1, r1⟩ := Dp.reads I d x v hd rx
  obtain ⟨toks2, r2⟩ := Dp.reads I e y u he ry
  exact PySem.W.gt_data r1 r2 sd se (by have := Nat.min_le_left d.depth e.depth; omega) ⟨.bl _, H, I, rfl, q⟩
theorem alikeAll_ints : ∀ xs ys : List Int, PySem.W.alikeAll (Di xs) (Di ys) = true
  | [], _ => by simp [PySem.W.alikeAll]
  | _ :: _, [] => by simp [PySem.W.alikeAll]
  | x :: xs, y :: ys => by
    show (PySem.W.alike (.int x) (.int y) && PySem.W.alikeAll (Di xs) (Di ys)) = true
    rw [alikeAll_ints xs ys]; rfl
theorem lt_ints : ∀ xs ys : List Int, PyProof.Rows.lexLt PyProof.Rows.itemOrd (PySem.W.keyToksAll (Di xs)) (PySem.W.keyToksAll (Di ys)) = HT.lexLt xs ys
  | [], [] => by decide
  | [], y :: ys => by
    show PyProof.Rows.lexLt PyProof.Rows.itemOrd [.inl 0] (.inl 1 :: _) = true
    rw [PySem.W.lex_atom (by decide)]
    decide
  | x :: xs, [] => by
    show PyProof.Rows.lexLt PyProof.Rows.itemOrd (.inl 1 :: _) [.inl 0] = false
    rw [PySem.W.lex_atom (by decide)]
    decide
  | x :: xs, y :: ys => by
    have ih := lt_ints xs ys
    show _ = if x = y then HT.lexLt xs ys else decide (x < y)
    by_cases h : x = y
    · subst h
      rw [if_pos rfl, ← ih]
      exact PySem.W.dataLt_all_yes (x := .int x) (y := .int x) rfl (by simp [PyData.eqv])
    · rw [if_neg h, ← PySem.W.dataLt_int x y]
      exact PySem.W.dataLt_all_no (x := .int x) (y := .int y) rfl (by simpa [PyData.eqv] using h)
theorem e_ltLL {K : PySem.W.Frag} {H : Hp} {Q : VK} {a b : Addr} {xs ys : List Int} (h1 : SqL K H a (xs.map V.int)) (h2 : SqL K H b (ys.map V.int)) (q : Q (.bl (HT.lexLt xs ys)) H) : rLtD K (.ref a) (.ref b) H Q :=
  ⟨_, _, .lst h1 (dpAll_ints xs), .lst h2 (dpAll_ints ys), alikeAll_ints xs ys, by simp, by show PyData.depthAll (Di xs) + 1 ≤ 60; rw [depthAll_ints]; decide, by
    rw [PySem.W.dataLt_list, lt_ints]; exact q⟩
/-! ### loops over rows of ints -/
theorem at_split {ns : List Int} {i : Nat} {x : V} (hx : (ns.map V.int)[i]? = some x) : ∃ y, x = .int y ∧ ns = ns.take i ++ y :: ns.drop (i + 1) ∧ ns.take (i + 1) = ns.take i ++ [y] := by
  rw [List.getElem?_map] at hx
  cases e : ns[i]? with
  | none => rw [e] at hx; cases hx
  | some y =>
    rw [e] at hx
    have e2 := (List.getElem?_eq_some_iff.mp e).2
    refine ⟨y, (Option.some.inj hx).symm, ?_, by rw [List.take_add_one, e]; rfl⟩
    rw [← e2, List.getElem_cons_drop, List.take_append_drop]
section
variable {K : PySem.W.Frag} {g : TG} {t : TS} {D : Ends} {σ : L2.St} {H : Hp} {tt : TT} {te : TE} {vs : List Nat} {Q : VK} {Da a : Addr} {ns : List Int}
theorem for_ints (Pv : List Int → L2.St → Hp → Prop) (h0 : Pv [] σ H) (hl : ∀ pre σ H, Pv pre σ H → SqL K H a (ns.map V.int))
    (hs : ∀ (pre : List Int) (x : Int) (post : List Int) σ H, ns = pre ++ x :: post → Pv pre σ H → g (.int x) σ H fun σ2 H2 => t { D with nx := Pv (pre ++ [x]), ct := Pv (pre ++ [x]), bk := D.nx } σ2 H2)
    (hd : ∀ σ H, Pv ns σ H → D.nx σ H) : ForB (Itl K a) g t D σ H := by
  refine for_list (xs := ns.map V.int) (fun i => Pv (ns.take i)) (by simpa using h0) (fun i σ H _ p => hl _ σ H p) (fun i x σ H hx p => ?_) (fun σ H p => ?_)
  · obtain ⟨y, rfl, e1, e2⟩ := at_split hx
    rw [e2]
    exact hs _ y _ σ H e1 p
  · rw [List.length_map, List.take_length] at p
    exact hd σ H p
theorem for_intsT (Pv : List Int → L2.St → Hp → Prop) (h0 : Pv [] σ H) (hl : ∀ pre σ H, Pv pre σ H → SqT K H a (ns.map V.int))
    (hs : ∀ (pre : List Int) (x : Int) (post : List Int) σ H, ns = pre ++ x :: post → Pv pre σ H → g (.int x) σ H fun σ2 H2 => t { D with nx := Pv (pre ++ [x]), ct := Pv (pre ++ [x]), bk := D.nx } σ2 H2)
    (hd : ∀ σ H, Pv ns σ H → D.nx σ H) : ForB (Itt K a) g t D σ H := by
  refine for_tup (xs := ns.map V.int) (fun i => Pv (ns.take i)) (by simpa using h0) (fun i σ H _ p => hl _ σ H p) (fun i x σ H hx p => ?_) (fun σ H p => ?_)
  · obtain ⟨y, rfl, e1, e2⟩ := at_split hx
    rw [e2]
    exact hs _ y _ σ H e1 p
  · rw [List.length_map, List.take_length] at p
    exact hd σ H p
theorem walk_enumT {xs : List V} : Walk (IteT K a) xs.length (fun H => SqT K H a xs) (YPair (fun i => some (.int (i : Nat))) (fun i => xs[i]?)) := by
  refine ⟨fun i _ hi q => ⟨xs, xs[i], q, by simp [hi]⟩,
    fun _ q => ⟨xs, q, Nat.le_refl _⟩, fun i H v H' _ q y => ?_⟩
  obtain ⟨T, x, g1, g2, g3, g4⟩ := y
  exact ⟨T, .int (i : Nat), x, g1, g2, g3, rfl, g4 xs q⟩
theorem for_enumI (Pv : List Int → L2.St → Hp → Prop) (h0 : Pv [] σ H) (hl : ∀ pre σ H, Pv pre σ H → SqL K H a (ns.map V.int))
    (hs : ∀ (pre : List Int) (x : Int) (post : List Int) (T : Addr) σ H, ns = pre ++ x :: post → Pv pre σ H → H T = none → g (.ref T) σ (upd H T (.tup [.int (pre.length : Nat), .int x])) fun σ2 H2 => t { D with nx := Pv (pre ++ [x]), ct := Pv (pre ++ [x]), bk := D.nx } σ2 H2)
    (hd : ∀ σ H, Pv ns σ H → D.nx σ H) : ForB (Ite K a) g t D σ H := by
  refine for_it (walk_enum (xs := ns.map V.int)) (fun i => Pv (ns.take i)) (by simpa using h0) (fun i σ H _ p => hl _ σ H p) (fun i x σ H H' hi p y => ?_) (fun σ H p => ?_)
  · obtain ⟨T, u, v, rfl, hT, rfl, hu, hv⟩ := y
    obtain ⟨z, rfl, e1, e2⟩ := at_split hv
    cases (Option.some.inj hu)
    rw [e2]
    have hl : (ns.take i).length = i := by rw [List.length_map] at hi; rw [List.length_take]; omega
    have q := hs (ns.take i) z _ T σ H e1 p hT
    rw [hl] at q
    exact q
  · rw [List.length_map, List.take_length] at p
    exact hd σ H p
theorem for_enumIT (Pv : List Int → L2.St → Hp → Prop) (h0 : Pv [] σ H) (hl : ∀ pre σ H, Pv pre σ H → SqT K H a (ns.map V.int))
    (hs : ∀ (pre : List Int) (x : Int) (post : List Int) (T : Addr) σ H, ns = pre ++ x :: post → Pv pre σ H → H T = none → g (.ref T) σ (upd H T (.tup [.int (pre.length : Nat), .int x])) fun σ2 H2 => t { D with nx := Pv (pre ++ [x]), ct := Pv (pre ++ [x]), bk := D.nx } σ2 H2)
    (hd : ∀ σ H, Pv ns σ H → D.nx σ H) : ForB (IteT K a) g t D σ H := by
  refine for_it (walk_enumT (xs := ns.map V.int)) (fun i => Pv (ns.take i)) (by simpa using h0) (fun i σ H _ p => hl _ σ H p) (fun i x σ H H' hi p y => ?_) (fun σ H p => ?_)
  · obtain ⟨T, u, v, rfl, hT, rfl, hu, hv⟩ := y
    obtain ⟨z, rfl, e1, e2⟩ := at_split hv
    cases (Option.some.inj hu)
    rw [e2]
    have hl : (ns.take i).length = i := by rw [List.length_map] at hi; rw [List.length_take]; omega
    have q := hs (ns.take i) z _ T σ H e1 p hT
    rw [hl] at q
    exact q
  · rw [List.length_map, List.take_length] at p
    exact hd σ H p
/-- [e for k in range(a, b, c)], e a function of the turn -/
theorem lc_map_rngC {lo c : Int} {n : Nat} {H0 : Hp} (hD : H0 Da = none) (hn : n ≤ 1000000) (f : Nat → V)
    (hs : ∀ (i : Nat) (H2 : Hp) (C : VK) (E : Hp → Prop), i < n → Same H0 H2 → (∀ H3, Same H2 H3 → C (f i) H3) →
      g (.int (lo + (i : Nat) * c)) (wipe σ vs) H2 fun σ2 H2 => wipe σ2 vs = wipe σ vs ∧ tYes σ2 H2 fun b H3 => if b = true then te σ2 H3 C else E H3)
    (hd : ∀ (H : Hp), Same H0 H → H Da = some (.lst ((List.range n).map f)) → Q (.ref Da) H) : LcB (Itc lo c n) g tYes te vs σ Da H0 Q := by
  refine lc_it walk_rangeC (fun i H2 => Same H0 H2 ∧ H2 Da = some (.lst ((List.range i).map f))) ⟨same_new hD, upd_same⟩ (fun _ _ _ _ => trivial) (fun i x H2 H' hi p y => ?_) (fun H2 p => hd H2 p.1 p.2)
  obtain ⟨rfl, rfl⟩ := y
  obtain ⟨k4, e4⟩ := p
  refine hs i _ _ _ hi k4 fun H3 k5 => ?_
  refine ⟨_, k5 _ _ e4, Nat.lt_of_le_of_lt (by simp; omega : _ ≤ 1000000) (by decide), Same.mut (k4.trans k5) hD, ?_⟩
  rw [upd_same, List.range_succ, List.map_append]
  rfl
end
theorem i_bneself {b : Bool} {A B : Prop} (h : B) : if (b != b) = true then A else B := by
  have e : (b != b) = false := by cases b <;> rfl
  rw [e]; exact i_F h
theorem i_beself {b : Bool} {A B : Prop} (h : A) : if (b == b) = true then A else B := by
  rw [beq_self_eq_true]; exact i_T h
/-! ### a list or a tuple -/
/-- a row of values, a list's or a tuple's -/
abbrev SqE (K : PySem.W.Frag) (H : Hp) (p : Addr) (xs : List V) : Prop := SqL K H p xs ∨ SqT K H p xs
theorem Same.seqE {K : PySem.W.Frag} {H H' : Hp} {a : Addr} {xs : List V} (e : Same H H') (h : SqE K H a xs) : SqE K H' a xs := by
  rcases h with h | h
  · exact .inl (e.seq h)
  · refine .inr ?_
    rcases h with (h | ⟨c9, h⟩) | h
    · exact .inl (.inl (e _ _ h))
    · exact .inl (.inr ⟨c9, e _ _ h⟩)
    · exact .inr h
theorem e_ixE {K : PySem.W.Frag} {H : Hp} {Q : VK} {p : Addr} {xs : List V} {i : Int} {v : V} (h : SqE K H p xs) (ha : atI xs i = some v) (q : Q v H) : rIxL K (.ref p) (.int i) H Q ∨ rIxT K (.ref p) (.int i) H Q := by
  rcases h with h | h
  · exact .inl (e_ixL h ha q)
  · exact .inr (e_ixT h ha q)
/-- a list of the turn's values, over a list -/
theorem lc_map_lstI {K : PySem.W.Frag} {g : TG} {te : TE} {vs : List Nat} {σ : L2.St} {Da a : Addr} {H0 : Hp} {Q : VK} {xs : List V} (hS : SqL K H0 a xs) (hD : H0 Da = none) (hn : xs.length ≤ 1000000) (f : Nat → V)
    (hs : ∀ (i : Nat) (x : V) (H2 : Hp) (C : VK) (E : Hp → Prop), xs[i]? = some x → Same H0 H2 → (∀ H3, Same H2 H3 → C (f i) H3) →
      g x (wipe σ vs) H2 fun σ2 H2 => wipe σ2 vs = wipe σ vs ∧ tYes σ2 H2 fun b H3 => if b = true then te σ2 H3 C else E H3)
    (hd : ∀ (H : Hp), Same H0 H → H Da = some (.lst ((List.range xs.length).map f)) → Q (.ref Da) H) : LcB (Itl K a) g tYes te vs σ Da H0 Q := by
  refine lc_list (xs := xs) (fun i H2 => Same H0 H2 ∧ H2 Da = some (.lst ((List.range i).map f))) ⟨same_new hD, upd_same⟩ (fun i H2 _ p => p.1.seq hS) (fun i x H2 hx p => ?_) (fun H2 p => hd H2 p.1 p.2)
  obtain ⟨k4, e4⟩ := p
  have hi := (List.getElem?_eq_some_iff.mp hx).1
  refine hs i x H2 _ _ hx k4 fun H3 k5 => ?_
  refine ⟨_, k5 _ _ e4, Nat.lt_of_le_of_lt (by rw [List.length_map, List.length_range]; omega : _ ≤ 1000000) (by decide), Same.mut (k4.trans k5) hD, ?_⟩
  rw [upd_same, List.range_succ, List.map_append]
  rfl
end Vf

namespace Vf
open PySem L2 PySem.Spec PyProof.Rows
/-- a plain tuple of pairs: made by tuple(list), or by an update -/
def PlT (H : Hp) (a : Addr) (xs : List V) : Prop := ∃ o : Obj, o.dict = none ∧ H a = some (.frz o (.tup xs))
theorem PlT.seq {K : PySem.W.Frag} {H : Hp} {a : Addr} {xs : List V} (h : PlT H a xs) : SqT K H a xs := by
  obtain ⟨o, _, e⟩ := h
  exact .inl (.inr ⟨o, e⟩)
theorem PlT.same {H H' : Hp} {a : Addr} {xs : List V} (h : PlT H a xs) (e : Same H H') : PlT H' a xs := by
  obtain ⟨o, d, q⟩ := h
  exact ⟨o, d, e _ _ q⟩
theorem uvs_of {X : Cx} {pins : List (Addr × Obj)} {σ : L2.St} {H : Hp} {s : Shared} (I : Inv X pins σ H s) : ∀ {ps : List Addr} {kvs : List (Key × V)}, Paired (fun p kv => SqT X.K H p [kV kv.1, kv.2]) ps kvs →
    ∃ (prs : List (Key × Value)) (uvs : List (Value × Value)), KV kvs prs ∧ prs.length = ps.length ∧ uvs.length = ps.length ∧
      ∀ (j : Nat) (u y : Value), uvs[j]? = some (u, y) → ∃ (b : Addr) (k : Key), ps[j]? = some b ∧ PairAt s.heap b u y ∧ prs[j]? = some (k, y) ∧ keyIs k u = true
  | _, _, .nil => ⟨[], [], .nil, rfl, rfl, fun j u y e => by simp at e⟩
  | _, _, .cons (a := p) (b := kv) h t => by
    obtain ⟨prs, uvs, r, l1, l2, q⟩ := uvs_of I t
    obtain ⟨its, rv, ht, _⟩ := I.tuple h
    obtain ⟨u, y, rfl, ru, ry⟩ := vals2 rv
    refine ⟨(kv.1, y) :: prs, (u, y) :: uvs, .cons ⟨rfl, ry⟩ r, by simp [l1], by simp [l2], fun j u' y' e => ?_⟩
    cases j with
    | zero =>
      cases (Option.some.inj e)
      exact ⟨p, kv.1, rfl, .inl ht, rfl, kV_is (P := X.prog) (w := X.w) ru⟩
    | succ j =>
      obtain ⟨b, k, e1, e2, e3, e4⟩ := q j u' y' (by simpa using e)
      exact ⟨b, k, by simpa using e1, e2, by simpa using e3, e4⟩
theorem refs_of : ∀ {ps : List Addr} {us : List Value}, Vals (ps.map V.ref) us → us = ps.map Value.ref
  | [], _, .nil => rfl
  | p :: ps, _, .cons h t => by
    cases h
    rw [refs_of t]
    rfl
/-- dict(t), t a plain tuple of pairs -/
theorem call_dictPT {X : Cx} (hcalm : X.calm = true) : CallR X (.type "dict") (fun xs H Q => ∃ (a : Addr) (ps : List Addr) (kvs : List (Key × V)), xs = [.ref a] ∧ PlT H a (ps.map V.ref) ∧ Paired (fun p kv => SqT X.K H p [kV kv.1, kv.2]) ps kvs ∧
    ∀ p, H p = none → Q (.ref p) (upd H p (.dK (mergeK [] kvs)))) := by
  intro pins s σ H xs us Q I r q
  obtain ⟨a, ps, kvs, rfl, ⟨o, hd, ea⟩, hp, q⟩ := q
  obtain ⟨u, rfl, rx⟩ := vals1 r
  cases rx
  obtain ⟨ho, hz, its, rv, o2, ho2, hc, n, hdat⟩ := (show ObjOk X.prog X.w H s.heap a (.frz o (.tup (ps.map V.ref))) from I.hok a _ ea)
  rw [ho] at ho2
  cases (Option.some.inj ho2)
  have ei := refs_of rv
  subst ei
  rw [List.length_map] at hz
  obtain ⟨prs, uvs, rel, l1, l2, hq⟩ := uvs_of I hp
  have ok : PlainSeq "tuple" s.heap a (ps.map Value.ref).toArray ∧ PairItems s.heap (ps.map Value.ref).toArray (fun j => ps.getD j 0) uvs := by
    refine ⟨⟨o, n, ho, hc, hd, hdat⟩, by simp [l2], fun j k v hj => ?_⟩
    obtain ⟨b, key, e1, e2, _, _⟩ := hq j k v hj
    have e5 : ps.getD j 0 = b := by rw [List.getD_eq_getElem?_getD, e1]; rfl
    show _ ∧ PairAt s.heap (ps.getD j 0) k v
    rw [e5]
    exact ⟨by simp [e1], e2⟩
  refine PySem.call_dict_pairs (knd := mixKind X.prog X.w) (kvs := prs) (PairArg.tuple a (ps.map Value.ref).toArray (fun j => ps.getD j 0) uvs) (I.ok.hd hcalm) ok ⟨by rw [l1, l2], fun i key v hr => ?_⟩ (by rw [l2]; exact hz) fun h' tk hd' k => ?_
  · obtain ⟨b, k, _, _, e3, e4⟩ := hq i key v hr
    exact ⟨k, e3, e4⟩
  · have hm : (s.heap.objs.size == sysModules) = false := beq_eq_false_iff_ne.mpr (Nat.ne_of_gt I.big)
    have hlen : (mergeK [] kvs).length ≤ sizeLine := by
      have h1 := length_mergeK kvs []
      have h2 := rel.length
      rw [List.length_nil] at h1
      omega
    exact ⟨.ref s.heap.objs.size, upd H s.heap.objs.size (.dK (mergeK [] kvs)), I.laid (t' := tk) (fun b ob e => k b ob (by simp) e) (Nat.le_refl _) (show ObjOk X.prog X.w _ _ _ (.dK (mergeK [] kvs)) from ⟨hlen, hm, merged [] prs, KV.merge rel .nil, hd'⟩), rfl, q _ (I.hok.fresh (Nat.le_refl _))⟩
/-- tuple(l), l a list: a plain tuple -/
theorem call_tupleF {X : Cx} : CallR X (.type "tuple") (fun xs H Q => ∃ p ys, xs = [.ref p] ∧ SqL X.K H p ys ∧ ∀ l H', H l = none → Same H H' → PlT H' l ys → (∀ b, b ≠ l → H' b = H b) → Q (.ref l) H') := by
  intro pins s σ H xs us Q I r q
  obtain ⟨p, ys, rfl, hq, q⟩ := q
  obtain ⟨u, rfl, rx⟩ := vals1 r
  cases rx
  obtain ⟨its, rv, pl, hz⟩ := I.list hq
  have hlen := rv.length
  refine call_tuple_list pl.isList (fun h' kp => ?_) (by simp only [List.size_toArray] <;> omega)
  have J1 : Inv X pins σ H { s with heap := h' } := I.kept (t' := s.toks) kp
  have hfr := J1.hok.fresh (Nat.le_refl _)
  have J2 : Inv X pins σ (upd H h'.objs.size (.frz { cls := .type "tuple", data := .seq its.toArray } (.tup ys))) { s with heap := h'.push { cls := .type "tuple", data := .seq its.toArray } } :=
    J1.laid (t' := s.toks) (fun b ob e => Heap.get?_push_of_some _ e) (Nat.le_refl _) ⟨Heap.get?_push_size _ rfl, hz, its, rv, IsTup.new _ _⟩
  exact ⟨.ref h'.objs.size, _, J2, rfl, q _ _ hfr (same_new hfr) ⟨_, rfl, upd_same⟩ fun b hb => upd_ne hb⟩
theorem tupFK (K : PySem.W.Frag) {X : Cx} (hK : X.K = K := by rfl) : CallR X (.type "tuple") (fun xs H Q => ∃ p ys, xs = [.ref p] ∧ SqL K H p ys ∧ ∀ l H', H l = none → Same H H' → PlT H' l ys → (∀ b, b ≠ l → H' b = H b) → Q (.ref l) H') := hK ▸ call_tupleF
end Vf

namespace PySem
namespace ErrX
open PySem.W PySem.Calls PyProof.Rows PySem.HandSPX
/-! ### the text of __init__ -/
def iA (p1 p2 : Pos) : Arguments := { posonlyargs := [], args := [{ arg := "self", annotation := none, pos := p1 }, { arg := "place", annotation := none, pos := p2 }], vararg := none, kwonlyargs := [], kw_defaults := [], kwarg := none, defaults := [] }
def iB (q1 q2 q3 q4 : Pos) : List Stmt := [.Assign [.Attribute (.Name "self" q1) "place" q2] (.Name "place" q3) q4]
def iS : Scope := { kind := .function, names := [(PySem.Str.ofString "self", .local), (PySem.Str.ofString "place", .local)], isGenerator := false, isCoroutine := false, more := [] }
/-- what the written part says of Low, at C, and of its __init__, at fI -/
structure ErrTxt (K : Frag) (mg : Str → Option Value) (x : Str) (C fI : Addr) : Prop where
  gC : mg x = some (.ref C)
  cls : ∃ nm q N bs bm sn sub ab col dd k0 k1 k2 k3 k5, K.lookup C = some (excClassObj nm q C N bs bm true sn sub ab col dd k0 k1 k2 k3 k5 "ValueError.__new__") ∧ refsVE bm = true
  sa : findIn K (.ref C) "__setattr__" = some (some (.builtin "object.__setattr__"))
  ga : findIn K (.ref C) "__getattribute__" = some (some (.builtin "BaseException.__getattribute__"))
  gg : findIn K (.ref C) "__getattr__" = some none
  noN : findIn K (.ref C) "place" = some none
  iC : findIn K (.ref C) "__init__" = some (some (.ref fI))
  tC : typeIn K (.ref fI) = some (.type "function")
  kC : keepIn K (.ref C) = true
  exC : subIn K (.ref C) (.type "BaseException") = some true
  tyC : typeIn K (.ref C) = some (.type "type")
  hdC : hasDictIn K C = true
  te : exmOne K (.ref C) (.ref C) = some true
  fn : ∃ (oc : Value) (od : Option Addr) (kV doc pm : Value) (an : Option Addr) (cdv ct : Value) (osl : Array (Option Value)) (p1 p2 q1 q2 q3 q4 : Pos),
    K.lookup fI = some ⟨oc, od, .func (fnOf "__init__" "FolderkinError.__init__" (iA p1 p2) (iB q1 q2 q3 q4) iS .none kV doc pm an cdv ct), osl⟩ ∧ codeIn K cdv "FolderkinError.__init__" = true
theorem one_size (v : Value) : [v].length ≤ sizeLine := by
  rw [sizeLine_eq]
  exact (by decide : 1 ≤ 16777216)
theorem kept_but {K : Frag} {h h' : Heap} {x : Addr} (X : K.In h) (hx : K.lookup x = none) (k : ∀ b o, b ≠ x → h.get? b = some o → h'.get? b = some o) : K.In h' := fun a o e =>
  k a o (fun z => by rw [z, hx] at e; cases e) (X a o e)
theorem ldC {M : Model} {s : Shared} {name : Str} {scope : Scope} {L a : Addr} {cd : Value} {m : Str → Option Value} {x : Str} {pos : Pos} {v : Value} {Q : Value → Shared → Prop} {A : Around} {E : Value → Shared → Prop} (hn : s.heap.Ns L m) (hv : m x = some v) (h : Q v s)
    (hk : scope.kind = .function := by rfl) (hl : (envOfC name scope L a cd).kindOf x = some .local := by rfl) (hd : (x == ("__debug__" : Str)) = false := by decide) :
    wpAny M A (eval (.Name x pos) (envOfC name scope L a cd)) Q E s := wpAny_Name (wpAny_loadName_local hk hl hn hv h) hd
/-- what __init__ leaves of a fresh exception at x -/
structure InitEnd (h h' : Heap) (x C dx t1 : Addr) (v : Value) : Prop where
  keep : ∀ b o, b ≠ x → h.get? b = some o → h'.get? b = some o
  obj : h'.get? x = some { cls := .ref C, dict := some dx, data := .fields #[.ref t1, .none, .none, .none, .bool false, .none] }
  dbig : h.objs.size ≤ dx
  dne : dx ≠ x
  ns : h'.Ns1 dx (fun y => if y = "place" then some v else none)
/-- a made Low -/
structure OwnMade (h h' : Heap) (e C d : Addr) (v : Value) : Prop where
  keep : ∀ b o, h.get? b = some o → h'.get? b = some o
  new : h.objs.size ≤ e
  obj : ∃ oe vs, h'.get? e = some oe ∧ oe.cls = .ref C ∧ oe.dict = some d ∧ oe.data = .fields vs ∧ vs[1]? = some .none
  dbig : h.objs.size ≤ d
  dne : d ≠ e
  ns : h'.Ns1 d (fun y => if y = "place" then some v else none)
section
variable {prog : Program} {w : World} {A : Around} {E : Value → Shared → Prop} {R : Result → Shared → Prop} {s : Shared} {K : Frag} {mg : Str → Option Value} {C fI : Addr}
theorem err_init (T : ErrTxt K mg nmx C fI) {x t0 : Addr} {v : Value} (X : K.In s.heap) (hlim : s.heap.NoLimit) (hx : s.heap.get? x = some (excO C t0)) (hnx : K.lookup x = none) (hroom : A.depth < recursionLimit)
    (hq : ∀ h' tk dx, InitEnd s.heap h' x C dx t0 v → R (.ok (.ret .none)) { s with heap := h', toks := tk }) :
    codeAny (model prog w) A (.call (.ref fI) ⟨[.ref x, v], []⟩) R s := by
  obtain ⟨oc, od, kV, doc, pm, an, cdv, ct, osl, p1, p2, q1, q2, q3, q4, ho, hcd⟩ := T.fn
  obtain ⟨nm, q, N, bs, bm, sn, sub, ab, col, dd, k0, k1, k2, k3, k5, hC, hbm⟩ := T.cls
  have hcl : clsIn K C = some { name := nm, bases := bs, mro := .ref C :: bm, ns := N, qualname := q, hasDict := true, slotNames := sn, subclasses := sub, abstract := ab, collection := col, hasDel := false } := by unfold clsIn; rw [hC] <;> rfl
  refine Att.call_fn (binds := [("self", .ref x), ("place", v)]) X hlim ho hcd hroom (BindsTo.of_eq (by first | rfl | with_unfolding_all rfl)) (by first | rfl | decide | with_unfolding_all rfl) (fun s₁ IC => ?_) rfl rfl rfl
  obtain ⟨h₁, tk₁, rfl⟩ := IC.toInCall.same
  have k : ∀ b o, s.heap.get? b = some o → h₁.get? b = some o := IC.toInCall.keep
  have hn := IC.toInCall.ns
  have hxL : s.heap.objs.size ≠ x := Nat.ne_of_gt (Heap.lt_size hx)
  have X₁ : K.In h₁ := X.keeps k
  have hx₁ := k _ _ hx
  -- self.by = by
  show wpAny _ _ (execs _ _) _ _ _
  refine wpAny_execs_cons (plainObj_wpAny_Assign_Attribute ?_)
  refine ldC (v := v) hn (by first | rfl | with_unfolding_all rfl | kernel_rfl) (ldC (v := .ref x) hn (by first | rfl | with_unfolding_all rfl | kernel_rfl) ?_)
  refine set_plain X₁ (ox := excO C t0) (od := none) ⟨hx₁, rfl, rfl, trivial⟩ T.sa ?_
  refine exc_osa X₁ hx₁ hcl (show refsVE (.ref C :: bm) = true from hbm) rfl T.noN (fun h₃ tk₃ dx k₃ dn dne hx₃ hn₃ => ?_)
  show wpAny _ _ (execs _ _) _ _ _
  have z : s.heap.objs.size < h₁.objs.size := hn.lt
  exact wpAny_execs_nil (hq h₃ tk₃ dx ⟨fun b o hb e => k₃ b o hb (k b o e), hx₃, Nat.le_of_lt (Nat.lt_of_lt_of_le z dn), dne, hn₃⟩)
theorem err_made (T : ErrTxt K mg nmx C fI) {v : Value} (X : K.In s.heap) (hlim : s.heap.NoLimit) (hroom : A.depth + 1 < recursionLimit)
    (hq : ∀ h' tk e d, OwnMade s.heap h' e C d v → R (.ok (.ret (.ref e))) { s with heap := h', toks := tk }) :
    codeAny (model prog w) A (.call (.ref C) ⟨[v], []⟩) R s := by
  obtain ⟨nm, q, N, bs, bm, sn, sub, ab, col, dd, k0, k1, k2, k3, k5, hC, hbm⟩ := T.cls
  obtain ⟨hp, g, dr, tk, os⟩ := s
  have k : ∀ b o, hp.get? b = some o → ((hp.push (kdv_tup [v])).push (excO C hp.objs.size)).get? b = some o := fun b o e => Heap.get?_push_of_some _ (Heap.get?_push_of_some _ e)
  have hget : ((hp.push (kdv_tup [v])).push (excO C hp.objs.size)).get? (hp.objs.size + 1) = some (excO C hp.objs.size) := by heap_get
  have hnx : K.lookup (hp.objs.size + 1) = none := by
    cases e : K.lookup (hp.objs.size + 1) with
    | none => rfl
    | some o =>
      have z : hp.get? (hp.objs.size + 1) = some o := X _ _ e
      exact absurd (Nat.lt_of_succ_lt (Heap.lt_size z)) (Nat.lt_irrefl _)
  refine call_own F.excBase_ValueError (fun X => refsVE_contains X bm hbm) (X _ _ hC) (looks_findIn X T.iC) (fun self => bind_fn X self T.tC) (one_size v) ?_
  refine err_init (s := ⟨(hp.push (kdv_tup [v])).push (excO C hp.objs.size), g, dr, tk, os⟩) T (X.keeps k) (hlim.keeps k) hget hnx ?_ fun h' tk' dx ⟨k', hx, dn, dne, hns⟩ => ?_
  · show A.depth + 1 < recursionLimit
    exact hroom
  · have old : ∀ b o, hp.get? b = some o → h'.get? b = some o := fun b o e => k' b o (Nat.ne_of_lt (Nat.lt_succ_of_lt (Heap.lt_size e))) (k b o e)
    have z : hp.objs.size + 1 + 1 ≤ dx := by
      first
        | (simpa only [Heap.size_push] using dn)
        | exact dn
        | (have q := dn; rw [Heap.size_push, Heap.size_push] at q; exact q)
    exact ⟨rfl, hq h' tk' (hp.objs.size + 1) dx ⟨old, Nat.le_succ _, ⟨_, _, hx, rfl, rfl, rfl, rfl⟩, Nat.le_trans (Nat.le_trans (Nat.le_succ _) (Nat.le_succ _)) z, dne, hns⟩⟩
end
end ErrX
end PySem
namespace L2
open PySem PySem.Spec PyProof.Rows
theorem relO_plc {v : V} {v' : Value} (r : RelV v v') (f : Str) : RelO (List.lookup f [(("place" : Str), v)]) (if f = "place" then some v' else none) := by
  by_cases hw : f = "place"
  · subst hw
    rw [if_pos rfl]
    have q : List.lookup ("place" : Str) [(("place" : Str), v)] = some v := by simp [List.lookup]
    rw [q]
    exact r
  · rw [if_neg hw]
    have qw : (f == ("place" : Str)) = false := by simpa using hw
    have q2 : List.lookup f [(("place" : Str), v)] = none := by simp [List.lookup, qw]
    rw [q2]
    trivial
section
variable {X : Cx} {C fI : Addr}
/-- Low(e) -/
def tMkErr (C : Addr) (ta : TA) : St → Hp → XK → Prop := fun σ H Q => ta σ H fun vs H1 => ∃ v, vs = [v] ∧ ∀ d, H1 d = none → Q (.ref C) (some d) (upd H1 d (.xd [(("place" : Str), v)]))
theorem pmk_err {a : Expr} {ta : TA} {p pos : Pos} {k : Nat} (T : PySem.ErrX.ErrTxt X.K X.mg nmx C fI) (hr : Room k X.A) (ha : PA X [a] ta) (hg : Gl X nmx := by rfl)
    (he : starEach (a :: []) X.env = (false, eval a X.env) :: starEach [] X.env := by rfl) (hpl : (backTo pos (starEach [] X.env)).any (·.1) = false := by rfl) (hdb : (nmx == ("__debug__" : Str)) = false := by decide) :
    PMk X (.Call (.Name nmx p) [a] [] pos) (tMkErr C ta) := by
  intro pins s σ H Q I h
  refine wpAny_Call_Name_kw (ld_glob I hg T.gC ?_ hdb)
  refine PySem.W.callWith_K (h₀ := X.base) I.ok.mod.kin T.kC (thn (ha.run pos pins s σ H _ I h) fun us s1 hh => ?_) he hpl
  obtain ⟨vs, H1, I1, r1, v, ev, q1⟩ := hh
  subst ev
  refine ⟨I1.kIn, ?_⟩
  cases r1 with
  | cons rv rn =>
    rename_i v' us'
    cases rn
    show wpAny _ _ (call (.ref C) [v']) _ _ _
    have hlim := I1.nolimit
    obtain ⟨hp, g, dr, tk, os⟩ := s1
    refine wpAny_call (PySem.ErrX.err_made T I1.kIn hlim (by have := hr.dp; omega) fun h' tk' e d M => ?_)
    show MkP X pins σ Q (.ref e) ⟨h', g, dr, tk', os⟩
    obtain ⟨oe, fv, hoe, hc, hd, hdat, h1⟩ := M.obj
    have hns := M.ns
    obtain ⟨G', g1, g2⟩ := restrict h' fun b => decide (b ≠ e)
    have gk : ∀ b, b ≠ e → G'.get? b = h'.get? b := fun b hb => g1 b (decide_eq_true hb)
    have ge : G'.get? e = none := g2 e (by simp)
    have old : ∀ b o, hp.get? b = some o → G'.get? b = some o := fun b o q => (gk b (Nat.ne_of_lt (Nat.lt_of_lt_of_le (Heap.lt_size q) M.new))).trans (M.keep b o q)
    have ob : ObjOk X.prog X.w (upd H1 d (.xd [(("place" : Str), v)])) G' d (.xd [(("place" : Str), v)]) :=
      ⟨_, hns.at (fun o q => (gk d M.dne).trans q), fun f => relO_plc rv f⟩
    have J : Inv X pins σ (upd H1 d (.xd [(("place" : Str), v)])) ⟨G', g, dr, tk', os⟩ := I1.laid (t' := tk') old M.dbig ob
    refine ⟨e, oe, fv, ⟨G', g, dr, tk', os⟩, _, .ref C, some d, rfl, J, fun b o q => ?_, ge, hoe, ⟨hc, hd⟩, hdat, h1, ?_, rfl, I1.bare, raises_own T.exC T.tyC, q1 d (I1.hok.fresh M.dbig)⟩
    · by_cases hb : b = e
      · have q' : G'.get? b = some o := q
        rw [hb, ge] at q'; cases q'
      · exact (gk b hb).symm.trans q
    · rw [upd_ne (Ne.symm M.dne)]
      exact I1.hok.fresh M.new
/-- raise Low(e) -/
def tRaiseErr (C : Addr) (W : WX) (ta : TA) : TS := fun _ σ H => tMkErr C ta σ H fun cls d H' => W cls d σ H'
theorem ps_raiseErr {a : Expr} {ta : TA} {W : WX} {p pos pos2 : Pos} {k : Nat} (hc : X.calm = true) (T : PySem.ErrX.ErrTxt X.K X.mg nmx C fI) (hr : Room k X.A) (tk : Takes X W) (ha : PA X [a] ta) (hg : Gl X nmx := by rfl)
    (he : starEach (a :: []) X.env = (false, eval a X.env) :: starEach [] X.env := by rfl) (hpl : (backTo pos (starEach [] X.env)).any (·.1) = false := by rfl) (hdb : (nmx == ("__debug__" : Str)) = false := by decide) :
    PS X (.Raise (some (.Call (.Name nmx p) [a] [] pos)) none pos2) (tRaiseErr C W ta) := ps_raise hc tk (pmk_err T hr ha hg he hpl hdb)
/-- low.by, low the exception that the suite holds (at a; its class cls, its dict d) -/
def tPlcErr (C : Addr) (a : Addr) (cls : Value) (d : Option Addr) (te : TE) : TE := fun σ H Q => te σ H fun x H1 => x = .ref a ∧ cls = .ref C ∧ ∃ (dd : Addr) (v : V), d = some dd ∧ H1 dd = some (.xd [(("place" : Str), v)]) ∧ Q v H1
theorem pe_plcErr {a : Addr} {oe : Obj} {cls : Value} {d : Option Addr} {pn : List (Addr × Obj)} {e : Expr} {te : TE} {pos : Pos} (T : PySem.ErrX.ErrTxt X.K X.mg nmx C fI) (hz : Zc cls d oe) (hf : ∃ vs, oe.data = .fields vs) (he : PE (X.suite a ((a, oe) :: pn)) e te)
    (hb : attributeBase e "place" X.env (eval e X.env) = eval e X.env := by rfl) :
    PE (X.suite a ((a, oe) :: pn)) (.Attribute e "place" pos) (tPlcErr C a cls d te) := by
  refine ⟨fun pins s σ H Q I h => ?_⟩
  refine attr_of hb (thn (he.run pins s σ H _ I h) fun u s1 hh => ?_)
  obtain ⟨x, H1, I1, rx, ex, ec, dd, v, ed, ea, q⟩ := hh
  subst ex
  obtain rfl : u = Value.ref a := rx
  subst ec
  subst ed
  obtain ⟨ha, _⟩ := I1.pin (a, oe) (List.mem_append_left _ List.mem_cons_self)
  obtain ⟨vs, hd⟩ := hf
  have hx : ObjOk X.prog X.w H1 s1.heap dd (.xd [(("place" : Str), v)]) := I1.hok dd _ ea
  obtain ⟨mA, hns, hr⟩ := hx
  obtain ⟨od, ho, hl⟩ := lookIn_ns hns
  have l : List.lookup ("place" : Str) [(("place" : Str), v)] = some v := by simp [List.lookup]
  obtain ⟨u, hu, ru⟩ := RelO.some_of (v := v) (o := mA "place") (by rw [← l]; exact hr "place")
  have J : PySem.W.InstAt s1.heap a oe C (some od) := ⟨ha, hz.1, by unfold PySem.W.notCls; rw [hd] <;> rfl, by rw [hz.2]; exact ho⟩
  exact HandSPX.exc_get I1.kIn J T.ga T.gg T.exC (PySem.W.findObj_own T.hdC T.noN rfl (by rw [hl, hu])) (handed_of ru) ⟨v, H1, I1.tok _, ru, q⟩
end
end L2

namespace Vf
open PySem L2 PySem.Spec PyProof.Rows
/-- isinstance(e, c), e the error that the suite holds (at a; its class cls, its own dict d) -/
def rIsP (K : PySem.W.Frag) (D a : Addr) (cls : Value) (d : Option Addr) : List V → Hp → VK → Prop := fun xs H Q => cls = .ref D ∧ ∃ (dd : Addr) (pl c : V) (cv : Value) (b : Bool),
  d = some dd ∧ H dd = some (.xd [(("place" : Str), pl)]) ∧ xs = [.ref a, c] ∧ (∀ u, RelV c u → u = cv) ∧ PySem.W.kitOne K (.ref D) cv = some b ∧ Q (.bl b) H
theorem call_isP {X : Cx} {a D : Addr} {oe : Obj} {cls : Value} {d : Option Addr} {pn : List (Addr × Obj)} (C : ExcC X.K D) (hz : Zc cls d oe) (hf : ∃ vs, oe.data = .fields vs) : CallR (X.suite a ((a, oe) :: pn)) (.builtin "isinstance") (rIsP X.K D a cls d) := by
  intro pins s σ H xs us Q I r h
  obtain ⟨rfl, dd, pl, c, cv, b, rfl, ea, rfl, hcv, e, q⟩ := h
  obtain ⟨u1, u2, rfl, r1, r2⟩ := vals2 r
  cases (show u1 = Value.ref a from r1)
  have e2 := hcv _ r2
  subst e2
  obtain ⟨ha, _⟩ := I.pin (a, oe) (List.mem_append_left _ List.mem_cons_self)
  obtain ⟨vs, hd⟩ := hf
  obtain ⟨mA, hns, _⟩ := (show ObjOk X.prog X.w H s.heap dd (.xd [(("place" : Str), pl)]) from I.hok dd _ ea)
  obtain ⟨od, ho, _⟩ := lookIn_ns hns
  have J : PySem.W.InstAt s.heap a oe D (some od) := ⟨ha, hz.1, by unfold PySem.W.notCls; rw [hd] <;> rfl, by rw [hz.2]; exact ho⟩
  have hcl : (PySem.W.clsIn X.K D).isSome = true := by
    have h1 := C.hd
    unfold PySem.W.hasDictIn at h1
    cases h2 : PySem.W.clsIn X.K D with
    | none => rw [h2] at h1; cases h1
    | some cd => rfl
  exact PySem.W.kia_one (PySem.W.kitx_exc hcl C.hg C.hk C.hs C.ha C.hn C.ht C.hm) I.kIn J e (fun z => nomatch z) fun tk => ⟨.bl b, H, I.kept (t' := tk) fun _ _ z => z, rfl, q⟩
end Vf

namespace Vf
open PySem L2 PySem.Spec PyProof.Rows He
/-! ### the head's facts, and further ones that are yes or no -/
abbrev AlX : Type := AlD × Bool
def obsX (fa : List Fa) (fn : List DefD) (ex : List (PySem.W.Frag → Bool)) (K : PySem.W.Frag) : AlX := (obsD fa fn K, ex.all fun p => p K)
def obsXG (n : Nat) (fa : List Fa) (fn : List DefD) (ex : List (PySem.W.Frag → Bool)) (g : Addr → Option Obj) : AlX := obsX fa fn ex (frG g (asD g n))
def SaysX (fa : List Fa) (fn : List DefD) (ex : List (PySem.W.Frag → Bool)) (K : PySem.W.Frag) : Prop := SaysD fa fn K ∧ (ex.all fun p => p K) = true
def hookX (n : Nat) (fa : List Fa) (fn : List DefD) (ex : List (PySem.W.Frag → Bool)) : PySem.W.Hook where
  α := AlX
  obs := fun s => obsXG n fa fn ex s.heap.get?
  val := fun _ => (valD fn, true)
  says := fun _ h => ∃ K : PySem.W.Frag, K.In h ∧ SaysX fa fn ex K
  of := fun _ _ e => ⟨_, frG_in, congrArg (fun z : AlX => z.1) e, congrArg (fun z : AlX => z.2) e⟩
  keeps := fun _ _ _ ⟨K, hK, c⟩ k => ⟨K, PySem.W.Frag.In.keeps hK k, c⟩
theorem obsXG_eq {n : Nat} {fa : List Fa} {fn : List DefD} {ex : List (PySem.W.Frag → Bool)} {g : Addr → Option Obj} {s : Shared} (h : ∀ a, g a = s.heap.get? a) : obsXG n fa fn ex g = (hookX n fa fn ex).obs s := by
  have e : g = s.heap.get? := funext h
  rw [e] <;> rfl
theorem SaysX.more {fa : List Fa} {fn : List DefD} {ex : List (PySem.W.Frag → Bool)} {K : PySem.W.Frag} (c : SaysX fa fn ex K) (i : Nat) {p : PySem.W.Frag → Bool} (h : ex[i]? = some p := by rfl) : p K = true :=
  List.all_eq_true.mp c.2 p (List.mem_of_getElem? h)
/-! ### an own error, over ValueError through own classes, with __init__ from one of them -/
def errB (K : PySem.W.Frag) (C : Addr) : Bool := match K.lookup C with
  | some ⟨.type "type", _, .cls cd, sl⟩ => (match cd.mro, sl.toList with
    | .ref D :: bm, [_, _, _, _, some (.builtin n), _] => D == C && (n == "ValueError.__new__" && (!cd.hasDel && (cd.hasDict && PySem.HandSPX.refsVE bm)))
    | _, _ => false)
  | _ => false
theorem errB_ok {K : PySem.W.Frag} {C : Addr} (q : errB K C = true) : ∃ nm qn N bs bm sn sub ab col dd k0 k1 k2 k3 k5, K.lookup C = some (excClassObj nm qn C N bs bm true sn sub ab col dd k0 k1 k2 k3 k5 "ValueError.__new__") ∧ PySem.HandSPX.refsVE bm = true := by
  unfold errB at q
  split at q
  · rename_i dd cd sl ho
    split at q
    · rename_i D bm k0 k1 k2 k3 n k5 hm hs
      simp only [Bool.and_eq_true, beq_iff_eq, Bool.not_eq_true'] at q
      obtain ⟨rfl, rfl, hdel, hdi, hv⟩ := q
      obtain ⟨nm, bs, mro, ns, qn, hd, sn, sub, ab, col, del⟩ := cd
      dsimp only at hm hdel hdi
      subst hm hdel hdi
      obtain ⟨l⟩ := sl
      simp only at hs
      subst hs
      exact ⟨nm, qn, ns, bs, bm, sn, sub, ab, col, dd, k0, k1, k2, k3, k5, ho, hv⟩
    · cases q
  · cases q
def errAll (x bx : Str) (K : PySem.W.Frag) : Bool :=
  errB K (ga K x) && (eqO (PySem.W.findIn K (.ref (ga K x)) "__setattr__") (some (some (.builtin "object.__setattr__"))) && (eqO (PySem.W.findIn K (.ref (ga K x)) "__getattribute__") (some (some (.builtin "BaseException.__getattribute__"))) &&
  (eqO (PySem.W.findIn K (.ref (ga K x)) "__getattr__") (some none) && (eqO (PySem.W.findIn K (.ref (ga K x)) "place") (some none) && (eqO (PySem.W.findIn K (.ref (ga K x)) "__init__") (some (some (.ref (ma K (ga K bx) "__init__")))) &&
  (decide (PySem.W.typeIn K (.ref (ma K (ga K bx) "__init__")) = some (.type "function")) && (PySem.W.keepIn K (.ref (ga K x)) && (decide (PySem.W.subIn K (.ref (ga K x)) (.type "BaseException") = some true) && (decide (PySem.W.typeIn K (.ref (ga K x)) = some (.type "type")) &&
  (PySem.W.hasDictIn K (ga K x) && (decide (PySem.W.exmOne K (.ref (ga K x)) (.ref (ga K x)) = some true) && (decide (PySem.W.exmOne K (.ref (ga K x)) (.ref (ga K bx)) = some true) && (eqO (PySem.W.findIn K (.ref (ga K x)) "__class__") (some (some (.builtin "object.__class__"))) &&
  (eqO (PySem.W.specialIn K (.builtin "object.__class__") "__get__") (some (some (.builtin "getset_descriptor.__get__"))) && (decide (PySem.W.takesIn K (.builtin "object.__class__") = some true) && (decide (PySem.W.mroIn K (ga K x) (.type "object") = some true) &&
  (decide (PySem.W.kitOne K (.ref (ga K x)) (.ref (ga K x)) = some true) && (decide (PySem.W.kitOne K (.ref (ga K x)) (.ref (ga K bx)) = some true) && decide (PySem.W.kitOne K (.ref (ga K x)) (.type "ValueError") = some true)))))))))))))))))))
structure ErrAll (K : PySem.W.Frag) (mg : Str → Option Value) (x bx : Str) : Prop where
  er : PySem.ErrX.ErrTxt K mg x (ga K x) (ma K (ga K bx) "__init__")
  gB : mg bx = some (.ref (ga K bx))
  ec : ExcC K (ga K x)
  xb : PySem.W.exmOne K (.ref (ga K x)) (.ref (ga K bx)) = some true
  ii : PySem.W.kitOne K (.ref (ga K x)) (.ref (ga K x)) = some true
  ib : PySem.W.kitOne K (.ref (ga K x)) (.ref (ga K bx)) = some true
  iv : PySem.W.kitOne K (.ref (ga K x)) (.type "ValueError") = some true
theorem errAll_ok {K : PySem.W.Frag} {h : Heap} {mg : Str → Option Value} {x bx : Str} {fd : FuncData} {p1 p2 q1 q2 q3 q4 : Pos} (X : K.In h) (G : h.Ns mainGlobals mg) (c1 : (Fa.glo x).ok K = true) (c2 : (Fa.glo bx).ok K = true) (ce : errAll x bx K = true)
    (F : FunD K "__init__" "FolderkinError.__init__" (PySem.ErrX.iA p1 p2) (PySem.ErrX.iB q1 q2 q3 q4) PySem.ErrX.iS [] [] (ma K (ga K bx) "__init__") fd) : ErrAll K mg x bx := by
  obtain ⟨e1, ce⟩ := ba ce
  obtain ⟨e2, ce⟩ := ba ce
  obtain ⟨e3, ce⟩ := ba ce
  obtain ⟨e4, ce⟩ := ba ce
  obtain ⟨e5, ce⟩ := ba ce
  obtain ⟨e6, ce⟩ := ba ce
  obtain ⟨e7, ce⟩ := ba ce
  obtain ⟨e8, ce⟩ := ba ce
  obtain ⟨e9, ce⟩ := ba ce
  obtain ⟨e10, ce⟩ := ba ce
  obtain ⟨e11, ce⟩ := ba ce
  obtain ⟨e12, ce⟩ := ba ce
  obtain ⟨e13, ce⟩ := ba ce
  obtain ⟨e14, ce⟩ := ba ce
  obtain ⟨e15, ce⟩ := ba ce
  obtain ⟨e16, ce⟩ := ba ce
  obtain ⟨e17, ce⟩ := ba ce
  obtain ⟨e18, ce⟩ := ba ce
  obtain ⟨e19, e20⟩ := ba ce
  obtain ⟨oc, od, dV, kV, doc, pm, an, cdv, ct, osl, rfl, lk, hcd, dfl, _⟩ := F.ex
  have ed : dV = .none := by
    rcases dfl with ⟨_, h⟩ | ⟨h, _⟩
    · exact h
    · exact absurd rfl h
  subst ed
  exact { er := { gC := glo_ok X G c1, cls := errB_ok e1, sa := eqO_ok e2, ga := eqO_ok e3, gg := eqO_ok e4, noN := eqO_ok e5, iC := eqO_ok e6, tC := of_decide_eq_true e7, kC := e8, exC := of_decide_eq_true e9, tyC := of_decide_eq_true e10, hdC := e11, te := of_decide_eq_true e12,
                  fn := ⟨oc, od, kV, doc, pm, an, cdv, ct, osl, p1, p2, q1, q2, q3, q4, lk, hcd⟩ },
          gB := glo_ok X G c2, ec := ⟨eqO_ok e3, eqO_ok e4, of_decide_eq_true e9, e11, eqO_ok e14, eqO_ok e15, of_decide_eq_true e16, of_decide_eq_true e17⟩,
          xb := of_decide_eq_true e13, ii := of_decide_eq_true e18, ib := of_decide_eq_true e19, iv := of_decide_eq_true e20 }
/-! ### calls of a def that may raise -/
structure CalX (P : Program) (w : World) (K : PySem.W.Frag) (mg : Str → Option Value) (base : Heap) (k : Nat) (x : Str) (sp : Sp) : Prop where
  ex : ∃ (f : Addr) (fd : FuncData) (ps : List Str), FnOk P w K mg base (L2.CX P w) k f fd ps sp ∧ mg x = some (.ref f) ∧ PySem.W.keepIn K (.ref f) = true ∧ Binds K fd ps []
theorem pe_cX {X : Cx} {k j : Nat} {x : Str} {sp : Sp} {p pos : Pos} {e : Expr} {es : List Expr} {t : TA} {W : WX} (c : CalX X.prog X.w X.K X.mg X.base k x sp) (hr : Room j X.A) (hk : k ≤ j) (tk : Takes X W) (hg : Gl X x) (ha : PA X (e :: es) t)
    (hdb : (x == ("__debug__" : Str)) = false := by decide) (he : starEach (e :: es) X.env = (false, eval e X.env) :: starEach es X.env := by rfl)
    (hpl : (backTo pos (starEach es X.env)).any (·.1) = false := by rfl) : PE X (.Call (.Name x p) (e :: es) [] pos) (tCallS sp (WE W) t) := by
  obtain ⟨f, fd, ps, F, hm, kp, b⟩ := c.ex
  exact pe_callS F (hr.mono hk) hg hm kp b (fun σ => passAt tk σ) ha hdb he hpl
/-- promises of a def that may raise, by arity -/
abbrev sp1X (R : V → Hp → VK → XK → Prop) : Sp := fun vs H Q E => ∃ a, vs = [a] ∧ R a H Q E
end Vf

namespace Vf
open PySem L2 PySem.Spec PyProof.Rows
/-- x == y, x an instance of a class with its own __eq__ that answers True or False; y one too, or a tuple -/
def rEqO (K : PySem.W.Frag) (C : Addr) (sp : Sp) (E : XK) : R2 := fun x y H Q => ∃ (a b dx : Addr) (fs : List (Str × V)), x = .ref a ∧ y = .ref b ∧ H a = some (.ins C dx fs) ∧
  ((∃ (dy : Addr) (gs : List (Str × V)), H b = some (.ins C dy gs)) ∨ (PySem.W.notFirst K C (.type "tuple") = true ∧ ∃ ys, SqT K H b ys)) ∧ sp [x, y] H (fun z H' => ∃ t, z = .bl t ∧ Q z H') E
theorem op_eqOwn {X : Cx} {CX : CXT} {C f : Addr} {fd : FuncData} {ps : List Str} {sp : Sp} {E : XK} {n : Nat} (F : FnOk X.prog X.w X.K X.mg X.base CX n f fd ps sp)
    (hs : PySem.W.findIn X.K (.ref C) "__eq__" = some (some (.ref f))) (hf : PySem.W.isFn X.K (.ref f) = true) (hb : Binds X.K fd ps []) (hx : Passes CX X E) (hr : Room n X.A) : OpR X (compareOp .Eq) (rEqO X.K C sp E) := by
  intro pins s σ H x y v u Q I rx ry q
  obtain ⟨a, b, dx, fs, rfl, rfl, ha, hy, hsp⟩ := q
  cases rx
  cases ry
  obtain ⟨mA, J, _⟩ := ins_get I.hok ha
  obtain ⟨od, J, _⟩ := J.look
  obtain ⟨m, hF⟩ := I.fr
  have go : ∀ tb : Value, PySem.W.Looks (model X.prog X.w) s.heap (typeOf (.ref b)) tb → PySem.W.notFirst X.K C tb = true → wpAny (model X.prog X.w) X.A (richCompare .Eq (.ref a) (.ref b)) (EP X pins σ Q) X.xe s := fun tb ht hn => by
    refine PySem.W.cmp_K (op := .Eq) (tb := tb) hr.units0 hF I.ok.mod.kin J ht hn hs hf ?_
    have hl := F.len _ _ _ _ hsp
    have r2 : Vals [V.ref a, V.ref b] [Value.ref a, Value.ref b] := .cons rfl (.cons rfl .nil)
    refine wpAny_call (codeAny_mono (F.run X.A X.stack s H ⟨[.ref a, .ref b], []⟩ [.ref a, .ref b] [.ref a, .ref b] _ E hr I.env0 (by
      have := hb s [.ref a, .ref b] I.kIn (by simpa using hl)
      simpa using this) r2 hsp) fun r s' hq => ?_)
    cases r with
    | error e => exact hx pins σ H s e s' I hq
    | ok fl =>
      cases fl with
      | ret w =>
        obtain ⟨z, H', I', rz, t, ez, hQ⟩ := I.after hq
        subst ez
        cases rz
        exact ⟨.bl t, H', I', rfl, hQ⟩
      | next => exact False.elim hq
      | brk => exact False.elim hq
      | cont => exact False.elim hq
  rcases hy with ⟨dy, gs, hy⟩ | ⟨hn, ys, hy⟩
  · obtain ⟨mB, J', _⟩ := ins_get I.hok hy
    obtain ⟨od', J', _⟩ := J'.look
    exact go (.ref C) J'.type (by simp [PySem.W.notFirst])
  · obtain ⟨its, rv, ⟨o, ho, hc, _⟩, _⟩ := I.tuple hy
    exact go (.type "tuple") (fun A Q E s' k z => wpAny_typeOf (T := "tuple") ⟨o, k _ _ ho, hc⟩ z) hn
end Vf

namespace Vf
open PySem L2 PySem.Spec PyProof.Rows He
/-! ### an own class: all yes-or-no facts of it -/
def clsB (x : Str) (K : PySem.W.Frag) : Bool :=
  eqO (PySem.W.findIn K (.ref (ga K x)) "__class__") (some (some (.builtin "object.__class__"))) &&
  (eqO (PySem.W.specialIn K (.builtin "object.__class__") "__get__") (some (some (.builtin "getset_descriptor.__get__"))) && (decide (PySem.W.takesIn K (.builtin "object.__class__") = some true) &&
  (decide (PySem.W.mroIn K (ga K x) (.type "object") = some true) && (decide (PySem.W.kitOne K (.ref (ga K x)) (.ref (ga K x)) = some true) && (decide (PySem.W.kitOne K (.type "tuple") (.ref (ga K x)) = some false) && PySem.W.notFirst K (ga K x) (.type "tuple"))))))
structure ClsT (K : PySem.W.Frag) (x : Str) : Prop where
  ha : PySem.W.findIn K (.ref (ga K x)) "__class__" = some (some (.builtin "object.__class__"))
  hn : PySem.W.specialIn K (.builtin "object.__class__") "__get__" = some (some (.builtin "getset_descriptor.__get__"))
  htk : PySem.W.takesIn K (.builtin "object.__class__") = some true
  hm : PySem.W.mroIn K (ga K x) (.type "object") = some true
  own : PySem.W.kitOne K (.ref (ga K x)) (.ref (ga K x)) = some true
  tup : PySem.W.kitOne K (.type "tuple") (.ref (ga K x)) = some false
  nf : PySem.W.notFirst K (ga K x) (.type "tuple") = true
theorem clsB_ok {x : Str} {K : PySem.W.Frag} (c : clsB x K = true) : ClsT K x := by
  unfold clsB at c
  obtain ⟨c1, c⟩ := ba c
  obtain ⟨c2, c⟩ := ba c
  obtain ⟨c3, c⟩ := ba c
  obtain ⟨c4, c⟩ := ba c
  obtain ⟨c5, c⟩ := ba c
  obtain ⟨c6, c7⟩ := ba c
  exact ⟨eqO_ok c1, eqO_ok c2, of_decide_eq_true c3, of_decide_eq_true c4, of_decide_eq_true c5, of_decide_eq_true c6, c7⟩
/-- == by its own __eq__ -/
def eqB (x : Str) (K : PySem.W.Frag) : Bool := eqO (PySem.W.findIn K (.ref (ga K x)) "__eq__") (some (some (.ref (ma K (ga K x) "__eq__")))) && PySem.W.isFn K (.ref (ma K (ga K x) "__eq__"))
structure EqC (P : Program) (w : World) (K : PySem.W.Frag) (mg : Str → Option Value) (base : Heap) (k : Nat) (x : Str) (sp : Sp) : Prop where
  ex : ∃ (f : Addr) (fd : FuncData) (ps : List Str), FnOk P w K mg base CX0 k f fd ps sp ∧ PySem.W.findIn K (.ref (ga K x)) "__eq__" = some (some (.ref f)) ∧ PySem.W.isFn K (.ref f) = true ∧ Binds K fd ps []
theorem op_eqC {X : Cx} {k j : Nat} {x : Str} {sp : Sp} (c : EqC X.prog X.w X.K X.mg X.base k x sp) (hr : Room j X.A) (hk : k ≤ j) : OpR X (compareOp .Eq) (rEqO X.K (ga X.K x) sp E0) := by
  obtain ⟨f, fd, ps, F, hs, hf, hb⟩ := c.ex
  exact op_eqOwn F hs hf hb pass0 (hr.mono hk)
/-- C(e, .., k = v) -/
structure MakN (P : Program) (w : World) (K : PySem.W.Frag) (mg : Str → Option Value) (base : Heap) (k : Nat) (x : Str) (C : Addr) (sp : Sp) (n : Nat) (ks : List Str) (gV : List V → List V → List V) : Prop where
  ex : ∃ (f : Addr) (fd : FuncData) (ps : List Str) (g : List Value → List Value → List Value), Mk K C f ∧ FnOk P w K mg base CX0 k f fd ps sp ∧ mg x = some (.ref C) ∧ KBn K fd ps (n + 1) ks g gV
theorem pe_mkN {X : Cx} {k j n : Nat} {C : Addr} {x : Str} {sp : Sp} {p pos : Pos} {e : Expr} {es : List Expr} {kws : List Keyword} {ks : List Str} {t tk : TA} {gV : List V → List V → List V} (c : MakN X.prog X.w X.K X.mg X.base k x C sp n ks gV) (hr : Room j X.A) (hk : k + 1 ≤ j) (hg : Gl X x)
    (ha : PA X (e :: es) t) (hkw : PK X kws tk) (hall : (backToKw pos (keywordEach kws X.env)).all (·.1.isSome) = true := by rfl) (hks : (backToKw pos (keywordEach kws X.env)).filterMap (·.1) = ks := by rfl)
    (hdb : (x == ("__debug__" : Str)) = false := by decide) (he : starEach (e :: es) X.env = (false, eval e X.env) :: starEach es X.env := by rfl)
    (hpl : ((backTo pos (starEach (e :: es) X.env)).any (·.1) || (backToKw pos (keywordEach kws X.env)).any (·.1.isNone)) = false := by rfl) :
    PE X (.Call (.Name x p) (e :: es) kws pos) (tMakeN C n ks.length sp gV E0 t tk) := by
  obtain ⟨f, fd, ps, g, M, F, hm, b⟩ := c.ex
  exact pe_makeN M F (hr.mono hk) hg hm b pass0 ha hkw hall hks hdb he hpl
theorem e_tMake {C : Addr} {sp : Sp} {dvs : List V} {E : XK} {t : TA} {σ : L2.St} {H : Hp} {Q : VK} (q : t σ H fun vs H1 => ∀ x dx, H1 x = none → H1 dx = none → dx ≠ x → sp (.ref x :: (vs ++ dvs)) (upd (upd H1 dx (.own x)) x (.ins C dx [])) (fun v H2 => v = .non ∧ Q (.ref x) H2) E) : tMake C sp dvs E t σ H Q := q
theorem e_tMakeN {C : Addr} {n m : Nat} {sp : Sp} {gV : List V → List V → List V} {E : XK} {t tk : TA} {σ : L2.St} {H : Hp} {Q : VK} (q : t σ H fun vs H1 => tk σ H1 fun zs H2 => vs.length = n ∧ zs.length = m ∧
  ∀ x dx, H2 x = none → H2 dx = none → dx ≠ x → sp (gV (.ref x :: vs) zs) (upd (upd H2 dx (.own x)) x (.ins C dx [])) (fun v H3 => v = .non ∧ Q (.ref x) H3) E) : tMakeN C n m sp gV E t tk σ H Q := q
/-! ### == and != of data with any texts -/
def rEqP (K : PySem.W.Frag) : R2 := fun x y H Q => ∃ d e, Dp K H x d ∧ Dp K H y e ∧ d.plain = true ∧ e.plain = true ∧ d.depth ≤ 60 ∧ Q (.bl (PyData.eqv d e)) H
def rNeP (K : PySem.W.Frag) : R2 := fun x y H Q => ∃ d e, Dp K H x d ∧ Dp K H y e ∧ d.plain = true ∧ e.plain = true ∧ d.depth ≤ 60 ∧ Q (.bl (!PyData.eqv d e)) H
theorem op_eqP {X : Cx} (hu : X.A.units + 64 < cLine) : OpR X (compareOp .Eq) (rEqP X.K) := by
  intro pins s σ H x y v u Q I rx ry h
  obtain ⟨d, e, hd, he, sd, se, hp, q⟩ := h
  obtain ⟨as, r1⟩ := Dp.reads I d x v hd rx
  obtain ⟨bs, r2⟩ := Dp.reads I e y u he ry
  exact PySem.SeqAt.eq_plain r1 r2 sd se (by omega) ⟨.bl _, H, I, rfl, q⟩
theorem op_neP {X : Cx} (hu : X.A.units + 64 < cLine) : OpR X (compareOp .NotEq) (rNeP X.K) := by
  intro pins s σ H x y v u Q I rx ry h
  obtain ⟨d, e, hd, he, sd, se, hp, q⟩ := h
  obtain ⟨as, r1⟩ := Dp.reads I d x v hd rx
  obtain ⟨bs, r2⟩ := Dp.reads I e y u he ry
  exact PySem.SeqAt.ne_plain r1 r2 sd se (by omega) ⟨.bl _, H, I, rfl, q⟩
end Vf

namespace Vf
open PySem L2 PySem.Spec PyProof.Rows He
/-! ### t[::-1] of a pair -/
section
variable {prog : Program} {w : World} {A : Around} {E : Value → Shared → Prop} {s : Shared}
theorem rev2_applied {sl : Addr} {u : Tok} {Q : Int × Int × Nat → Shared → Prop} (hs : s.heap.IsSliceOf sl .none .none (.int (-1) u)) (h : Q (1, -1, 2) s) :
    wpAny (model prog w) A (Builtin.Slice.sliceApplied (.ref sl) (pure ((2 : Nat) : Int))) Q E s := by
  obtain ⟨os, hos, hcs, hds⟩ := id hs
  unfold Builtin.Slice.sliceApplied Builtin.Slice.sliceFields
  refine wpAny_bind (wpAny_bind (wpAny_field hos hds (x := .none) rfl (wpAny_bind (wpAny_field hos hds (x := .none) rfl (wpAny_bind (wpAny_field hos hds (x := .int (-1) u) rfl (wpAny_pure ?_)))))))
  refine wpAny_bind (slicePart_int ?_)
  show wpAny _ _ (if ((-1 : Int) == 0) = true then _ else _) _ _ s
  rw [if_neg (by decide)]
  refine wpAny_bind (slicePart_none (wpAny_bind (slicePart_none (wpAny_bind (wpAny_pure ?_)))))
  show wpAny _ _ (match Builtin.Slice.sliceAdjust none none (-1) ((2 : Nat) : Int) with | (lo, hi) => pure (lo, (-1 : Int), Builtin.Slice.slicePlaces lo hi (-1))) _ _ s
  exact wpAny_pure h
theorem getItem_pair_rev {t sl : Addr} {v0 v1 : Value} {u : Tok} {Q : Value → Shared → Prop} (ht : IsTup s.heap t #[v0, v1]) (hs : s.heap.IsSliceOf sl .none .none (.int (-1) u))
    (h : Q (.ref s.heap.objs.size) { s with heap := s.heap.push { cls := .type "tuple", data := .seq #[v1, v0] } }) : wpAny (model prog w) A (getItem (.ref t) (.ref sl)) Q E s := by
  obtain ⟨os, hos, hcs, hds⟩ := id hs
  have hTs : s.TypeIs (.ref sl) "slice" := ⟨os, hos, hcs⟩
  unfold getItem
  try with_reducible refine wpAny_holding ?_
  first | refine wpAny_bind (wpAny_pure ?_) | skip
  refine wpAny_bind (wpAny_sequenceKey ht.typeIs (by decide) ?_)
  refine wpAny_bind (wpAny_callSpecial?_slot (name := Str.ofString "__getitem__") ht.typeIs PyProof.Rows.slot_tuple_getitem
    (wpAny_call_entry PyProof.Rows.slot_tuple_getitem ht.typeIs entry_tuple_getitem ?_ (args_tuple_getitem _ _)))
  show wpAny _ _ (Builtin.Tuple.tupleItemsOf (.ref t) >>= _) _ _ s
  refine wpAny_bind (tupleItemsOf_ ht ?_)
  refine wpAny_bind (wpAny_typeOf hTs ?_)
  rw [if_pos (by decide)]
  refine wpAny_bind (rev2_applied hs ?_)
  show wpAny _ _ (if (((1 : Int)) == 0 && (-1 : Int) == 1 && ((2 : Nat) == 2)) = true then _ else _) _ _ s
  rw [if_neg (by decide)]
  have hz : sizeOk (.seq #[v1, v0]) := by show (2 : Nat) ≤ sizeLine; decide
  first
    | exact wpAny_bind (m := Builtin.Tuple.tupleExact _) (wpAny_newObj_type (wpAny_pure ⟨_, rfl, wpAny_pure h⟩) hz)
    | exact wpAny_bind (m := Builtin.Tuple.tupleExact _) (wpAny_newObj_type (wpAny_bind (wpAny_pure (wpAny_pure ⟨_, rfl, wpAny_pure h⟩))) hz)
    | exact wpAny_bind (wpAny_bind (m := Builtin.Tuple.tupleExact _) (wpAny_newObj_type (wpAny_pure (wpAny_pure ⟨_, rfl, wpAny_pure h⟩)) hz))
    | exact wpAny_bind (wpAny_bind (m := Builtin.Tuple.tupleExact _) (wpAny_newObj_type (wpAny_pure ⟨_, rfl, wpAny_pure h⟩) hz))
end
section
variable {X : Cx}
def tRevT (K : PySem.W.Frag) (te : TE) : TE := fun σ H Q => te σ H fun x H1 => ∃ a u v, x = .ref a ∧ SqT K H1 a [u, v] ∧ ∀ p, H1 p = none → Q (.ref p) (upd H1 p (.tup [v, u]))
theorem pe_revT {e : Expr} {te : TE} {k : Nat} {p1 p2 p3 pos : Pos} (he : PE X e te) : PE X (.Subscript e (.Slice none none (some (.UnaryOp .USub (.Constant (.int 1) k p1) p2)) p3) pos) (tRevT X.K te) := by
  refine ⟨fun pins s σ H Q I h => ?_⟩
  refine Subscript_ (thn (he.run pins s σ H _ I h) fun v s1 ⟨x, H1, I1, r1, q1⟩ => ?_)
  obtain ⟨a, x0, x1, ex, hx, q⟩ := q1
  subst ex
  cases r1
  have hst : PO X (some (.UnaryOp .USub (.Constant (.int 1) k p1) p2)) (tPart (tUn (rU fun i => .int (-i)) (tC (.int 1)))) := po_some (pe_un un_neg pe_int)
  refine wpAny_Slice (thn (po_none.run pins s1 σ H1 (fun o H2 => o = none ∧ H2 = H1) I1 ⟨rfl, rfl⟩) fun vl s2 ⟨l, H2, I2, pl, el, e2⟩ => ?_)
  subst el e2
  refine thn (po_none.run pins s2 σ H2 (fun o H3 => o = none ∧ H3 = H2) I2 ⟨rfl, rfl⟩) fun vu s3 ⟨u, H3, I3, pu, eu, e3⟩ => ?_
  subst eu e3
  refine thn (hst.run pins s3 σ H3 (fun o H4 => o = some (-1) ∧ H4 = H3) I3 ⟨1, rfl, -1, rfl, rfl, rfl⟩) fun vs s4 ⟨o, H4, I4, ps, eo, e4⟩ => ?_
  subst eo e4
  cases pl
  cases pu
  cases ps with
  | int i tk =>
  have I5 : Inv X pins σ H4 { s4 with heap := s4.heap.push { cls := .type "slice", data := .fields #[.none, .none, .int (-1) tk] } } := I4.kept (t' := s4.toks) fun b ob q => Heap.get?_push_of_some _ q
  obtain ⟨its, r, ht, hz⟩ := I5.tuple hx
  obtain ⟨w0, w1, rfl, rv0, rv1⟩ := vals2 r
  show wpAny (model X.prog X.w) X.A (subscriptTail e (.Slice none none (some (.UnaryOp .USub (.Constant (.int 1) k p1) p2)) p3) (.ref a) (.ref s4.heap.objs.size)) (EP X pins σ Q) X.xe { s4 with heap := s4.heap.push { cls := .type "slice", data := .fields #[.none, .none, .int (-1) tk] } }
  refine tail_any (ops := [.ref a, .ref s4.heap.objs.size]) ht.typeIs PyProof.Rows.slot_tuple_getitem.lookup ?_ (by with_unfolding_all rfl)
  refine getItem_pair_rev ht (Heap.IsSliceOf.new _ _ _ _) ?_
  refine ⟨.ref _, _, I5.laid (t' := s4.toks) (o := .tup [x1, x0]) (fun b ob q => Heap.get?_push_of_some _ q) (Nat.le_refl _) ?_, rfl, q _ (I5.hok.fresh (Nat.le_refl _))⟩
  exact ⟨by show (2 : Nat) ≤ sizeLine; decide, _, .cons rv1 (.cons rv0 .nil), IsTup.new _ _⟩
/-! ### del d[t], the keys tuples -/
def sDDelT (td ty : TE) : TS := fun D σ H => td σ H fun x H1 => ty σ H1 fun y H2 => ∃ a kvs k b, x = .ref a ∧ H2 a = some (.dT kvs) ∧ y = .ref b ∧ H2 b = some (.tup (k.map kV)) ∧ (valV kvs k).isSome = true ∧ D.nx σ (upd H2 a (.dT (dropK kvs k)))
theorem ps_ddelT {o i : Expr} {pos tpos : Pos} {td ty : TE} (hu : X.A.units + 1 < cLine) (ho : PE X o td) (hi : PE X i ty) : PS X (.Delete [.Subscript o i tpos] pos) (sDDelT td ty) := by
  refine ⟨fun pins s σ H D I h => ?_⟩
  refine wpAny_Delete (wpAny_deleteEach_cons (wpAny_delete_Subscript (thn (ho.run pins s σ H _ I h) fun u s1 ⟨x, H1, I1, rx, q1⟩ => thn (hi.run pins s1 σ H1 _ I1 q1) fun iv s2 ⟨y, H2, I2, ry, a, kvs, k, b, ex, e, ey, eb, l, q2⟩ => ?_)))
  subst ex ey
  obtain rfl : u = Value.ref a := rx
  obtain rfl : iv = Value.ref b := ry
  obtain ⟨z, hd, xs, rel, dd⟩ := dt_of I2.hok e
  have hz : xs.length ≤ sizeLine := by rw [← Paired.length rel]; exact z
  obtain ⟨v0, ev⟩ := Option.isSome_iff_exists.mp l
  obtain ⟨w', hw, rw'⟩ := RelO.some_of (v := v0) (o := (atKey xs k).map (·.2)) (by rw [← ev]; exact rel.val k)
  obtain ⟨p, hp, hp2⟩ := Option.map_eq_some_iff.mp hw
  refine wpAny_delItem_heap (hsz := hz) (knd := tupleKind (mixKind X.prog X.w)) (tupleKind_room_in1 hu) (key_of I2.hok eb) hd dd hp fun h' dd' hs => ?_
  obtain ⟨q, es, ep, hq, h2, h3, h4, _, h5⟩ := dd'
  have I3 : Inv X pins σ (upd H2 a (.dT (dropK kvs k))) { s2 with heap := h', toks := s2.toks + (tupleKind (mixKind X.prog X.w)).draws k } :=
    d_write I2 (by rw [e]; exact True.intro) hs ⟨q, hq⟩ ⟨Nat.le_trans (dropK_le kvs k) z, hd, _, (DX.KT_drop k rel).keeps (fun c ys ec => (by rw [upd_ne (ne_of ec e (fun z => nomatch z))]; exact ec)), q, es, ep, hq, h2, h3, h4, h5⟩
  exact wpAny_deleteEach_nil ⟨σ, _, I3, q2⟩
end
end Vf

namespace Vf
open PySem L2 PySem.Spec PyProof.Rows He
theorem un65 {k : Nat} {A : Around} (r : Room k A) : A.units + 65 < cLine := by have := r.un; omega
/-! ### d.values() of a dict whose keys are tuples -/
def Itdt (d : Addr) (o : Obj) (kvs : List (List L2.Key × V)) : It :=
  ⟨fun i H => H d = some (.frz o (.dT kvs)) ∧ i < kvs.length, fun i H x H' => H' = H ∧ ∃ k, kvs[i]? = some (k, x), fun i H => H d = some (.frz o (.dT kvs)) ∧ kvs.length ≤ i⟩
theorem frzTV {X : Cx} {pins : List (Addr × Obj)} {σ : L2.St} {H : Hp} {s : Shared} {d : Addr} {o : Obj} {kvs : List (List L2.Key × V)} (I : Inv X pins σ H s) (h : H d = some (.frz o (.dT kvs))) :
    (d == sysModules) = false ∧ ∃ (es : Array DictEntry) (ep : Nat), o.data = .dict es ep ∧ s.heap.DictRaw d es ep ∧ es.size = kvs.length ∧
      ∀ (i : Nat) (k : List L2.Key) (v : V), kvs[i]? = some (k, v) → ∃ hi : i < es.size, RelV v es[i].val := by
  obtain ⟨hd, z, hs, xs, pr, o', es, ep, ho, hx, hdt, he, _⟩ := I.hok d _ h
  rw [hd] at ho
  cases ho
  have l1 : es.size = xs.length := size_of_entries he
  have l2 : kvs.length = xs.length := Paired.length pr
  refine ⟨hs, es, ep, hdt, ⟨o, hd, hx, hdt⟩, by omega, fun i k v e => ?_⟩
  obtain ⟨b, hb, e1, e2, e3⟩ := L2.paired_get pr e
  have q := entry_at he i
  rw [hb] at q
  obtain ⟨hi, q2⟩ := Array.getElem?_eq_some_iff.mp q
  exact ⟨hi, by rw [q2]; exact e3⟩
section
variable {P : Program} {w : World} {K : PySem.W.Frag} {tg : Expr} {d : Addr} {o : Obj} {es : Array DictEntry} {ep : Nat}
theorem turn_valsT {kvs : List (List L2.Key × V)} (it : Addr) (hod : o.data = .dict es ep) (hz : es.size = kvs.length) : Turn P w K tg (Itdt d o kvs) [it] it (fun i h => h.IsValIter it d i es.size ep) where
  mem := by simp
  obj := fun i h st b hb => by
    have e : b = it := by simpa using hb
    subst e
    obtain ⟨oi, e, c, dd⟩ := st
    exact ⟨oi, e, fun v z => by rw [dd] at z; cases z⟩
  keep := fun i h h' st k => st.at fun oi e => k it (by simp) oi e
  item := by
    intro X hP hw hK hc i pins s σ H E I hf st hg
    subst hP hw hK
    obtain ⟨hd, hi⟩ := hg
    obtain ⟨f0, f1, f2, f3, f4, f5⟩ := hf it (by simp)
    obtain ⟨hs, es', ep', hdt, hm, hsz, ent⟩ := frzTV I hd
    obtain ⟨rfl, rfl⟩ := dict_ep hod hdt
    obtain ⟨⟨k, v⟩, hkv⟩ : ∃ p, kvs[i]? = some p := ⟨kvs[i], List.getElem?_eq_getElem hi⟩
    obtain ⟨hi2, ru⟩ := ent i k v hkv
    refine PySem.wpAny_pyNext_values_item_raw st hm hi2 fun h' st' sb => ?_
    have I1 : Inv X pins σ H { s with heap := h' } := I.turned (t' := s.toks) (fun b ob hb e => (sb.2 b hb).trans e) f0 f1 f3 f4 f5
    obtain ⟨oi, e, c, dd⟩ := id st'
    exact ⟨_, rfl, go_of (s := { s with heap := h' }) e c dd (by decide) ⟨v, H, I1, ru, ⟨rfl, k, hkv⟩, st', fun b hb => (hf b hb).1⟩⟩
  done := by
    intro X hP hw hK hc i pins s σ H E I hf st hg
    subst hP hw hK
    obtain ⟨hd, hi⟩ := hg
    obtain ⟨f0, f1, f2, f3, f4, f5⟩ := hf it (by simp)
    obtain ⟨hs, es', ep', hdt, hm, hsz, ent⟩ := frzTV I hd
    obtain ⟨rfl, rfl⟩ := dict_ep hod hdt
    exact PySem.wpAny_pyNext_values_end_raw (I.ok.hd hc) st hm (by omega) fun h' eb => ⟨rfl, I.turned (t' := s.toks) (fun b ob hb e => eb b ob hb e) f0 f1 f3 f4 f5⟩
  self := fun A i s Q E st h => wpAny_pyIter_valiter st h
end
section
variable {X : Cx} {tg e : Expr} {td : TE} {apos cpos : Pos}
def iValsT (td : TE) : TI := fun σ H R => td σ H fun x H1 => ∃ d o kvs, x = .ref d ∧ H1 d = some (.frz o (.dT kvs)) ∧ R (Itdt d o kvs) H1
theorem pi_valuesT (he : PE X e td) (hbase : attributeBase e "values" X.env (eval e X.env) = eval e X.env := by rfl) (hline : (apos.endLine == cpos.line) = true := by rfl) : PI X tg (.Call (.Attribute e "values" apos) [] [] cpos) (iValsT td) := by
  refine ⟨fun pins s σ H R I h => ?_⟩
  refine wpAny_Call_method (T := "dict") (id := "dict.values") hbase rfl hline F.plainAttrs_dict F.slot_dict_values F.type_dict_values (thn (he.run pins s σ H _ I h) fun u s1 ⟨x, H1, I1, rx, d, o, kvs, ex, hd, q⟩ => ?_)
  subst ex
  obtain rfl : u = Value.ref d := rx
  obtain ⟨hs, es, ep, hdt, hm, hsz, ent⟩ := frzTV I1 hd
  have hnd : ∃ o, s1.heap.get? d = some o ∧ o.ExactDict := by
    obtain ⟨hd2, z, hs2, xs, pr, o', es', ep', ho, hx, _⟩ := I1.hok d _ hd
    exact ⟨o', ho, hx⟩
  obtain ⟨od, hod, hxd⟩ := hnd
  refine ⟨hm.typeIs, fun a ha => (by cases ha; exact ⟨od, hod, hxd.2.1⟩), ?_⟩
  have I2 : Inv X pins σ H1 { s1 with heap := s1.heap.push { cls := .type "dict_values", data := .fields #[.ref d] } } := I1.kept (t' := s1.toks) fun b ob q => Heap.get?_push_of_some _ q
  have fin : wpAny (model X.prog X.w) X.A (pyIter (.ref s1.heap.objs.size)) (PIE X pins σ tg R) X.xe { s1 with heap := s1.heap.push { cls := .type "dict_values", data := .fields #[.ref d] } } := by
    refine PySem.wpAny_pyIter_values_raw (d := d) (es := es) (ep := ep) ⟨_, Heap.get?_push_size _ rfl, rfl, rfl⟩ (hm.at fun _ e => Heap.get?_push_of_some _ e) (pi_one (tk := s1.toks) I2 _ (turn_valsT _ hdt hsz) ⟨_, Heap.get?_push_size _ rfl, rfl, ?_⟩ q)
    rfl
  show wpAny _ _ (callWith cpos (.builtin "dict.values") [.ref d] [] []) _ X.xe s1
  exact method_meetsIn F.slot_dict_values F.entry_dict_values rfl (PySem.evalArgs_none ⟨rfl, hm.typeIs, F.args_dict_values_1 _, _, PySem.meets_dict_values_raw d hs, ⟨es, ep, hm⟩, fin⟩)
theorem walk_valsT {kvs : List (List L2.Key × V)} {d : Addr} {o : Obj} : Walk (Itdt d o kvs) kvs.length (fun H => H d = some (.frz o (.dT kvs))) (fun i H x H' => H' = H ∧ ∃ k, kvs[i]? = some (k, x)) :=
  ⟨fun _ _ hi q => ⟨q, hi⟩, fun _ q => ⟨q, Nat.le_refl _⟩, fun _ _ _ _ _ _ y => y⟩
end
end Vf

namespace Vf
open PySem L2 PySem.Spec PyProof.Rows He
/-- a name that the top imports -/
def bfB (x : Str) (id : String) (K : PySem.W.Frag) : Bool := eqO (PySem.W.nsIn K mainGlobals x) (some (some (.builtin id)))
theorem bfB_ok {K : PySem.W.Frag} {h : Heap} {mg : Str → Option Value} (X : K.In h) (G : h.Ns mainGlobals mg) {x : Str} {id : String} (c : bfB x id K = true) : mg x = some (.builtin id) := PySem.W.mg_of X G (eqO_ok c)
/-- s.index(y), y found -/
theorem mt_idxS {X : Cx} : MtR X "str.index" (fun x xs H Q => ∃ (a b : Str) (k : Nat), x = .str a ∧ xs = [.str b] ∧ Txt.index0 a b = some k ∧ Q (.int (k : Nat)) H) := by
  intro pins s σ H x xs v us Q I rx rs h
  obtain ⟨a, b, k, rfl, rfl, hy, hq⟩ := h
  obtain ⟨t, rfl⟩ := rx
  cases rs with
  | cons r1 rs =>
    cases rs
    obtain ⟨u, rfl⟩ := r1
    cases q : Builtin.Str.occurrences a b 0 a.length 1 with
    | nil =>
      unfold Txt.index0 at hy
      rw [q] at hy
      cases hy
    | cons k' rest =>
      unfold Txt.index0 at hy
      rw [q] at hy
      cases hy
      exact PySem.SC.index q ⟨.int (k : Nat), H, I.tok _, ⟨_, rfl⟩, hq⟩
/-- reversed(range(a, b, c)) -/
def PRg3 (X : Cx) (e : Expr) (t : L2.St → Hp → (Int → Int → Int → Nat → Hp → Prop) → Prop) : Prop :=
  ∀ (pins : List (Addr × Obj)) (s : Shared) (σ : L2.St) (H : Hp) (Q : Int → Int → Int → Nat → Hp → Prop), Inv X pins σ H s → t σ H Q →
    wpAny (model X.prog X.w) X.A (eval e X.env) (fun x s' => ∃ r a b c n t u v H', x = .ref r ∧ IsRange s'.heap r a b c t u v ∧ Builtin.Range.handS_smallRev a b c = true ∧ Builtin.Range.rangeSize a b c = (n : Nat) ∧ Inv X pins σ H' s' ∧ Q a b c n H') X.xe s
def tRg3 (ta : TA) : L2.St → Hp → (Int → Int → Int → Nat → Hp → Prop) → Prop := fun σ H Q => ta σ H fun vs H1 => ∃ i j k n, vs = [.int i, .int j, .int k] ∧ RgC i j k n ∧ Builtin.Range.handS_smallRev i j k = true ∧ Q i j k n H1
theorem prg_3 {X : Cx} {a b c : Expr} {ta : TA} {p pos : Pos} (hg : Gl X "range") (hm : X.mg "range" = none) (ha : PA X [a, b, c] ta)
    (hs : starEach [a, b, c] X.env = (false, eval a X.env) :: starEach [b, c] X.env := by rfl) (hpl : (backTo pos (starEach [b, c] X.env)).any (·.1) = false := by rfl) : PRg3 X (.Call (.Name "range" p) [a, b, c] [] pos) (tRg3 ta) := by
  intro pins s σ H Q I h
  refine Call_ (ld_blt I hg hm boot_range (PyProof.Rows.callWith_type1 (thn (ha.run pos pins s σ H _ I h) fun us s1 ⟨vs, H1, I1, r1, q1⟩ => ?_) hs hpl))
  obtain ⟨i, j, k, n, e, ⟨c0, c1, c2, c3⟩, hr, q⟩ := q1
  subst e
  cases r1 with
  | cons r rr =>
    cases rr with
    | cons r' rr =>
      cases rr with
      | cons r'' rr =>
        cases rr
        obtain ⟨t, rfl⟩ := r
        obtain ⟨t', rfl⟩ := r'
        obtain ⟨t'', rfl⟩ := r''
        exact call_range_3 c0 ⟨_, i, j, k, n, _, _, _, H1, rfl, IsRange.new .., hr, c3, I1.kept fun b u e => Heap.get?_push_of_some _ e, q⟩ (.inl (PyProof.noPylong_small c1))
def iRevR3 (tr : L2.St → Hp → (Int → Int → Int → Nat → Hp → Prop) → Prop) : TI := fun σ H R => tr σ H fun a _ c n H1 => R (Itc (a + ((n : Int) - 1) * c) (-c) n) H1
theorem pi_revR3 {X : Cx} {tg e : Expr} {tr : L2.St → Hp → (Int → Int → Int → Nat → Hp → Prop) → Prop} {p pos : Pos} (hg : Gl X "reversed") (hm : X.mg "reversed" = none) (he : PRg3 X e tr) (hs : starEach [e] X.env = (false, eval e X.env) :: starEach [] X.env := by rfl) :
    PI X tg (.Call (.Name "reversed" p) [e] [] pos) (iRevR3 tr) := by
  refine ⟨fun pins s σ H R I h => ?_⟩
  refine Call_ (ld_blt I hg hm PyProof.Rows.boot_reversed (PyProof.Rows.callWith_type1 (args_cons (thn (he pins s σ H _ I h) fun u s1 hx => args_nil ?_) hs) hs rfl))
  obtain ⟨r, a, b, c, n, t, w1, v, H1, eu, hr, hsm, hn, I1, q⟩ := hx
  subst eu
  refine call_reversed_range hr hsm (wpAny_pyIter_rangeiter (Heap.get?_push_size _ rfl) ?_)
  refine pi_one (tk := s1.toks) I1 _ (turn_rangeC _ (a + ((n : Int) - 1) * c) (-c) n) ?_ q
  have e1 : a + ((n : Int) - 1) * c + ((0 : Nat) : Int) * (-c) = a + (Builtin.Range.rangeSize a b c - 1) * c := by
    rw [hn]
    show _ + (0 : Int) * (-c) = _
    rw [Int.zero_mul, Int.add_zero]
  have e2 : (n : Int) - ((0 : Nat) : Int) = Builtin.Range.rangeSize a b c := by rw [hn]; omega
  show IsRangeIter _ _ (a + ((n : Int) - 1) * c + ((0 : Nat) : Int) * (-c)) ((n : Int) - ((0 : Nat) : Int)) (-c)
  rw [e1, e2]
  exact Heap.get?_push_size _ rfl
theorem pi_tupK {X : Cx} {tg e : Expr} {te : TE} (K : PySem.W.Frag) (h : PE X e te) (hK : X.K = K := by rfl) : PI X tg e (iTup K te) := hK ▸ pi_tup h
theorem pi_listK {X : Cx} {tg e : Expr} {te : TE} (K : PySem.W.Frag) (h : PE X e te) (hK : X.K = K := by rfl) : PI X tg e (iList K te) := hK ▸ pi_list h
end Vf

namespace Vf
open PySem L2 PySem.Spec PyProof.Rows
/-! ### max(xs, key=f): xs a list of references, f an own def whose answers are data of one form -/
theorem run_in {X : Cx} {k : Nat} {f : Addr} {fd : FuncData} {ps : List Str} {sp : Sp} (F : FnOk X.prog X.w X.K X.mg X.base CX0 k f fd ps sp) (hb : Binds X.K fd ps []) {B : Around} (hr : Room k B) (hB : B.frames = X.A.frames)
    {pins : List (Addr × Obj)} {σ : L2.St} {H : Hp} {s : Shared} (I : Inv X pins σ H s) {vs : List V} {us : List Value} (r : Vals vs us) {Q : VK} (h : sp vs H Q E0) {T E : Value → Shared → Prop}
    (hT : ∀ u s', EP X pins σ Q u s' → T u s') : wpAny (model X.prog X.w) B (call (.ref f) us) T E s := by
  have hl : us.length = ps.length := by rw [← r.length]; exact F.len _ _ _ _ h
  have e0 : Env0 X.prog X.w X.K X.mg X.base B X.stack s H := by
    have e := I.env0
    exact ⟨hB.trans e.frames, e.mod, e.bs, e.bsz, e.funs, e.frf, e.hok, e.bare⟩
  have b0 := hb s us I.kIn (by rw [List.append_nil]; exact hl)
  rw [List.append_nil] at b0
  refine wpAny_call (codeAny_mono (F.run B X.stack s H ⟨us, []⟩ us vs Q E0 hr e0 b0 r h) fun r s' hq => ?_)
  cases r with
  | error e => exact False.elim hq
  | ok fl =>
    cases fl with
    | ret u => exact hT u s' (I.after hq)
    | next => exact False.elim hq
    | brk => exact False.elim hq
    | cont => exact False.elim hq
structure MxK (K : PySem.W.Frag) (sp : Sp) (a : Addr) (ps : List Addr) (kd : Nat → PyData) (J : Hp → Prop) : Prop where
  lst : ∀ H, J H → SqL K H a (ps.map V.ref)
  turn : ∀ i p H, ps[i]? = some p → J H → sp [.ref p] H (fun y H' => J H' ∧ (∀ z d, Dp K H z d → Dp K H' z d) ∧ Dp K H' y (kd i)) E0
  alk : ∀ i j, i < ps.length → j < ps.length → PySem.W.alike (kd i) (kd j) = true
  nn : ∀ i, i < ps.length → kd i ≠ .none
  dep : ∀ i, i < ps.length → (kd i).depth ≤ 60
abbrev mxB (kd : Nat → PyData) (i j : Nat) : Bool := PySem.W.dataLt (kd j) (kd i)
theorem argBest_lt (bt : Nat → Nat → Bool) : ∀ j, argBest bt j ≤ j
  | 0 => Nat.le_refl _
  | j + 1 => by
    have ih := argBest_lt bt j
    show (if bt (j + 1) (argBest bt j) = true then j + 1 else argBest bt j) ≤ j + 1
    split <;> omega
def mxS (v : Value) (kb : Value) (c : Nat) : Obj := { cls := .type "list", dict := none, data := .seq #[v, kb] c, slots := #[] }
structure MxSt (X : Cx) (pins : List (Addr × Obj)) (σ : L2.St) (a : Addr) (ps : List Addr) (kd : Nat → PyData) (J : Hp → Prop) (S it : Addr) (j : Nat) (s : Shared) : Prop where
  ex : ∃ (H : Hp) (y : V) (kb : Value) (c : Nat) (p : Addr), Inv X pins σ H s ∧ J H ∧ RelV y kb ∧ Dp X.K H y (kd (argBest (mxB kd) j)) ∧ ps[argBest (mxB kd) j]? = some p ∧ (FpOk X pins H S ∧ FpOk X pins H it) ∧ S ≠ it ∧
    s.heap.get? S = some (mxS (.ref p) kb c) ∧ s.heap.IsListIter it a (j + 1)
section
variable {X : Cx} {k : Nat} {f a : Addr} {fd : FuncData} {nm : List Str} {sp : Sp} {pins : List (Addr × Obj)} {σ : L2.St} {ps : List Addr} {kd : Nat → PyData} {J : Hp → Prop} {S it : Addr} {R : Result → Shared → Prop}
theorem fp_at {H H' : Hp} {b : Addr} (h : FpOk X pins H b) (n : H' b = none) : FpOk X pins H' b := ⟨n, h.2⟩
theorem iter_nocell {h : Heap} {it a : Addr} {i : Nat} (st : h.IsListIter it a i) : ∃ o, h.get? it = some o ∧ ∀ v, o.data ≠ .cell v := by
  obtain ⟨o, e, c, d⟩ := st
  exact ⟨o, e, fun v z => by rw [d] at z; cases z⟩
/-- f at the item, S and the iterator held -/
theorem mx_turn (F : FnOk X.prog X.w X.K X.mg X.base CX0 k f fd nm sp) (hb : Binds X.K fd nm []) (hr : Room (k + 1) X.A) (M : MxK X.K sp a ps kd J) {H : Hp} {s : Shared} {i m : Nat} {p : Addr} {o : Obj} (hp : ps[i]? = some p) (I : Inv X pins σ H s) (hJ : J H)
    (fS : FpOk X pins H S) (fI : FpOk X pins H it) (hS : s.heap.get? S = some o) (hoc : ∀ v, o.data ≠ .cell v) (st : s.heap.IsListIter it a m) {T E : Value → Shared → Prop}
    (hT : ∀ u s' H' y, Inv X pins σ H' s' → J H' → RelV y u → Dp X.K H' y (kd i) → (∀ z d, Dp X.K H z d → Dp X.K H' z d) → FpOk X pins H' S → FpOk X pins H' it → s'.heap.get? S = some o → s'.heap.IsListIter it a m → T u s') :
    wpAny (model X.prog X.w) X.A.in1 (call (.ref f) [.ref p]) T E s := by
  have I' : Inv X (pins ++ pinsAt [S, it] s.heap) σ H s := I.pinned (fp := [S, it]) (fun b hb' => by
      rcases List.mem_cons.mp hb' with e | hb'
      · rw [e]; exact fS
      · rw [List.mem_singleton.mp hb']; exact fI) (fun b hb' => by
      rcases List.mem_cons.mp hb' with e | hb'
      · rw [e]; exact ⟨o, hS, hoc⟩
      · rw [List.mem_singleton.mp hb']; exact iter_nocell st)
  refine run_in F hb hr.in1 rfl I' (vs := [.ref p]) (.cons rfl .nil) (M.turn i p H hp hJ) fun u s' q => ?_
  obtain ⟨y, H', I2, ry, j2, dk, dy⟩ := q
  obtain ⟨oi, hi, ci⟩ := iter_nocell st
  have pS := I2.pin (S, o) (List.mem_append_right _ (List.mem_append_right _ (mem_pinsAt (by simp) hS)))
  have pI := I2.pin (it, oi) (List.mem_append_right _ (List.mem_append_right _ (mem_pinsAt (by simp) hi)))
  refine hT u s' H' y I2.unpinned j2 ry dy dk (fp_at fS pS.2.1) (fp_at fI pI.2.1) pS.1 (st.at fun o' e => ?_)
  rw [hi] at e
  cases e
  exact pI.1
theorem mx_loop (F : FnOk X.prog X.w X.K X.mg X.base CX0 k f fd nm sp) (hb : Binds X.K fd nm []) (hr : Room (k + 1) X.A) (M : MxK X.K sp a ps kd J) (kw : List (Str × Value)) :
    ∀ (m j : Nat) (s : Shared), ps.length - (j + 1) = m → j + 1 ≤ ps.length → MxSt X pins σ a ps kd J S it j s →
    (∀ (H' : Hp) (s' : Shared) (p : Addr), Inv X pins σ H' s' → J H' → ps[argBest (mxB kd) (ps.length - 1)]? = some p → R (.ok (.ret (.ref p))) s') → codeAny (model X.prog X.w) X.A (.builtin "max.loop" ⟨[.ref it, .ref f, .ref S], kw⟩) R s := by
  have hname : (toString "max" ++ toString ".loop" : String) = "max.loop" := by decide
  intro m
  induction m with
  | zero =>
    intro j s hm hj ⟨H, y, kb, c, p, I, hJ, ry, dy, hp, ⟨fS, fI⟩, ne, hS, st⟩ hR
    obtain ⟨its, rv, pl, hz⟩ := I.list (M.lst H hJ)
    have hl := rv.length
    rw [List.length_map] at hl
    refine codeAny_builtin PySem.F.entry_max_loop ?_
    rw [Around.under_plainId PySem.F.plain_max_loop _]
    show wpAny _ X.A.in1 (seqItems? (.ref S) >>= _) _ _ s
    refine wpAny_bind (wpAny_seqItems hS rfl ?_)
    refine wpAny_bind (wpAny_tryCatch ?_)
    refine wpAny_pyNext_list_end hr.hd st pl.isList (by simp; omega) fun h' eb => ?_
    have I1 : Inv X pins σ H { s with heap := h' } := I.turned (t' := s.toks) (fun b o hb e => eb b o hb e) fI.1 fI.2.1 fI.2.2.2.1 fI.2.2.2.2.1 fI.2.2.2.2.2
    have hS' : ({ s with heap := h' } : Shared).heap.get? S = some (mxS (.ref p) kb c) := eb S _ ne hS
    show wpAny _ X.A.in1 (updateSeq S (fun _ => #[]) >>= _) _ _ _
    refine wpAny_bind (wpAny_updateSeq hS' rfl (wpAny_bind (wpAny_letGo (wpAny_pure ?_))))
    have I2 := I1.turned (it := S) (t' := s.toks) (h' := h'.update S (Obj.mapSeq fun _ => #[])) (fun b o hb e => (Heap.get?_update_other _ _ (Ne.symm hb)).trans e) fS.1 fS.2.1 fS.2.2.2.1 fS.2.2.2.2.1 fS.2.2.2.2.2
    refine hR H _ p I2 hJ ?_
    rw [show ps.length - 1 = j from by omega]
    exact hp
  | succ m ih =>
    intro j s hm hj ⟨H, y, kb, c, p, I, hJ, ry, dy, hp, ⟨fS, fI⟩, ne, hS, st⟩ hR
    obtain ⟨its, rv, pl, hz⟩ := I.list (M.lst H hJ)
    have hlt : j + 1 < ps.length := by omega
    have hx : ps[j + 1]? = some ps[j + 1] := List.getElem?_eq_getElem hlt
    obtain ⟨u, hu, ru⟩ := rv.get (i := j + 1) (x := .ref ps[j + 1]) (by rw [List.getElem?_map, hx]; rfl)
    cases ru
    generalize ps[j + 1] = q at hx hu
    refine codeAny_builtin PySem.F.entry_max_loop ?_
    rw [Around.under_plainId PySem.F.plain_max_loop _]
    show wpAny _ X.A.in1 (seqItems? (.ref S) >>= _) _ _ s
    refine wpAny_bind (wpAny_seqItems hS rfl ?_)
    refine wpAny_bind (wpAny_tryCatch ?_)
    refine wpAny_pyNext_list_item st pl.isList (x := .ref q) (by simpa using hu) fun h' st' sb => ?_
    have I1 : Inv X pins σ H { s with heap := h' } := I.turned (t' := s.toks) (fun b o hb e => (sb.2 b hb).trans e) fI.1 fI.2.1 fI.2.2.2.1 fI.2.2.2.2.1 fI.2.2.2.2.2
    have hS' : ({ s with heap := h' } : Shared).heap.get? S = some (mxS (.ref p) kb c) := (sb.2 S ne).trans hS
    refine wpAny_bind (wpAny_tryCatch (wpAny_holding (mx_turn F hb hr M hx I1 hJ fS fI hS' (fun v z => nomatch z) st' fun kx s2 H2 y2 I2 j2 ry2 dy2 dk fS2 fI2 hS2 st2 => ?_)))
    have dy3 := dk _ _ dy
    have hbl := argBest_lt (mxB kd) j
    obtain ⟨as1, r1⟩ := Dp.reads I2 _ _ _ dy2 ry2
    obtain ⟨as2, r2⟩ := Dp.reads I2 _ _ _ dy3 ry
    refine wpAny_bind (wpAny_tryCatch (wpAny_holding (wpAny_bind (PySem.W.gt_data r1 r2 (M.alk _ _ hlt (by omega)) (M.nn _ hlt) (by
      have h1 := Nat.min_le_left (kd (j + 1)).depth (kd (argBest (mxB kd) j)).depth
      have h2 := M.dep _ hlt
      have h3 := hr.un
      show X.A.units + 1 + _ < _
      omega) ?_))))
    refine wpAny_bind (wpAny_holding (wpAny_truthy_bool ?_))
    refine wpAny_bind (wpAny_letGo (wpAny_pure ?_))
    have eB : argBest (mxB kd) (j + 1) = if PySem.W.dataLt (kd (argBest (mxB kd) j)) (kd (j + 1)) = true then j + 1 else argBest (mxB kd) j := rfl
    cases hcmp : PySem.W.dataLt (kd (argBest (mxB kd) j)) (kd (j + 1)) with
    | true =>
      rw [hcmp, if_pos rfl] at eB
      simp only [if_true]
      refine wpAny_bind (wpAny_updateSeq hS2 rfl (wpAny_bind (wpAny_letGo ?_)))
      rw [hname]
      refine wpAny_pure ⟨plainId_quiet PySem.F.plain_max_loop _, ih (j + 1) _ (by omega) hlt ⟨H2, y2, kx, c, q, ?_, j2, ry2, by rw [eB]; exact dy2, by rw [eB]; exact hx, ⟨fS2, fI2⟩, ne, ?_, st2.at fun o e => ?_⟩ hR⟩
      · exact I2.turned (it := S) (t' := s2.toks) (fun b o hb e => (Heap.get?_update_other _ _ (Ne.symm hb)).trans e) fS2.1 fS2.2.1 fS2.2.2.2.1 fS2.2.2.2.2.1 fS2.2.2.2.2.2
      · exact Heap.get?_update_self _ hS2 rfl
      · exact (Heap.get?_update_other _ _ ne).trans e
    | false =>
      rw [hcmp, if_neg Bool.false_ne_true] at eB
      simp only [Bool.false_eq_true, if_false]
      refine wpAny_bind (wpAny_letGo ?_)
      rw [hname]
      exact wpAny_pure ⟨plainId_quiet PySem.F.plain_max_loop _, ih (j + 1) _ (by omega) hlt ⟨H2, y, kb, c, p, I2, j2, ry, by rw [eB]; exact dy3, by rw [eB]; exact hp, ⟨fS2, fI2⟩, ne, hS2, st2⟩ hR⟩
end
section
variable {X : Cx} {k : Nat} {f a : Addr} {fd : FuncData} {nm : List Str} {sp : Sp} {pins : List (Addr × Obj)} {σ : L2.St} {ps : List Addr} {kd : Nat → PyData} {J : Hp → Prop}
theorem mx_start (F : FnOk X.prog X.w X.K X.mg X.base CX0 k f fd nm sp) (hb : Binds X.K fd nm []) (hr : Room (k + 1) X.A) (M : MxK X.K sp a ps kd J) {S it : Addr} {R : Result → Shared → Prop} (kw : List (Str × Value)) (hn : 0 < ps.length) {H : Hp} {s : Shared} {c : Nat} (I : Inv X pins σ H s) (hJ : J H)
    (fS : FpOk X pins H S) (fI : FpOk X pins H it) (ne : S ≠ it) (hS : s.heap.get? S = some { cls := .type "list", dict := none, data := .seq #[] c, slots := #[] }) (st : s.heap.IsListIter it a 0)
    (hR : ∀ (H' : Hp) (s' : Shared) (p : Addr), Inv X pins σ H' s' → J H' → ps[argBest (mxB kd) (ps.length - 1)]? = some p → R (.ok (.ret (.ref p))) s') : codeAny (model X.prog X.w) X.A (.builtin "max.loop" ⟨[.ref it, .ref f, .ref S], kw⟩) R s := by
  have hname : (toString "max" ++ toString ".loop" : String) = "max.loop" := by decide
  obtain ⟨its, rv, pl, hz⟩ := I.list (M.lst H hJ)
  have hx : ps[0]? = some ps[0] := List.getElem?_eq_getElem hn
  obtain ⟨u, hu, ru⟩ := rv.get (i := 0) (x := .ref ps[0]) (by rw [List.getElem?_map, hx]; rfl)
  cases ru
  generalize ps[0] = q at hx hu
  refine codeAny_builtin PySem.F.entry_max_loop ?_
  rw [Around.under_plainId PySem.F.plain_max_loop _]
  show wpAny _ X.A.in1 (seqItems? (.ref S) >>= _) _ _ s
  refine wpAny_bind (wpAny_seqItems hS rfl ?_)
  refine wpAny_bind (wpAny_tryCatch ?_)
  refine wpAny_pyNext_list_item st pl.isList (x := .ref q) (by simpa using hu) fun h' st' sb => ?_
  have I1 : Inv X pins σ H { s with heap := h' } := I.turned (t' := s.toks) (fun b o hb e => (sb.2 b hb).trans e) fI.1 fI.2.1 fI.2.2.2.1 fI.2.2.2.2.1 fI.2.2.2.2.2
  have hS' : ({ s with heap := h' } : Shared).heap.get? S = some { cls := .type "list", dict := none, data := .seq #[] c, slots := #[] } := (sb.2 S ne).trans hS
  refine wpAny_bind (wpAny_tryCatch (wpAny_holding (mx_turn F hb hr M hx I1 hJ fS fI hS' (fun v z => nomatch z) st' fun kx s2 H2 y2 I2 j2 ry2 dy2 dk fS2 fI2 hS2 st2 => ?_)))
  refine wpAny_bind (wpAny_updateSeq hS2 rfl ?_)
  rw [hname]
  refine wpAny_pure ⟨plainId_quiet PySem.F.plain_max_loop _, mx_loop F hb hr M kw _ 0 _ rfl hn ⟨H2, y2, kx, c + 1, q, ?_, j2, ry2, dy2, hx, ⟨fS2, fI2⟩, ne, ?_, st2.at fun o e => ?_⟩ hR⟩
  · exact I2.turned (it := S) (t' := s2.toks) (fun b o hb e => (Heap.get?_update_other _ _ (Ne.symm hb)).trans e) fS2.1 fS2.2.1 fS2.2.2.2.1 fS2.2.2.2.2.1 fS2.2.2.2.2.2
  · exact Heap.get?_update_self _ hS2 rfl
  · exact (Heap.get?_update_other _ _ ne).trans e
/-- the best of a row, the first of equals -/
abbrev mxI (kd : Nat → PyData) (n : Nat) : Nat := argBest (mxB kd) (n - 1)
def rMaxF (K : PySem.W.Frag) (sp : Sp) : List V → Hp → VK → Prop := fun vs H Q => ∃ (a : Addr) (ps : List Addr) (kd : Nat → PyData) (J : Hp → Prop), vs = [.ref a] ∧ 0 < ps.length ∧ J H ∧ MxK K sp a ps kd J ∧
  ∀ H' p, J H' → ps[mxI kd ps.length]? = some p → Q (.ref p) H'
theorem cr_maxF (F : FnOk X.prog X.w X.K X.mg X.base CX0 k f fd nm sp) (hb : Binds X.K fd nm []) (hr : Room (k + 1) X.A) : CallRK X (.builtin "max") [Str.ofString "key"] (fun vs zs H Q => zs = [.ref f] ∧ rMaxF X.K sp vs H Q) := by
  intro pins s σ H vs zs us ws Q I r rz hq
  obtain ⟨rfl, a, ps, kd, J, rfl, hn, hJ, M, q⟩ := hq
  obtain rfl := Vals.ref1 r
  obtain ⟨w1, rfl, e1⟩ := vals1 rz
  obtain rfl : w1 = Value.ref f := e1
  have hname : (toString "max" ++ toString ".loop" : String) = "max.loop" := by decide
  refine PyProof.Rows.kmk_tree PySem.F.kind_max PySem.F.plain_max PySem.F.entry_max (PyProof.Rows.kmk_max_key _ _) ?_
  refine wpAny_bind (wpAny_of_eq (a := [some (.ref f), none]) (by rfl) ?_)
  refine wpAny_bind (wpAny_pure ?_)
  obtain ⟨its, rv, pl, hz⟩ := I.list (M.lst H hJ)
  refine wpAny_bind (wpAny_pyIter_list pl.isList ?_)
  have I1 : Inv X pins σ H { s with heap := s.heap.push { cls := .type "list_iterator", data := .fields #[.ref a, .int 0 0] } } := I.kept (t' := s.toks) fun b o e => Heap.get?_push_of_some _ e
  have fI : FpOk X pins H s.heap.objs.size := I.fpOk (Nat.le_refl _) (I.hok.fresh (Nat.le_refl _))
  have st0 : ({ s with heap := s.heap.push { cls := .type "list_iterator", data := .fields #[.ref a, .int 0 0] } } : Shared).heap.IsListIter s.heap.objs.size a 0 := ⟨_, Heap.get?_push_size _ rfl, rfl, rfl⟩
  generalize hs1 : ({ s with heap := s.heap.push { cls := .type "list_iterator", data := .fields #[.ref a, .int 0 0] } } : Shared) = s1 at I1 st0 ⊢
  have sz1 : s1.heap.objs.size = s.heap.objs.size + 1 := by rw [← hs1]; exact size_push' ..
  have fS : FpOk X pins H s1.heap.objs.size := I1.fpOk (Nat.le_refl _) (I1.hok.fresh (Nat.le_refl _))
  refine wpAny_bind (wpAny_newObj_type ?_)
  rw [hname]
  have I2 : Inv X pins σ H { s1 with heap := s1.heap.push { cls := .type "list", data := .seq #[] 0 } } := I1.kept (t' := s1.toks) fun b o e => Heap.get?_push_of_some _ e
  exact wpAny_pure ⟨plainId_quiet PySem.F.plain_max_loop _, mx_start F hb hr M _ hn I2 hJ fS fI (fun z => by rw [sz1] at z; exact absurd z (Nat.succ_ne_self _)) (Heap.get?_push_size _ rfl) (st0.at fun o e => Heap.get?_push_of_some _ e) fun H' s' p I' hJ' hp => ⟨.ref p, H', I', rfl, q H' p hJ' hp⟩⟩
end
def tMaxF (K : PySem.W.Frag) (sp : Sp) (ta : TA) : TE := fun σ H Q => ta σ H fun vs H1 => rMaxF K sp vs H1 Q
theorem pe_maxF {X : Cx} {k j : Nat} {x : Str} {sp : Sp} {p p2 p3 pos : Pos} {e : Expr} {t : TA} (c : Cal X.prog X.w X.K X.mg X.base k x sp) (hr : Room j X.A) (hk : k + 1 ≤ j) (hg : Gl X "max") (hm : X.mg "max" = none) (hgx : Gl X x) (ha : PA X [e] t)
    (hdb : (x == ("__debug__" : Str)) = false := by decide)
    (he : backTo pos (starEach [e] X.env) = (false, eval e X.env) :: backTo pos (starEach [] X.env) := by rfl) (hpl : (backTo pos (starEach [e] X.env)).any (·.1) = false := by rfl)
    (hall : (backToKw pos (keywordEach [⟨some "key", .Name x p2, p3⟩] X.env)).all (·.1.isSome) = true := by rfl) (hnone : (backToKw pos (keywordEach [⟨some "key", .Name x p2, p3⟩] X.env)).any (·.1.isNone) = false := by rfl) (hks : (backToKw pos (keywordEach [⟨some "key", .Name x p2, p3⟩] X.env)).filterMap (·.1) = [Str.ofString "key"] := by rfl) :
    PE X (.Call (.Name "max" p) [e] [⟨some "key", .Name x p2, p3⟩] pos) (tMaxF X.K sp t) := by
  obtain ⟨f, fd, ps, F, hmx, hkp, hb⟩ := c.ex
  refine ⟨fun pins s σ H Q I h => ?_⟩
  refine wpAny_Call_Name_kw (ld_blt I hg hm (u := .builtin "max") (by first | rfl | decide +kernel) ?_ (by decide) (by decide))
  refine PyProof.Rows.callWith_kw (thn (ha.run pos pins s σ H _ I h) fun us s1 ⟨vs, H1, I1, r1, q1⟩ => thn ((pk_cons (pe_glob (v := .ref f) hgx hmx rfl hdb) pk_nil).run pos pins s1 σ H1 (fun zs H2 => zs = [V.ref f] ∧ rMaxF X.K sp vs H2 Q) I1 ⟨rfl, q1⟩) fun ws s2 ⟨zs, H2, I2, r2, q2⟩ => ?_) he hpl hall hnone
  rw [hks]
  exact cr_maxF F hb (hr.mono hk) pins s2 σ H2 vs zs us ws Q I2 r1 r2 q2
end Vf

namespace Vf
open PySem L2 PySem.Spec PyProof.Rows He
/-! ### a written tuple, known to be a plain one -/
def tTupP (t : TA) : TE := fun σ H Q => t σ H fun xs H1 => xs.length ≤ sizeLine ∧ ∀ p H', H1 p = none → Same H1 H' → PlT H' p xs → (∀ b, b ≠ p → H' b = H1 b) → Q (.ref p) H'
theorem pe_tupP {X : Cx} {es : List Expr} {x1} {pos : Pos} {t : TA} (h : PA X es t) : PE X (.Tuple es x1 pos) (tTupP t) := by
  refine ⟨fun pins s σ H Q I hq => ?_⟩
  refine wpAny_Tuple_spliced (thn (h.run pos pins s σ H _ I hq) fun us s1 ⟨xs, H1, I1, r, z, q⟩ => ⟨by rw [← r.length]; exact z, ?_⟩)
  have hf : H1 s1.heap.objs.size = none := I1.hok.fresh (Nat.le_refl _)
  have J : Inv X pins σ (upd H1 s1.heap.objs.size (.frz { cls := .type "tuple", data := .seq us.toArray } (.tup xs))) { s1 with heap := s1.heap.push { cls := .type "tuple", data := .seq us.toArray } } :=
    I1.laid (t' := s1.toks) (fun b u e => Heap.get?_push_of_some _ e) (Nat.le_refl _) ⟨Heap.get?_push_size _ rfl, z, us, r, ⟨_, Heap.get?_push_size _ rfl, rfl, _, rfl⟩⟩
  exact ⟨.ref s1.heap.objs.size, _, J, rfl, q _ _ hf (same_new hf) ⟨_, rfl, upd_same⟩ fun b hb => upd_ne hb⟩
theorem e_tupP {t : TA} {σ : L2.St} {H : Hp} {Q : VK} (q : t σ H fun xs H1 => xs.length ≤ sizeLine ∧ ∀ p H', H1 p = none → Same H1 H' → PlT H' p xs → (∀ b, b ≠ p → H' b = H1 b) → Q (.ref p) H') : tTupP t σ H Q := q
/-! ### an own class beside lists -/
def clsLB (x : Str) (K : PySem.W.Frag) : Bool := decide (PySem.W.kitOne K (.type "list") (.ref (ga K x)) = some false) && PySem.W.notFirst K (ga K x) (.type "list")
structure ClsL (K : PySem.W.Frag) (x : Str) : Prop where
  lst : PySem.W.kitOne K (.type "list") (.ref (ga K x)) = some false
  nf : PySem.W.notFirst K (ga K x) (.type "list") = true
theorem clsLB_ok {x : Str} {K : PySem.W.Frag} (c : clsLB x K = true) : ClsL K x := by
  unfold clsLB at c
  obtain ⟨c1, c2⟩ := ba c
  exact ⟨of_decide_eq_true c1, c2⟩
/-- x == y, x an instance with its own __eq__; y one too, a tuple or a list -/
def rEqOL (K : PySem.W.Frag) (C : Addr) (sp : Sp) (E : XK) : R2 := fun x y H Q => ∃ (a b dx : Addr) (fs : List (Str × V)), x = .ref a ∧ y = .ref b ∧ H a = some (.ins C dx fs) ∧
  ((∃ (dy : Addr) (gs : List (Str × V)), H b = some (.ins C dy gs)) ∨ (PySem.W.notFirst K C (.type "tuple") = true ∧ ∃ ys, SqT K H b ys) ∨ (PySem.W.notFirst K C (.type "list") = true ∧ ∃ ys, SqL K H b ys)) ∧ sp [x, y] H (fun z H' => ∃ t, z = .bl t ∧ Q z H') E
theorem op_eqOwnL {X : Cx} {CX : CXT} {C f : Addr} {fd : FuncData} {ps : List Str} {sp : Sp} {E : XK} {n : Nat} (F : FnOk X.prog X.w X.K X.mg X.base CX n f fd ps sp)
    (hs : PySem.W.findIn X.K (.ref C) "__eq__" = some (some (.ref f))) (hf : PySem.W.isFn X.K (.ref f) = true) (hb : Binds X.K fd ps []) (hx : Passes CX X E) (hr : Room n X.A) : OpR X (compareOp .Eq) (rEqOL X.K C sp E) := by
  intro pins s σ H x y v u Q I rx ry q
  obtain ⟨a, b, dx, fs, rfl, rfl, ha, hy, hsp⟩ := q
  cases rx
  cases ry
  obtain ⟨mA, J, _⟩ := ins_get I.hok ha
  obtain ⟨od, J, _⟩ := J.look
  obtain ⟨m, hF⟩ := I.fr
  have go : ∀ tb : Value, PySem.W.Looks (model X.prog X.w) s.heap (typeOf (.ref b)) tb → PySem.W.notFirst X.K C tb = true → wpAny (model X.prog X.w) X.A (richCompare .Eq (.ref a) (.ref b)) (EP X pins σ Q) X.xe s := fun tb ht hn => by
    refine PySem.W.cmp_K (op := .Eq) (tb := tb) hr.units0 hF I.ok.mod.kin J ht hn hs hf ?_
    have hl := F.len _ _ _ _ hsp
    have r2 : Vals [V.ref a, V.ref b] [Value.ref a, Value.ref b] := .cons rfl (.cons rfl .nil)
    refine wpAny_call (codeAny_mono (F.run X.A X.stack s H ⟨[.ref a, .ref b], []⟩ [.ref a, .ref b] [.ref a, .ref b] _ E hr I.env0 (by
      have := hb s [.ref a, .ref b] I.kIn (by simpa using hl)
      simpa using this) r2 hsp) fun r s' hq => ?_)
    cases r with
    | error e => exact hx pins σ H s e s' I hq
    | ok fl =>
      cases fl with
      | ret w =>
        obtain ⟨z, H', I', rz, t, ez, hQ⟩ := I.after hq
        subst ez
        cases rz
        exact ⟨.bl t, H', I', rfl, hQ⟩
      | next => exact False.elim hq
      | brk => exact False.elim hq
      | cont => exact False.elim hq
  rcases hy with ⟨dy, gs, hy⟩ | ⟨hn, ys, hy⟩ | ⟨hn, ys, hy⟩
  · obtain ⟨mB, J', _⟩ := ins_get I.hok hy
    obtain ⟨od', J', _⟩ := J'.look
    exact go (.ref C) J'.type (by simp [PySem.W.notFirst])
  · obtain ⟨its, rv, ⟨o, ho, hc, _⟩, _⟩ := I.tuple hy
    exact go (.type "tuple") (fun A Q E s' k z => wpAny_typeOf (T := "tuple") ⟨o, k _ _ ho, hc⟩ z) hn
  · obtain ⟨its, rv, ⟨o, n, ho, hc, _⟩, _⟩ := I.list hy
    exact go (.type "list") (fun A Q E s' k z => wpAny_typeOf (T := "list") ⟨o, k _ _ ho, hc⟩ z) hn
theorem op_eqCL {X : Cx} {k j : Nat} {x : Str} {sp : Sp} (c : EqC X.prog X.w X.K X.mg X.base k x sp) (hr : Room j X.A) (hk : k ≤ j) : OpR X (compareOp .Eq) (rEqOL X.K (ga X.K x) sp E0) := by
  obtain ⟨f, fd, ps, F, hs, hf, hb⟩ := c.ex
  exact op_eqOwnL F hs hf hb pass0 (hr.mono hk)
/-! ### xs != ys, lists of the same objects -/
def rNeR (K : PySem.W.Frag) : R2 := fun x y H Q => ∃ (a b : Addr) (ps : List Addr), x = .ref a ∧ y = .ref b ∧ SqL K H a (ps.map V.ref) ∧ SqL K H b (ps.map V.ref) ∧ Q (.bl false) H
theorem op_neR {X : Cx} {k : Nat} (hr : Room k X.A) : OpR X (compareOp .NotEq) (rNeR X.K) := by
  intro pins s σ H x y v u Q I rx ry q
  obtain ⟨a, b, ps, rfl, rfl, ha, hb, q⟩ := q
  cases rx
  cases ry
  obtain ⟨its, rv, pl, _⟩ := I.list ha
  obtain ⟨its2, rv2, pl2, _⟩ := I.list hb
  have e1 := refs_of rv
  have e2 := refs_of rv2
  subst e1 e2
  have h := SeqAt.RcNeAt.lists (A := X.A) (s := s) (e := fun _ => true) pl.isList pl2.isList rfl hr.units0 fun j h1 h2 => SeqAt.EqAt.same _
  have e0 : ((List.range (ps.map Value.ref).toArray.size).all fun _ => true) = true := List.all_eq_true.mpr fun _ _ => rfl
  rw [e0] at h
  have h2 : SeqAt.RcNeAt X.A s (.ref a) (.ref b) false := h
  exact h2 X.prog X.w X.xe _ ⟨.bl false, H, I, rfl, q⟩
/-! ### data: ints, bools, texts, tuples of ints -/
theorem plain_ints : ∀ xs : List Int, PyData.plainAll (Di xs) = true
  | [] => by simp [PyData.plainAll]
  | x :: xs => by
    show PyData.plainAll (.int x :: Di xs) = true
    rw [PyData.plainAll, plain_ints xs]
    simp [PyData.plain]
theorem e_eqPV {K : PySem.W.Frag} {x y : V} {H : Hp} {Q : VK} {d e : PyData} (h1 : Dp K H x d) (h2 : Dp K H y e) (p1 : d.plain = true) (p2 : e.plain = true) (hd : d.depth ≤ 60) {b : Bool} (hb : PyData.eqv d e = b) (q : Q (.bl b) H) : rEqP K x y H Q := ⟨d, e, h1, h2, p1, p2, hd, by rw [hb]; exact q⟩
theorem e_nePV {K : PySem.W.Frag} {x y : V} {H : Hp} {Q : VK} {d e : PyData} (h1 : Dp K H x d) (h2 : Dp K H y e) (p1 : d.plain = true) (p2 : e.plain = true) (hd : d.depth ≤ 60) {b : Bool} (hb : PyData.eqv d e = b) (q : Q (.bl (!b)) H) : rNeP K x y H Q := ⟨d, e, h1, h2, p1, p2, hd, by rw [hb]; exact q⟩
theorem dp_ti {K : PySem.W.Frag} {H : Hp} {a : Addr} {xs : List Int} (h : SqT K H a (xs.map V.int)) : Dp K H (.ref a) (.tuple (Di xs)) := .tup h (dpAll_ints xs)
theorem e_eqPT {K : PySem.W.Frag} {H : Hp} {Q : VK} {a b : Addr} {xs ys : List Int} (h1 : SqT K H a (xs.map V.int)) (h2 : SqT K H b (ys.map V.int)) (q : Q (.bl (decide (xs = ys))) H) : rEqP K (.ref a) (.ref b) H Q :=
  e_eqPV (dp_ti h1) (dp_ti h2) (by simp [PyData.plain, plain_ints]) (by simp [PyData.plain, plain_ints]) (by
    show PyData.depthAll (Di xs) + 1 ≤ 60
    rw [depthAll_ints]; decide) (eqvAll_ints xs ys) q
end Vf

namespace Vf
open PySem L2 PySem.Spec PyProof.Rows He
/-! ### a dict comprehension over what is walked -/
def DcB (J : It) (g : TG) (tt : TT) (tk tv : TE) (vs : List Nat) (σ : L2.St) (D : Addr) (H1 : Hp) (Q : VK) : Prop := ∃ W : Nat → Nat → Hp → Prop, (∃ m, W 0 m (upd H1 D (.dK []))) ∧ ∀ i m H, W i m H →
  (J.stop i H ∧ Q (.ref D) H) ∨ (J.go i H ∧
    ∃ Nx : Hp → Prop, (∀ H', Nx H' → ∃ m', m' < m ∧ W (i + 1) m' H') ∧
    ∀ x H', J.yld i H x H' → g x (wipe σ vs) H' fun σ2 H2 => wipe σ2 vs = wipe σ vs ∧ tt σ2 H2 fun b H3 =>
    if b = true then tk σ2 H3 fun y H4 =>
      tv σ2 H4 fun z H5 => ∃ kvs k, y = kV k ∧ H5 D = some (.dK kvs) ∧ kvs.length < sizeLine ∧
      Nx (upd H5 D (.dK (putK kvs k z))) else Nx H3)
theorem e_dc {wi : TI} {g : TG} {tt : TT} {tk tv : TE} {vs : List Nat} {σ : L2.St} {H : Hp} {Q : VK} (q : wi σ H fun J H1 => ∀ D, H1 D = none → DcB J g tt tk tv vs σ D H1 Q) : tDc wi g tt tk tv vs σ H Q := q
theorem dc_it {J : It} {n : Nat} {G : Hp → Prop} {Y : Nat → Hp → V → Hp → Prop} (w : Walk J n G Y) {g : TG} {tt : TT} {tk tv : TE} {vs : List Nat} {σ : L2.St} {H1 : Hp} {D : Addr} {Q : VK} (Pv : Nat → Hp → Prop) (h0 : Pv 0 (upd H1 D (.dK []))) (hG : ∀ i H, i ≤ n → Pv i H → G H)
    (hs : ∀ i x H H', i < n → Pv i H → Y i H x H' → g x (wipe σ vs) H' fun σ2 H2 => wipe σ2 vs = wipe σ vs ∧ tt σ2 H2 fun b H3 =>
      if b = true then tk σ2 H3 fun y H4 => tv σ2 H4 fun z H5 => ∃ kvs k, y = kV k ∧ H5 D = some (.dK kvs) ∧ kvs.length < sizeLine ∧ Pv (i + 1) (upd H5 D (.dK (putK kvs k z))) else Pv (i + 1) H3)
    (hd : ∀ H, Pv n H → Q (.ref D) H) : DcB J g tt tk tv vs σ D H1 Q := by
  refine ⟨fun i m H => m = n - i ∧ i ≤ n ∧ Pv i H, ⟨n, by simp, Nat.zero_le _, h0⟩, ?_⟩
  rintro i m H ⟨rfl, hi, p⟩
  by_cases lt : i < n
  · exact .inr ⟨w.goes i H lt (hG i H hi p), Pv (i + 1), fun H' p' => ⟨n - (i + 1), by omega, rfl, lt, p'⟩, fun x H' y => hs i x H H' lt p (w.yields i H x H' lt (hG i H hi p) y)⟩
  · have e : i = n := by omega
    subst e
    exact .inl ⟨w.stops H (hG i H hi p), hd H p⟩
theorem tupOK (K : PySem.W.Frag) {X : Cx} (hK : X.K = K := by rfl) : CallR X (.type "tuple") (fun xs H Q => ∃ p ys, xs = [.ref p] ∧ ((SqL K H p ys ∧ ∀ l, H l = none → Q (.ref l) (upd H l (.tup ys))) ∨ (SqT K H p ys ∧ Q (.ref p) H))) := hK ▸ call_tuple_of
/-! ### dicts that differ in nothing -/
def rNeDD (K : PySem.W.Frag) : R2 := fun x y H Q => ∃ a b ks ls, x = .ref a ∧ y = .ref b ∧ H a = some (.dK ks) ∧ H b = some (.dK ls) ∧ ks.length = ls.length ∧
  (∀ p ∈ ks, ∃ u d, valV ls p.1 = some u ∧ Dp K H p.2 d ∧ Dp K H u d ∧ PySem.W.alike d d = true ∧ d.depth ≤ 60 ∧ PyData.eqv d d = true) ∧ Q (.bl false) H
theorem hits_data {X : Cx} {pins : List (Addr × Obj)} {σ : L2.St} {H : Hp} {s : Shared} (I : Inv X pins σ H s) {A : Around} (hu : A.units + 60 < cLine) {ls : List (L2.Key × V)} {vb : List (L2.Key × Value)} (rb : KV ls vb) {ks : List (L2.Key × V)} {va : List (L2.Key × Value)} (ra : KV ks va) :
    (∀ p ∈ ks, ∃ u d, valV ls p.1 = some u ∧ Dp X.K H p.2 d ∧ Dp X.K H u d ∧ PySem.W.alike d d = true ∧ d.depth ≤ 60 ∧ PyData.eqv d d = true) → PySem.W.KeqHits A s vb va true := by
  unfold KV at ra
  induction ra with
  | nil => intro _; exact .nil
  | @cons p q ps qs h t ih =>
    intro hp
    obtain ⟨h1, h2⟩ := h
    obtain ⟨u, d, e, d1, d2, al, dp, ev⟩ := hp p (List.mem_cons_self ..)
    have rr : RelO (some u) (valueAt vb p.1) := by rw [← e]; exact rb.val p.1
    obtain ⟨y, hy, ry⟩ := rr.some_of
    obtain ⟨key, v⟩ := q
    have h1' : p.1 = key := h1
    rw [h1'] at hy
    obtain ⟨as1, r1⟩ := Dp.reads I d p.2 v d1 h2
    obtain ⟨as2, r2⟩ := Dp.reads I d u y d2 ry
    have eq := PySem.W.eqAt_alike d d A s v y as1 as2 r1 r2 al (by have := Nat.min_le_left d.depth d.depth; omega)
    rw [ev] at eq
    have z := PySem.W.KeqHits.hit hy eq (ih fun p' hm => hp p' (List.mem_cons_of_mem _ hm))
    exact z
theorem op_neDD {X : Cx} (hu : X.A.units + 64 < cLine) : OpR X (compareOp .NotEq) (rNeDD X.K) := by
  intro pins s σ H x y v u Q I rx ry h
  obtain ⟨a, b, ks, ls, rfl, rfl, ea, eb, hlen, hp, q⟩ := h
  obtain rfl : v = Value.ref a := rx
  obtain rfl : u = Value.ref b := ry
  obtain ⟨_, ya, va, ra, da⟩ := (show ObjOk X.prog X.w H s.heap a (.dK ks) from I.hok a _ ea)
  obtain ⟨_, yb, vb, rb, db⟩ := (show ObjOk X.prog X.w H s.heap b (.dK ls) from I.hok b _ eb)
  have hl : va.length = vb.length := by rw [← ra.length, ← rb.length]; exact hlen
  refine PySem.W.keq_ne (knd := mixKind X.prog X.w) (r := true) ya yb da db (by omega) (fun _ => hits_data I (by show X.A.units + 1 + 60 < cLine; omega) rb ra hp) ?_
  rw [show (va.length == vb.length && true) = true from by rw [hl]; simp]
  exact ⟨.bl false, H, I, rfl, q⟩
end Vf

/-! set(xs), xs a list of ints: as HandS.SetFor has it for a tuple; sorted of it by cr_sortedSet. -/
namespace Vf
open PySem L2 PySem.Spec PyProof.Rows He
section
variable {P : Program} {w : World} {A : Around} {E : Value → Shared → Prop} {s : Shared}
/-- the new set as it is made -/
abbrev emptyS (w : World) : Obj := { cls := .type "set", dict := none, data := .set #[] 0 (.fresh 0 0 (!w.params.followText "set-order")) }
theorem set_of_ints {l : Addr} {its : Array Value} (ns : List Int) {Q : Value → Shared → Prop}
    (h0 : A.handled = none) (isl : s.heap.IsList l its) (hin : IntsAre its.toList ns)
    (small : ns.length + 1 < scanBound)
    (q : ∀ (g : Heap) (tk n : Nat), SetR w g s.heap.objs.size (fun j => decide (j ∈ ns)) n → n ≤ ns.length →
      (∀ b o, s.heap.get? b = some o → g.get? b = some o) →
      Q (.ref s.heap.objs.size) { s with heap := g, toks := tk }) :
    wpAny (model P w) A (call (.type "set") [.ref l]) Q E s := by
  have size : its.size = ns.length := by
    rw [← IntsAre.length hin]; exact Array.length_toList.symm
  obtain ⟨_, _, mro⟩ := F.called_set.mro
  have made := F.called_set.made; have sub := F.called_set.sub
  have e1 := F.called_set.notType; have e2 := F.called_set.canCreate
  have e3 := F.typeCall_set_1 (.ref l)
  refine wpAny_call (codeAny_of_tree ?_)
  show wpAny _ _ (callAny (.type "set") _) _ _ _
  refine wpAny_pure ⟨Code.quiet_builtin _ (by decide +kernel),
    codeAny_builtin F.entry_type_call ?_⟩
  rw [Around.under_plain (weight_type_call_type "set" [.ref l] []) rfl]
  repeat (any_goals (first | assumption | wp_step))

  refine codeAny_mono (code_set_led1 (.ref l) (E := E)
    (Q₁ := fun r t => r = .ref s.heap.objs.size ∧ t = { s with heap := s.heap.push (emptyS w) })
    ⟨rfl, rfl⟩) fun r t hr => ?_
  rcases r with e | fl
  · exact hr
  cases fl with
  | ret obj =>
    obtain ⟨rfl, rfl⟩ := hr
    have at1 : (s.heap.push (emptyS w)).get? s.heap.objs.size = some (emptyS w) := Heap.get?_push_size _ rfl
    have ty1 : Shared.TypeIs { s with heap := s.heap.push (emptyS w) } (.ref s.heap.objs.size) "set" := ⟨_, at1, rfl⟩
    have look := F.called_set.init.lookup
    have bind := F.called_set.init.bind (.ref s.heap.objs.size)
    repeat (any_goals (first | assumption | wp_step))

    refine codeAny_mono (codeAny_call_builtin
      (R := wants (fun r t => r = .none ∧ ∃ g tk n, t = { s with heap := g, toks := tk } ∧
        SetR w g s.heap.objs.size (fun j => decide (j ∈ ns)) n ∧ n ≤ ns.length ∧
        (∀ b o, s.heap.get? b = some o → g.get? b = some o)) E)
      F.called_set.init.plain F.entry_set_init (check_set_init_1 ty1 ?_)) fun r2 t2 hr2 => ?_
    · have isl1 : (s.heap.push (emptyS w)).IsList l its := isl.push _
      have d1 := F.sub_list_set
      have d2 := F.sub_list_frozenset
      have nd : (Value.type "list" == Value.type "dict") = false := by decide
      obtain ⟨ol, hol, hcl, nl, hdl⟩ := id isl
      obtain ⟨oc, od, odt, osl⟩ := ol
      simp only at hcl hdl
      subst hcl; subst hdl
      have hol1 := Heap.get?_push_of_some (emptyS w) hol
      unfold Builtin.«set.__init__» noKeywords Builtin.Frozenset.updateFrom
      generalize hPI : pyIter = PI
      wp_walk
      subst hPI

      refine wpAny_pyIter_list isl1 ?_
      refine wpAny_bind (wpAny_runValue ?_)
      have lt : l < s.heap.objs.size := Heap.lt_size hol
      have h3 : A.in1.in1.in1.handled = none := by simp [h0]
      have sz : (s.heap.push (emptyS w)).objs.size = s.heap.objs.size + 1 := Heap.size_push ..
      have n1 : l ≠ (s.heap.push (emptyS w)).objs.size := by rw [sz]; exact Nat.ne_of_lt (Nat.lt_succ_of_lt lt)
      have n2 : s.heap.objs.size ∉ [(s.heap.push (emptyS w)).objs.size, l] := by
        rw [sz]
        intro m
        rcases List.mem_cons.mp m with z | z
        · exact Nat.succ_ne_self _ z.symm
        · exact Nat.ne_of_gt lt (List.mem_singleton.mp z)
      have val : ∀ (i : Nat) (v : Value), its[i]? = some v → ∃ k t, ns[i]? = some k ∧ v = .int k t := fun i v hv => by
        have hi : i < ns.length := by rw [← size]; exact (Array.getElem?_eq_some_iff.mp hv).1
        obtain ⟨t, e⟩ := IntsAre.int_at hin i v (by rw [Array.getElem?_toList]; exact hv)
        rw [List.getD_eq_getElem?_getD, List.getElem?_eq_getElem hi] at e
        exact ⟨ns[i], t, List.getElem?_eq_getElem hi, e⟩
      refine set_update_ints ((Walks.list h3 _ l n1 its).toS) s.heap.objs.size n2 ns size small val
        (its.size - 0) 0 _ (by omega) (Nat.zero_le _)
        ⟨⟨_, Heap.get?_push_size _ rfl, rfl, rfl⟩, isl1.push _⟩
        ⟨0, Nat.le_refl 0, setR_new_at (Heap.get?_push_of_some _ at1)⟩ fun t' n mv le R => ?_
      obtain ⟨g, g2, dr, tk, os⟩ := t'
      have eg : g2 = s.gens := mv.gens
      have ed : dr = s.drawn := mv.drawn
      have eo : os = s.os := mv.os
      subst eg ed eo
      rw [size] at le
      show wpAny _ _ _ _ _ _
      refine wpAny_pure ?_
      show wpAny _ _ (ret Value.none) _ _ _
      refine wpAny_pure ⟨rfl, g, tk, n, rfl, R, le, fun b o e => ?_⟩
      have lb : b < s.heap.objs.size := Heap.lt_size e
      refine mv.heap b o (fun m => ?_) (Heap.get?_push_of_some _ (Heap.get?_push_of_some _ e))
      rcases List.mem_cons.mp m with z | z
      · exact Nat.ne_of_lt lb z
      · have := List.mem_singleton.mp z
        rw [sz] at this
        exact Nat.ne_of_lt (Nat.lt_succ_of_lt lb) this
    · rcases r2 with e | fl2
      · exact hr2
      cases fl2 with
      | ret r =>
        obtain ⟨rfl, g, tk, n, rfl, h1, h2, h3⟩ := hr2
        repeat (any_goals (first | assumption | wp_step))
        exact q _ _ _ h1 h2 h3
      | _ => exact hr2.elim
  | _ => exact hr.elim
end
/-- set(xs), xs a list of ints -/
def rSetL (K : PySem.W.Frag) (w : World) : List V → Hp → VK → Prop := fun xs H Q => ∃ (p : Addr) (ns : List Int), xs = [.ref p] ∧ SqL K H p (ns.map V.int) ∧ ns.length ≤ 1000 ∧
  ∀ a n, H a = none → n ≤ ns.length → Q (.ref a) (upd H a (SetO w a (fun j => decide (j ∈ ns)) n))
theorem cr_setL {X : Cx} (hc : X.calm = true) : CallR X (.type "set") (rSetL X.K X.w) := by
  intro pins s σ H xs us Q I r h
  obtain ⟨p, ns, rfl, hq, hl, q⟩ := h
  obtain ⟨u, rfl, rx⟩ := vals1 r
  cases rx
  obtain ⟨its, rv, pl, hz⟩ := I.list hq
  refine set_of_ints ns (I.ok.hd hc) pl.isList (by simpa using ints_of_vals rv) (by unfold scanBound; omega) fun g tk n R le k => ?_
  exact ⟨.ref s.heap.objs.size, _, I.laid (t' := tk) k (Nat.le_refl _) (setO_new R), rfl, q _ n (I.hok.fresh (Nat.le_refl _)) le⟩
end Vf
namespace Vf
open PySem L2 PySem.Spec PyProof.Rows He
theorem niDK (K : PySem.W.Frag) {X : Cx} (hu : X.A.units + 65 < cLine) (hK : X.K = K := by rfl) : OpR X (compareOp .NotIn) (rNotInD K) := hK ▸ op_notInD hu
/-! ### [e for x in xs for y in f(x)] -/
/-- the inner clause's turns, Nx where it ends -/
def Inn (J1 : It) (g1 : TG) (tt1 : TT) (te : TE) (vs1 : List Nat) (σ2 : L2.St) (D : Addr) (H4 : Hp) (Nx : Hp → Prop) : Prop :=
  ∃ W1 : Nat → Nat → Hp → Prop, (∃ m, W1 0 m H4) ∧ ∀ j k H, W1 j k H → (J1.stop j H ∧ Nx H) ∨ (J1.go j H ∧
    ∃ Nx1 : Hp → Prop, (∀ H', Nx1 H' → ∃ k', k' < k ∧ W1 (j + 1) k' H') ∧
    ∀ x H', J1.yld j H x H' → g1 x (wipe σ2 vs1) H' fun σ3 H5 => wipe σ3 vs1 = wipe σ2 vs1 ∧ tt1 σ3 H5 fun b H6 =>
      if b = true then te σ3 H6 fun y H7 => ∃ acc, H7 D = some (.lst acc) ∧ acc.length < sizeLine ∧ Nx1 (upd H7 D (.lst (acc ++ [y])))
      else Nx1 H6)
def Lc2B (J : It) (g : TG) (tt : TT) (wi1 : TI) (g1 : TG) (tt1 : TT) (te : TE) (vs vs1 : List Nat) (σ : L2.St) (D : Addr) (H1 : Hp) (Q : VK) : Prop :=
  ∃ W : Nat → Nat → Hp → Prop, (∃ m, W 0 m (upd H1 D (.lst []))) ∧ ∀ i m H, W i m H → (J.stop i H ∧ Q (.ref D) H) ∨ (J.go i H ∧
    ∃ Nx : Hp → Prop, (∀ H', Nx H' → ∃ m', m' < m ∧ W (i + 1) m' H') ∧
    ∀ x H', J.yld i H x H' → g x (wipe σ vs) H' fun σ2 H2 => wipe σ2 vs = wipe σ vs ∧ tt σ2 H2 fun b H3 =>
      if b = true then wi1 σ2 H3 fun J1 H4 => Inn J1 g1 tt1 te vs1 σ2 D H4 Nx else Nx H3)
theorem e_lc2 {wi wi1 : TI} {g g1 : TG} {tt tt1 : TT} {te : TE} {vs vs1 : List Nat} {σ : L2.St} {H : Hp} {Q : VK}
    (q : wi σ H fun J H1 => ∀ D, H1 D = none → Lc2B J g tt wi1 g1 tt1 te vs vs1 σ D H1 Q) : tLc2 wi g tt wi1 g1 tt1 te vs vs1 σ H Q := q
theorem inn_it {J : It} {n : Nat} {G : Hp → Prop} {Y : Nat → Hp → V → Hp → Prop} (w : Walk J n G Y) {g : TG} {tt : TT} {te : TE} {vs : List Nat} {σ : L2.St} {D : Addr} {H1 : Hp} {Nx : Hp → Prop}
    (Pv : Nat → Hp → Prop) (h0 : Pv 0 H1) (hG : ∀ i H, i ≤ n → Pv i H → G H)
    (hs : ∀ i x H H', i < n → Pv i H → Y i H x H' → g x (wipe σ vs) H' fun σ2 H2 => wipe σ2 vs = wipe σ vs ∧ tt σ2 H2 fun b H3 =>
      if b = true then te σ2 H3 fun y H4 => ∃ acc, H4 D = some (.lst acc) ∧ acc.length < sizeLine ∧ Pv (i + 1) (upd H4 D (.lst (acc ++ [y]))) else Pv (i + 1) H3)
    (hd : ∀ H, Pv n H → Nx H) : Inn J g tt te vs σ D H1 Nx := by
  refine ⟨fun i m H => m = n - i ∧ i ≤ n ∧ Pv i H, ⟨n, by simp, Nat.zero_le _, h0⟩, ?_⟩
  rintro i m H ⟨rfl, hi, p⟩
  by_cases lt : i < n
  · exact .inr ⟨w.goes i H lt (hG i H hi p), Pv (i + 1), fun H' p' => ⟨n - (i + 1), by omega, rfl, lt, p'⟩, fun x H' y => hs i x H H' lt p (w.yields i H x H' lt (hG i H hi p) y)⟩
  · have e : i = n := by omega
    subst e
    exact .inl ⟨w.stops H (hG i H hi p), hd H p⟩
theorem lc2_it {J : It} {n : Nat} {G : Hp → Prop} {Y : Nat → Hp → V → Hp → Prop} (w : Walk J n G Y) {g g1 : TG} {tt tt1 : TT} {te : TE} {wi1 : TI} {vs vs1 : List Nat} {σ : L2.St} {D : Addr} {H1 : Hp} {Q : VK}
    (Pv : Nat → Hp → Prop) (h0 : Pv 0 (upd H1 D (.lst []))) (hG : ∀ i H, i ≤ n → Pv i H → G H)
    (hs : ∀ i x H H', i < n → Pv i H → Y i H x H' → g x (wipe σ vs) H' fun σ2 H2 => wipe σ2 vs = wipe σ vs ∧ tt σ2 H2 fun b H3 =>
      if b = true then wi1 σ2 H3 fun J1 H4 => Inn J1 g1 tt1 te vs1 σ2 D H4 (Pv (i + 1)) else Pv (i + 1) H3)
    (hd : ∀ H, Pv n H → Q (.ref D) H) : Lc2B J g tt wi1 g1 tt1 te vs vs1 σ D H1 Q := by
  refine ⟨fun i m H => m = n - i ∧ i ≤ n ∧ Pv i H, ⟨n, by simp, Nat.zero_le _, h0⟩, ?_⟩
  rintro i m H ⟨rfl, hi, p⟩
  by_cases lt : i < n
  · exact .inr ⟨w.goes i H lt (hG i H hi p), Pv (i + 1), fun H' p' => ⟨n - (i + 1), by omega, rfl, lt, p'⟩, fun x H' y => hs i x H H' lt p (w.yields i H x H' lt (hG i H hi p) y)⟩
  · have e : i = n := by omega
    subst e
    exact .inl ⟨w.stops H (hG i H hi p), hd H p⟩
end Vf

/-! set(xs), xs a list of texts, and sorted of it; xs.remove(x) where the items are data. -/
namespace Vf
open PySem L2 PySem.Spec PyProof.Rows He
abbrev tk_ (P : Program) (w : World) := PySem.strKind P w
def txOf (e : Int × Value) : Str := match e.2 with | .str x _ => x | _ => Str.empty
def TxE (w : World) (e : Int × Value) : Prop := ∃ x u, e.2 = Value.str x u ∧ e.1 = hashStr w x
/-- the set at a has the texts L -/
def TxS (w : World) (h : Heap) (a : Addr) (L : List Str) : Prop :=
  ∃ ob arr ep tb, h.get? a = some ob ∧ ob.ExactSet ∧ ob.data = .set arr ep tb ∧ (∀ e ∈ arr.toList, TxE w e)
    ∧ (arr.toList.map txOf).Perm L ∧ L.Nodup ∧ L.length < scanBound ∧ tb.fits arr.size = true
    ∧ Ris tb.place.toList ∧ (w.params.followText "set-order" = true ∨ tb.led = true)
theorem TxS.to {w : World} {h g : Heap} {a : Addr} {L : List Str} (t : TxS w h a L) (k : ∀ o, h.get? a = some o → g.get? a = some o) : TxS w g a L := by
  obtain ⟨ob, arr, ep, tb, h1, r⟩ := t
  exact ⟨ob, arr, ep, tb, k _ h1, r⟩
section
variable {P : Program} {w : World} {A : Around} {E : Value → Shared → Prop} {s : Shared}
theorem tx_kinds {l : List (Int × Value)} (g : ∀ e ∈ l, TxE w e) : ElemsOf (tk_ P w) l := fun e m => by
  obtain ⟨x, u, e1, e2⟩ := g e m
  exact ⟨⟨x, by rw [e1]; exact PySem.strKind_is P w x u, e2⟩, by rw [e1]; rfl⟩
theorem tx_is {e : Int × Value} (g : TxE w e) (x : Str) : (tk_ P w).is x e.2 = true ↔ txOf e = x := by
  obtain ⟨y, u, e1, _⟩ := g
  have h1 : txOf e = y := by unfold txOf; rw [e1]
  rw [h1, e1]
  constructor
  · intro q
    exact (tk_ P w).inj _ _ _ (PySem.strKind_is P w y u) q
  · rintro rfl
    exact PySem.strKind_is P w y u
theorem tx_size {arr : Array (Int × Value)} {L : List Str} (p : (arr.toList.map txOf).Perm L) : arr.size = L.length := by
  have := p.length_eq
  rw [List.length_map] at this
  rw [← this]
  exact Array.length_toList.symm
/-- where the new one is stored -/
theorem tx_store {gv : Bool → Sem Unit} (hgv : ∀ (b : Bool) (s1 : Shared) (R : Unit → Shared → Prop), R () s1 → wpAny (model P w) A (gv b) R E s1)
    {a : Addr} {ob : Obj} {arr : Array (Int × Value)} {ep : Nat} {tb : SetTable}
    (e0 : s.heap.get? a = some ob) (ex : ob.ExactSet) (ed : ob.data = .set arr ep tb)
    {arr1 : Array (Int × Value)} {tb1 : SetTable} {L : List Str}
    (g1 : ∀ e ∈ arr1.toList, TxE w e) (p1 : (arr1.toList.map txOf).Perm L) (n1 : L.Nodup) (b1 : L.length < scanBound)
    (f1 : tb1.fits arr1.size = true) (r1 : Ris tb1.place.toList) (l1 : w.params.followText "set-order" = true ∨ tb1.led = true)
    {dm : Bool} {R : Option Bool → Shared → Prop}
    (q : ∀ g, Heap.SameBut a s.heap g → TxS w g a L → R (some true) { s with heap := g }) :
    wpAny (model P w) A (do
      storeSet a arr1 tb1
      if (!dm && tb1.tooFull) = true then do
        gv (relayAll tb1 arr1 (SetTable.grown arr1.size)).2.2
        storeSet a (relayAll tb1 arr1 (SetTable.grown arr1.size)).1 (relayAll tb1 arr1 (SetTable.grown arr1.size)).2.1
        pure (some true)
      else pure (some true)) R E s := by
  have bs : arr1.size < scanBound := by rw [tx_size p1]; exact b1
  refine wpAny_bind (wpAny_storeSet_of e0 ed ?_ (fits_of_scanBound bs))
  have e1 := store_at (es' := arr1) (t' := tb1) e0 ed
  have sb := Heap.SameBut.update s.heap a (Obj.putSet arr1 tb1)
  by_cases c : (!dm && tb1.tooFull) = true
  · rw [if_pos c]
    have pm := relayAll_perm tb1 arr1 (SetTable.grown arr1.size)
    have pf := relayAll_fits tb1 arr1 (SetTable.grown arr1.size)
    have pr := relayAll_ris tb1 arr1 (SetTable.grown arr1.size)
    have pl := relayAll_led tb1 arr1 (SetTable.grown arr1.size)
    revert pm pf pr pl
    generalize relayAll tb1 arr1 (SetTable.grown arr1.size) = rel
    obtain ⟨arr2, tb2, gave⟩ := rel
    intro pm pf pr pl
    dsimp only at pm pf pr pl ⊢
    have p2 : (arr2.toList.map txOf).Perm L := (pm.map txOf).trans p1
    have bs2 : arr2.size < scanBound := by rw [tx_size p2]; exact b1
    refine wpAny_bind (hgv _ _ _ ?_)
    refine wpAny_bind (wpAny_storeSet_of e1 rfl ?_ (fits_of_scanBound bs2))
    have e2 := store_at (es' := arr2) (t' := tb2) e1 rfl
    refine wpAny_pure (q _ (sb.trans (Heap.SameBut.update _ a _)) ?_)
    refine ⟨_, arr2, _, tb2, e2, ex, rfl, fun e m => g1 e (pm.mem_iff.mp m), p2, n1, b1, pf, pr, ?_⟩
    exact l1.imp id fun z => pl.trans z
  · rw [if_neg c]
    exact wpAny_pure (q _ sb ⟨_, arr1, _, tb1, e1, ex, rfl, g1, p1, n1, b1, f1, r1, l1⟩)
/-- one text more -/
theorem tx_add {a : Addr} {L : List Str} {x : Str} {u : Tok} {Q : Bool → Shared → Prop} (t : TxS w s.heap a L) (room : L.length + 1 < scanBound)
    (q1 : x ∈ L → Q false s) (q2 : x ∉ L → ∀ g, Heap.SameBut a s.heap g → TxS w g a (x :: L) → Q true { s with heap := g }) :
    wpAny (model P w) A (setAddHashed a (.str x u) ((tk_ P w).hash x)) Q E s := by
  obtain ⟨ob, arr, ep, tb, e0, ex, ed, g, p, n, b, f, r, l⟩ := t
  have hx : (tk_ P w).is x (.str x u) = true := PySem.strKind_is P w x u
  have hs : (Value.str x u).scannable = true := rfl
  have bs : arr.size < scanBound := by rw [tx_size p]; exact b
  have el : ElemsOf (tk_ P w) arr.toList := tx_kinds g
  have mem : x ∈ L ↔ ∃ e ∈ arr.toList, (tk_ P w).is x e.2 = true := by
    rw [← p.mem_iff, List.mem_map]
    exact ⟨fun ⟨e, m, h⟩ => ⟨e, m, (tx_is (g e m) x).2 h⟩, fun ⟨e, m, h⟩ => ⟨e, m, (tx_is (g e m) x).1 h⟩⟩
  unfold setAddHashed setAddHashedIn
  refine wpAny_holding (wpAny_bind (wpAny_setState_of e0 ed f ?_))
  dsimp only
  rw [byScan_of hs bs el]
  simp only [↓reduceIte]
  unfold setAddByScan
  refine wpAny_bind ?_
  refine wpAny_bind (wpAny_rule ?_)
  refine wpAny_bind (wpAny_setScan_of hx e0 ed f el ?_)
  cases fi : List.findIdx? (fun e => (tk_ P w).is x e.2) arr.toList with
  | some j =>
    dsimp only
    obtain ⟨hj, pj, _⟩ := List.findIdx?_eq_some_iff_getElem.mp fi
    exact wpAny_pure (wpAny_pure (q1 (mem.2 ⟨_, List.getElem_mem hj, pj⟩)))
  | none =>
    dsimp only
    have nx : x ∉ L := fun m => by
      obtain ⟨e, m2, h⟩ := mem.1 m
      have z := List.findIdx?_eq_none_iff.mp fi e m2
      rw [h] at z
      cases z
    have gw : ∀ (c : Bool) {s1 : Shared} {R : Unit → Shared → Prop}, R () s1 → wpAny (model P w) A (match c with | true => rule "set.scan.the-table-gave-way" | false => pure ()) R E s1 := fun c s1 R h => by
      cases c
      · exact wpAny_pure h
      · exact wpAny_rule h
    have pm := layNew_perm tb arr ((tk_ P w).hash x) (.str x u)
    have pf := layNew_fits tb arr ((tk_ P w).hash x) (.str x u)
    have pr := layNew_ris tb arr ((tk_ P w).hash x) (.str x u) r
    have pl := layNew_led tb arr ((tk_ P w).hash x) (.str x u)
    revert pm pf pr pl
    generalize layNew tb arr ((tk_ P w).hash x) (.str x u) = new
    obtain ⟨arr1, tb1, dm, gave⟩ := new
    intro pm pf pr pl
    dsimp only at pm pf pr pl ⊢
    rw [Array.toList_push] at pm
    have pc : arr1.toList.Perm (((tk_ P w).hash x, Value.str x u) :: arr.toList) := pm.trans (List.perm_append_singleton _ _)
    have p1 : (arr1.toList.map txOf).Perm (x :: L) := (pc.map txOf).trans (p.cons x)
    have g1 : ∀ e ∈ arr1.toList, TxE w e := fun e m => by
      rcases List.mem_cons.mp (pc.mem_iff.mp m) with z | z
      · exact ⟨x, u, by rw [z], by rw [z]; rfl⟩
      · exact g e z
    have n1 : (x :: L).Nodup := List.nodup_cons.mpr ⟨nx, n⟩
    have b1 : (x :: L).length < scanBound := room
    have l1 : w.params.followText "set-order" = true ∨ tb1.led = true := l.imp id fun z => pl.trans z
    have fin := fun g' sb r' => q2 nx g' sb r'
    refine wpAny_bind (gw _ ?_)
    split
    · refine wpAny_bind ?_
      rw [hashByValue_scannable 8 hs]
      refine wpAny_pure ?_
      refine tx_store ?_ e0 ex ed g1 p1 n1 b1 ?_ ?_ ?_ ?_
      · intro c s1 R h; exact gw c h
      · first | (split <;> first | exact pf | exact SetTable.fits_plain_off pf) | exact pf
      · first | (split <;> exact pr) | exact pr
      · first | (split <;> exact l1) | exact l1
      · intro g' sb r'; dsimp only; exact wpAny_pure (fin g' sb r')
    · refine wpAny_bind (wpAny_pure ?_)
      simp only [↓reduceIte]
      refine tx_store ?_ e0 ex ed g1 p1 n1 b1 pf pr l1 ?_
      · intro c s1 R h; exact gw c h
      · intro g' sb r'; dsimp only; exact wpAny_pure (fin g' sb r')
/-- the set takes all of a list -/
theorem tx_loop {I : Addr} {fp wr : List Addr} {G : Array GenState → Array GenState → Prop} {n : Nat} {Pv : Nat → Value → Prop} {St : Nat → Shared → Prop} {R : Result → Shared → Prop}
    (W : WalksS P w A.in1 I fp wr G n Pv St) (a : Addr) (na : a ∉ fp) (xs : List Str) (hn : n = xs.length) (room : xs.length + 1 < scanBound)
    (pv : ∀ i v, Pv i v → ∃ x u, xs[i]? = some x ∧ v = .str x u) :
    ∀ (k i : Nat) (s : Shared), n = i + k → St i s →
      (∃ L, L.length ≤ i ∧ (∀ x, x ∈ L ↔ x ∈ xs.take i) ∧ TxS w s.heap a L) →
      (∀ s' L, Moved (a :: wr) G s s' → L.length ≤ n → (∀ x, x ∈ L ↔ x ∈ xs) → TxS w s'.heap a L → R (.ok (.ret .none)) s') →
      codeAny (model P w) A (.builtin "set.update.loop" ⟨[.ref a, .ref I], []⟩) R s := by
  have nw : a ∉ wr := fun z => na (W.sub _ z)
  have sub : ∀ b ∈ wr, b ∈ a :: wr := fun b m => List.mem_cons_of_mem _ m
  intro k
  induction k with
  | zero =>
    rintro i s hk st ⟨L, l1, l2, t⟩ q
    have e : n = i := by omega
    subst e
    refine codeAny_builtin F.entry_set_update_loop ?_
    rw [Around.under_plainId F.plain_set_update_loop _]
    show wpAny _ A.in1 (pyNext (.ref I) >>= _) _ _ s
    refine wpAny_bind (W.done s _ _ st fun s' m => ?_)
    show wpAny _ A.in1 (ret Value.none) _ _ s'
    refine wpAny_pure (q s' L (m.mono sub) l1 (fun x => ?_) (t.to fun o h => m.heap a o nw h))
    rw [l2, List.take_of_length_le (by omega)]
  | succ k ih =>
    rintro i s hk st ⟨L, l1, l2, t⟩ q
    have lt : i < n := by omega
    refine codeAny_builtin F.entry_set_update_loop ?_
    rw [Around.under_plainId F.plain_set_update_loop _]
    show wpAny _ A.in1 (pyNext (.ref I) >>= _) _ _ s
    refine wpAny_bind (W.item i s _ _ lt st fun v s' hp st' m => ?_)
    obtain ⟨x, u, hx, rfl⟩ := pv i v hp
    have t' := t.to (g := s'.heap) fun o h => m.heap a o nw h
    have l3 : ∀ z, z ∈ xs.take (i + 1) ↔ z ∈ xs.take i ∨ z = x := fun z => by
      rw [List.take_add_one, hx, List.mem_append]
      exact or_congr Iff.rfl (by simp)
    have next : ∀ (g : Heap) (M : List Str), (∀ b o, b ≠ a → s'.heap.get? b = some o → g.get? b = some o) → M.length ≤ i + 1 → (∀ z, z ∈ M ↔ z ∈ xs.take (i + 1)) → TxS w g a M →
        codeAny (model P w) A (.builtin "set.update.loop" ⟨[.ref a, .ref I], []⟩) R { s' with heap := g, toks := s'.toks + 1 } := fun g M k1 lm lz tm => by
      refine ih (i + 1) _ (by omega) (W.frame _ s' _ _ st' (Nat.le_succ _) fun b mb o e => ?_) ⟨M, lm, lz, tm⟩ fun s2 L2 m2 c1 c2 c3 => ?_
      · exact k1 b o (fun z => na (z ▸ mb)) e
      · refine q s2 L2 (Moved.trans W.gtrans ((m.mono sub).then_heap (Nat.le_succ _) fun b o nb e => ?_) m2) c1 c2 c3
        exact k1 b o (fun z => nb (by rw [z]; exact List.mem_cons_self)) e
    show wpAny _ A.in1 (holding [Value.str x u] (setAdd a (.str x u)) >>= _) _ _ s'
    refine wpAny_bind (wpAny_holding ?_)
    unfold setAdd
    refine wpAny_holding ?_
    refine wpAny_bind ((tk_ P w).pyHash (k := x) (PySem.strKind_is P w x u) ?_)
    refine tx_add (s := { s' with toks := s'.toks + 1 }) t' (by omega) (fun mx => ?_) fun nx g sb tn => ?_
    · refine wpAny_pure ⟨plainId_quiet F.plain_set_update_loop _, next s'.heap L (fun b o _ e => e) (by omega) (fun z => ?_) t'⟩
      rw [l3, ← l2 z]
      exact ⟨.inl, fun h => h.elim id fun e => e ▸ mx⟩
    · refine wpAny_pure ⟨plainId_quiet F.plain_set_update_loop _, next g (x :: L) (fun b o nb e => by rw [sb.2 b nb]; exact e) (by rw [List.length_cons]; omega) (fun z => ?_) tn⟩
      rw [l3, ← l2 z, List.mem_cons]
      exact Or.comm
theorem strs_get : ∀ {us : List Value} {xs : List Str}, StrsAre us xs → ∀ (i : Nat) (v : Value), us[i]? = some v → ∃ x u, xs[i]? = some x ∧ v = .str x u
  | _, _, .nil, i, v, h => by simp at h
  | _, _, .cons n t r, 0, v, h => ⟨n, t, rfl, by simpa using h.symm⟩
  | _, _, .cons n t r, i + 1, v, h => strs_get r i v (by simpa using h)
/-- set(xs) -/
theorem tx_of {l : Addr} {its : Array Value} (xs : List Str) {Q : Value → Shared → Prop}
    (h0 : A.handled = none) (isl : s.heap.IsList l its) (hin : StrsAre its.toList xs) (small : xs.length + 1 < scanBound)
    (q : ∀ (g : Heap) (tk : Nat) (L : List Str), TxS w g s.heap.objs.size L → L.length ≤ xs.length → (∀ x, x ∈ L ↔ x ∈ xs) →
      (∀ b o, s.heap.get? b = some o → g.get? b = some o) → Q (.ref s.heap.objs.size) { s with heap := g, toks := tk }) :
    wpAny (model P w) A (call (.type "set") [.ref l]) Q E s := by
  have size : its.size = xs.length := by rw [← StrsAre.len_eq hin]; exact Array.length_toList.symm
  obtain ⟨_, _, mro⟩ := F.called_set.mro
  have made := F.called_set.made; have sub := F.called_set.sub
  have e1 := F.called_set.notType; have e2 := F.called_set.canCreate
  have e3 := F.typeCall_set_1 (.ref l)
  refine wpAny_call (codeAny_of_tree ?_)
  show wpAny _ _ (callAny (.type "set") _) _ _ _
  refine wpAny_pure ⟨Code.quiet_builtin _ (by decide +kernel), codeAny_builtin F.entry_type_call ?_⟩
  rw [Around.under_plain (weight_type_call_type "set" [.ref l] []) rfl]
  repeat (any_goals (first | assumption | wp_step))

  refine codeAny_mono (code_set_led1 (.ref l) (E := E)
    (Q₁ := fun r t => r = .ref s.heap.objs.size ∧ t = { s with heap := s.heap.push (emptyS w) }) ⟨rfl, rfl⟩) fun r t hr => ?_
  rcases r with e | fl
  · exact hr
  cases fl with
  | ret obj =>
    obtain ⟨rfl, rfl⟩ := hr
    have at1 : (s.heap.push (emptyS w)).get? s.heap.objs.size = some (emptyS w) := Heap.get?_push_size _ rfl
    have ty1 : Shared.TypeIs { s with heap := s.heap.push (emptyS w) } (.ref s.heap.objs.size) "set" := ⟨_, at1, rfl⟩
    have look := F.called_set.init.lookup
    have bind := F.called_set.init.bind (.ref s.heap.objs.size)
    repeat (any_goals (first | assumption | wp_step))

    refine codeAny_mono (codeAny_call_builtin
      (R := wants (fun r t => r = .none ∧ ∃ g tk L, t = { s with heap := g, toks := tk } ∧ TxS w g s.heap.objs.size L ∧ L.length ≤ xs.length ∧ (∀ x, x ∈ L ↔ x ∈ xs) ∧
        (∀ b o, s.heap.get? b = some o → g.get? b = some o)) E)
      F.called_set.init.plain F.entry_set_init (check_set_init_1 ty1 ?_)) fun r2 t2 hr2 => ?_
    · have isl1 : (s.heap.push (emptyS w)).IsList l its := isl.push _
      have d1 := F.sub_list_set
      have d2 := F.sub_list_frozenset
      have nd : (Value.type "list" == Value.type "dict") = false := by decide
      obtain ⟨ol, hol, hcl, nl, hdl⟩ := id isl
      obtain ⟨oc, od, odt, osl⟩ := ol
      simp only at hcl hdl
      subst hcl; subst hdl
      have hol1 := Heap.get?_push_of_some (emptyS w) hol
      unfold Builtin.«set.__init__» noKeywords Builtin.Frozenset.updateFrom
      generalize hPI : pyIter = PI
      wp_walk
      subst hPI

      refine wpAny_pyIter_list isl1 ?_
      refine wpAny_bind (wpAny_runValue ?_)
      have lt : l < s.heap.objs.size := Heap.lt_size hol
      have h3 : A.in1.in1.in1.handled = none := by simp [h0]
      have sz : (s.heap.push (emptyS w)).objs.size = s.heap.objs.size + 1 := Heap.size_push ..
      have n1 : l ≠ (s.heap.push (emptyS w)).objs.size := by rw [sz]; exact Nat.ne_of_lt (Nat.lt_succ_of_lt lt)
      have n2 : s.heap.objs.size ∉ [(s.heap.push (emptyS w)).objs.size, l] := by
        rw [sz]
        intro m
        rcases List.mem_cons.mp m with z | z
        · exact Nat.succ_ne_self _ z.symm
        · exact Nat.ne_of_gt lt (List.mem_singleton.mp z)
      have val : ∀ (i : Nat) (v : Value), its[i]? = some v → ∃ x u, xs[i]? = some x ∧ v = .str x u := fun i v hv => by
        exact strs_get hin i v (by rw [Array.getElem?_toList]; exact hv)
      refine tx_loop ((Walks.list h3 _ l n1 its).toS) s.heap.objs.size n2 xs size small val
        its.size 0 _ (Nat.zero_add _).symm
        ⟨⟨_, Heap.get?_push_size _ rfl, rfl, rfl⟩, isl1.push _⟩
        ⟨[], Nat.le_refl 0, by simp, _, #[], 0, _, Heap.get?_push_of_some _ at1, ?_, rfl, by simp, .nil, .nil, ?_, ?_, ?_, ?_⟩ fun t' L mv le mm R => ?_
      rotate_right
      · obtain ⟨g, g2, dr, tk, os⟩ := t'
        have eg : g2 = s.gens := mv.gens
        have ed : dr = s.drawn := mv.drawn
        have eo : os = s.os := mv.os
        subst eg ed eo
        rw [size] at le
        show wpAny _ _ _ _ _ _
        refine wpAny_pure ?_
        show wpAny _ _ (ret Value.none) _ _ _
        refine wpAny_pure ⟨rfl, g, tk, L, rfl, R, le, mm, fun b o e => ?_⟩
        have lb : b < s.heap.objs.size := Heap.lt_size e
        refine mv.heap b o (fun m => ?_) (Heap.get?_push_of_some _ (Heap.get?_push_of_some _ e))
        rcases List.mem_cons.mp m with z | z
        · exact Nat.ne_of_lt lb z
        · have := List.mem_singleton.mp z
          rw [sz] at this
          exact Nat.ne_of_lt (Nat.lt_succ_of_lt lb) this
      · exact ⟨rfl, rfl, rfl⟩
      · exact (by decide : 0 < scanBound)
      · rfl
      · exact List.Pairwise.nil
      · show _ ∨ (!w.params.followText "set-order") = true
        cases w.params.followText "set-order"
        · exact .inr rfl
        · exact .inl rfl
    · rcases r2 with e | fl2
      · exact hr2
      cases fl2 with
      | ret r =>
        obtain ⟨rfl, g, tk, L, rfl, h1, h2, h3, h4⟩ := hr2
        repeat (any_goals (first | assumption | wp_step))
        exact q _ _ _ h1 h2 h3 h4
      | _ => exact hr2.elim
  | _ => exact hr.elim
/-- sorted(it) -/
theorem tx_sorted {a : Addr} {L : List Str} {Q : Value → Shared → Prop} (t : TxS w s.heap a L) (h0 : A.handled = none) (h64 : L.length < 64)
    (q : ∀ s' p (out : Array Value) (c : Nat) (ys : List Str), (∀ b o, s.heap.get? b = some o → s'.heap.get? b = some o) → s'.gens = s.gens → s'.os = s.os → s.heap.objs.size ≤ p →
      s'.heap.get? p = some (seqObj "list" out c) → StrsAre out.toList ys → ys.Perm L → PyProof.Rows.sortedS ys = true → Q (.ref p) s') :
    wpAny (model P w) A (call (.builtin "sorted") [.ref a]) Q E s := by
  obtain ⟨ob, arr, ep, tb, e0, ex, ed, g, p, n, b, f, r, l⟩ := t
  have bs : arr.size < scanBound := by rw [tx_size p]; exact b
  refine Calls.call_function_entry kind_sorted plain_sorted entry_sorted (args_sorted1 _) ?_
  unfold Builtin.«sorted»
  refine wpAny_bind (m := checkCount "sorted" 1 1 _) (wpAny_pure ?_)
  refine wpAny_bind (collect_set (A := A.in1) h0 ⟨ob, e0, ex.1, ed⟩ f bs r l fun s1 vs k1 hz g1 o1 pm => ?_)
  have vl : vs.length = L.length := by rw [pm.length_eq, List.length_map, Array.length_toList, tx_size p]
  have mk : ∀ us : List Value, (∀ v ∈ us, ∃ x u, v = Value.str x u) → StrsAre us (us.map fun v => match v with | .str x _ => x | _ => Str.empty) := fun us => by
    induction us with
    | nil => intro _; exact .nil
    | cons v us ih =>
      intro hv
      obtain ⟨x, u, rfl⟩ := hv v List.mem_cons_self
      exact .cons x u (ih fun z m => hv z (List.mem_cons_of_mem _ m))
  have hS := mk vs fun v hv => by
    obtain ⟨e, he, z⟩ := List.mem_map.mp (pm.mem_iff.mp hv)
    obtain ⟨x, u, h1, _⟩ := g e he
    exact ⟨x, u, z ▸ h1⟩
  have pk := pm.map fun v : Value => match v with | .str x _ => x | _ => Str.empty
  rw [List.map_map] at pk
  refine wpAny_bind (wpAny_newList ?_ (by rw [vl, sizeLine_eq]; omega))
  have hoL : (s1.heap.push (seqObj "list" vs.toArray 0)).get? s1.heap.objs.size = some (seqObj "list" vs.toArray 0) := Heap.get?_push_size _ rfl
  refine wpAny_bind (wpAny_holding (wpAny_call_entry slot_list_sort ⟨_, hoL, rfl⟩ entry_list_sort
    (list_sort_treeK strKind_oneLt hoL hS.keysOf (fun v₁ v₂ rest e => keyKind_strs (by rw [← e]; exact hS)) (by rw [vl]; exact h64) fun st hp hs => ⟨_, rfl, ?_⟩)
    (args_list_sort _)))
  obtain ⟨ys, y1, y2, y3⟩ := sorted_out_str hS hp hs
  obtain ⟨c, hc⟩ := sortedHeap_at (vs := vs) (out := (arrOf st).map (·.2)) hoL
  refine wpAny_pure ⟨_, rfl, q _ s1.heap.objs.size _ c ys (fun b' u e => ?_) g1 o1 hz hc y1 ((y2.trans pk).trans p) y3⟩
  have e2 := k1 b' u e
  have lt := Heap.lt_size e2
  show (sortedHeap (s1.heap.push (seqObj "list" vs.toArray 0)) s1.heap.objs.size vs _).get? b' = some u
  rw [sortedHeap_old (Nat.ne_of_lt lt) (by rw [size_push']; exact Nat.lt_succ_of_lt lt)]
  exact Heap.get?_push_of_some _ e2
end
/-- the set of texts at a -/
def TxO (w : World) (a : Addr) (L : List Str) : HO := .ext fun h => TxS w h a L
def rSetT (K : PySem.W.Frag) (w : World) : List V → Hp → VK → Prop := fun xs H Q => ∃ (p : Addr) (ns : List Str), xs = [.ref p] ∧ SqL K H p (ns.map V.str) ∧ ns.length ≤ 1000 ∧
  ∀ a L, H a = none → L.length ≤ ns.length → (∀ x, x ∈ L ↔ x ∈ ns) → Q (.ref a) (upd H a (TxO w a L))
theorem cr_setT {X : Cx} (hc : X.calm = true) : CallR X (.type "set") (rSetT X.K X.w) := by
  intro pins s σ H xs us Q I r h
  obtain ⟨p, ns, rfl, hq, hl, q⟩ := h
  obtain ⟨u, rfl, rx⟩ := vals1 r
  cases rx
  obtain ⟨its, rv, pl, hz⟩ := I.list hq
  refine tx_of ns (I.ok.hd hc) pl.isList (by simpa using Vals.strs rv) (by unfold scanBound; omega) fun g tk L R le mm k => ?_
  have ob : ObjOk X.prog X.w (upd H s.heap.objs.size (TxO X.w s.heap.objs.size L)) g s.heap.objs.size (TxO X.w s.heap.objs.size L) := by
    have ⟨o, _, _, _, ho, _⟩ := R
    exact ⟨R, ⟨o, ho⟩, fun h1 h2 p k => TxS.to p k⟩
  exact ⟨.ref s.heap.objs.size, _, I.laid (t' := tk) k (Nat.le_refl _) ob, rfl, q _ L (I.hok.fresh (Nat.le_refl _)) le mm⟩
end Vf

namespace Vf
open PySem L2 PySem.Spec PyProof.Rows He
def rSortT (w : World) : List V → Hp → VK → Prop := fun vs H Q => ∃ (a : Addr) (L : List Str), vs = [V.ref a] ∧ H a = some (TxO w a L) ∧ L.length < 64 ∧
  ∀ (ys : List Str) (p : Addr), L.Nodup → ys.Perm L → PyProof.Rows.sortedS ys = true → H p = none → Q (.ref p) (upd H p (.lst (ys.map V.str)))
theorem cr_sortedT {X : Cx} (hc : X.calm = true) : CallR X (.builtin "sorted") (rSortT X.w) := by
  intro pins s σ H vs us Q I r h
  obtain ⟨a, L, rfl, ha, h64, q⟩ := h
  have R : TxS X.w s.heap a L := (I.hok a _ ha).1
  have nd : L.Nodup := let ⟨_, _, _, _, _, _, _, _, _, n, _⟩ := R; n
  rw [Vals.ref1 r]
  refine tx_sorted R (I.ok.hd hc) h64 fun s' p out c ys k g o hp hg hi hm hs => ?_
  have len : (ys.map V.str).length ≤ sizeLine := by rw [List.length_map, hm.length_eq, sizeLine_eq]; omega
  have hn : H p = none := I.hok.fresh hp
  have J : Inv X pins σ (upd H p (.lst (ys.map V.str))) { s with heap := s'.heap, gens := s'.gens, drawn := s'.drawn, toks := s'.toks } :=
    I.call (ch := []) (Un.laid k hp hn) (I.hok.laid k hp ⟨len, out.toList, c, vals_of_strs hi, hg⟩) (by rw [g]; exact I.bare) (fun _ z => nomatch z)
  have e : s' = { s with heap := s'.heap, gens := s'.gens, drawn := s'.drawn, toks := s'.toks } := by
    obtain ⟨_, _, _, _, _⟩ := s'
    obtain ⟨_, _, _, _, _⟩ := s
    cases o
    rfl
  rw [e]
  exact ⟨.ref p, _, J, rfl, q ys p nd hm hs hn⟩
/-- xs.remove(y): the first equal one goes -/
def rRemD (K : PySem.W.Frag) : V → List V → Hp → VK → Prop := fun x vs H Q => ∃ (l : Addr) (y : V) (xs : List V) (d : PyData) (ds : List PyData) (j : Nat) (z : PyData), x = .ref l ∧ vs = [y] ∧ H l = some (.lst xs) ∧ DpAll K H xs ds ∧ Dp K H y d ∧
  SeqAt.shaped (.list ds) = true ∧ SeqAt.shaped d = true ∧ ds[j]? = some z ∧ PyData.eqv z d = true ∧ (∀ (m : Nat) (z' : PyData), m < j → ds[m]? = some z' → PyData.eqv z' d = false) ∧ Q .non (upd H l (.lst (xs.eraseIdx j)))
theorem mt_removeD {X : Cx} (hu : X.A.units + 65 < cLine) : MtM X "list.remove" (rRemD X.K) := by
  intro pins s σ H x vs v us Q I rx rv h
  obtain ⟨l, y, xs, d, ds, j, z, rfl, rfl, hH, hds, hy, sl, sd, hz, hzj, hno, q⟩ := h
  cases rx
  obtain ⟨uy, rfl, ry⟩ := rv.one
  obtain ⟨bs, r1⟩ := Dp.reads I d y uy hy ry
  obtain ⟨zl, its, n, r, hl, e⟩ := I.lstM hH
  obtain ⟨as, r2⟩ := Dp.readsAll I ds xs its hds r
  have can : PyData.canLayAll0 ds = true := SeqAt.canLay_of_shaped sl
  have rm : X.A.units + 1 + min (PyData.depthAll ds) d.depth < cLine := room_in_shaped sd hu
  have n1 : its.length = ds.length := SeqAt.ReadsAll.length ds its as r2
  have mp : its.map (SeqAt.readOf s.heap) = ds := SeqAt.readsAll_map ds its as can r2
  have jd : j < ds.length := (List.getElem?_eq_some_iff.mp hz).1
  have hj : j < its.toArray.size := by rw [List.size_toArray]; omega
  have see : ∀ (m : Nat) (hm : m < its.toArray.size) (z' : PyData), ds[m]? = some z' → SeqAt.readOf s.heap its.toArray[m] = z' := fun m hm z' e1 => by
    have hm2 : m < its.length := by rw [List.size_toArray] at hm; exact hm
    rw [← mp, List.getElem?_map, List.getElem?_eq_getElem hm2] at e1
    simpa using Option.some.inj e1
  have sl9 := sizeLine_eq
  refine call_meets PySem.F.slot_list_remove ⟨_, e, rfl⟩ PySem.F.entry_list_remove (PySem.F.args_list_remove_2 _ _)
    (SeqAt.list_removeAt l its.toArray n _ _ uy (fun u => PyData.eqv (SeqAt.readOf s.heap u) d) j hj ?_ ?_ (by rw [List.size_toArray]; omega))
    ⟨e, SeqAt.items_eqAt (vs := its.toArray) (show ReadsAll s.heap its.toArray.toList ds as from r2) r1 can (SeqAt.canLay_of_shaped sd) rm, ?_⟩
  · show PyData.eqv (SeqAt.readOf s.heap its.toArray[j]) d = true
    rw [see j hj z hz]; exact hzj
  · intro m hm lt
    have md : m < ds.length := by omega
    show PyData.eqv (SeqAt.readOf s.heap its.toArray[m]) d = false
    rw [see m hm _ (List.getElem?_eq_getElem md)]
    exact hno m _ lt (List.getElem?_eq_getElem md)
  · refine ⟨.non, _, I.lset (its' := its.eraseIdx j) (t' := s.toks) hH e ?_ (r.eraseIdx j) ?_, rfl, q⟩
    · show its.toArray.eraseIdxIfInBounds j = (its.eraseIdx j).toArray
      rw [List.eraseIdxIfInBounds_toArray]
    · have := len_erase xs j
      omega
end Vf
namespace Vf
open PySem L2 PySem.Spec PyProof.Rows He
theorem ePK (K : PySem.W.Frag) {X : Cx} (hu : X.A.units + 64 < cLine) (hK : X.K = K := by rfl) : OpR X (compareOp .Eq) (rEqP K) := hK ▸ op_eqP hu
theorem nPK (K : PySem.W.Frag) {X : Cx} (hu : X.A.units + 64 < cLine) (hK : X.K = K := by rfl) : OpR X (compareOp .NotEq) (rNeP K) := hK ▸ op_neP hu
end Vf

/-! for k, (a, b) in enumerate(zip(s, t)): two tuples. The pairs are let go by nobody: the zip then knows of one that is out. -/
namespace Vf
open PySem L2 PySem.Spec PyProof.Rows He RZ
abbrev ZSt (h : Heap) (z TI TO : Addr) (own : Value) (f : Bool) : Prop := h.get? z = some { slots := #[], data := .fields #[own, .bool f, .bool false, .ref TI, .ref TO], dict := none, cls := .type "zip" }
def OwnOk (own : Value) : Prop := own = .none ∨ ∃ T : Addr, own = rawInt T
section
variable {P : Program} {w : World} {A : Around} {E : Value → Shared → Prop} {s : Shared} {z TI TO : Addr} {own : Value} {f : Bool}
theorem z_free (hz : ZSt s.heap z TI TO own f) (ho : OwnOk own) {Q : Bool → Shared → Prop} (q : ∀ (b : Bool) (g : Heap) (f' : Bool), ZSt g z TI TO own f' → Heap.SameBut z s.heap g → Q b { s with heap := g }) :
    wpAny (model P w) A (Builtin.SmallTypes.ownedTupleIsFree (.ref z)) Q E s := by
  unfold Builtin.SmallTypes.ownedTupleIsFree
  rcases ho with rfl | ⟨T, rfl⟩
  · exact wpAny_bind (wpAny_field hz rfl (x := .none) rfl (wpAny_pure (q true s.heap f hz (Heap.SameBut.refl _ _))))
  · refine wpAny_bind (wpAny_field hz rfl (x := rawInt T) rfl ?_)
    show wpAny _ _ (loadIfAlive ((T : Int).toNat) >>= _) _ _ _
    refine wpAny_bind ?_
    have al : ∀ {R : Option Obj → Shared → Prop}, R (s.heap.get? (T : Int).toNat) s → wpAny (model P w) A (loadIfAlive ((T : Int).toNat)) R E s := by
      intro R h
      exact fun _ _ _ => h
    refine al ?_
    cases hT : s.heap.get? (T : Int).toNat with
    | none => exact wpAny_pure (q true s.heap f hz (Heap.SameBut.refl _ _))
    | some o =>
      simp only [Option.isNone_some, Bool.false_eq_true, if_false]
      refine wpAny_bind (wpAny_field hz rfl (x := .bool f) rfl ?_)
      cases f with
      | true =>
        rw [if_neg (show ¬ ((Value.bool true != Value.bool true) = true) from Bool.false_ne_true)]
        exact wpAny_pure (q false s.heap true hz (Heap.SameBut.refl _ _))
      | false =>
        rw [if_pos (show (Value.bool false != Value.bool true) = true from rfl)]
        exact wpAny_bind (wpAny_setField_rec hz (by simp) fun g hg sg => wpAny_pure (q false g true hg sg))
/-- what is apart -/
theorem z_item {i1 i2 l1 l2 : Addr} {k : Nat} {xs ys : Array Value} {x y c d : Value} {Q : Value → Shared → Prop} (D : ZipApart z TI TO i1 i2 l1 l2) (hz : ZSt s.heap z TI TO own f) (ho : OwnOk own)
    (hI : IsPair s.heap TI (.ref i1) (.ref i2)) (hO : IsPair s.heap TO c d) (t1 : s.heap.IsTupleIter i1 l1 k) (t2 : s.heap.IsTupleIter i2 l2 k)
    (r1 : s.heap.IsTuple l1 xs) (r2 : s.heap.IsTuple l2 ys) (ex : xs[k]? = some x) (ey : ys[k]? = some y)
    (q : ∀ (g : Heap) (own' : Value) (f' : Bool) (c' d' : Value), ZSt g z TI TO own' f' → OwnOk own' → IsPair g TO c' d' → g.IsTupleIter i1 l1 (k + 1) → g.IsTupleIter i2 l2 (k + 1) → IsPair g s.heap.objs.size x y → g.objs.size = s.heap.objs.size + 1 →
      (∀ b o, b ≠ z → b ≠ TO → b ≠ i1 → b ≠ i2 → s.heap.get? b = some o → g.get? b = some o) → Q (.ref s.heap.objs.size) { s with heap := g }) :
    wpAny (model P w) A (Builtin.SmallTypes.nextOf (.ref z)) Q E s := by
  have ty : s.TypeIs (.ref z) "zip" := ⟨_, hz, rfl⟩
  unfold Builtin.SmallTypes.nextOf
  refine wpAny_bind (wpAny_callSpecial?_slot (name := Str.ofString "__next__") ty F.slot_zip_next (wpAny_call_entry F.slot_zip_next ty F.entry_zip_next ?_ (F.args_zip_next_1 _)))
  show wpAny _ _ (field (.ref z) 2 >>= _) _ _ _
  refine wpAny_bind (wpAny_field hz rfl (x := .bool false) rfl ?_)
  show wpAny _ _ (field (.ref z) 3 >>= _) _ _ _
  refine wpAny_bind (wpAny_field hz rfl (x := .ref TI) rfl ?_)
  refine wpAny_bind (wpAny_seqItems hI rfl ?_)
  show wpAny _ _ (Builtin.SmallTypes.ownedTupleIsFree (.ref z) >>= _) _ _ _
  refine wpAny_bind (z_free hz ho fun b g1 f1 z1 s1 => ?_)
  have t1a := t1.extBut s1.extBut D.i1z
  have t2a := t2.extBut s1.extBut D.i2z
  have r1a := r1.extBut s1.extBut D.l1z
  have r2a := r2.extBut s1.extBut D.l2z
  have oa : IsPair g1 TO c d := s1.extBut _ _ D.TOz hO
  cases b with
  | true =>
    simp only [if_true]
    refine wpAny_bind (wpAny_rule ?_)
    refine wpAny_bind (wpAny_field z1 rfl (x := .ref TO) rfl ?_)
    refine wpAny_bind (wpAny_setField_rec z1 (by simp) fun g2 z2 s2 => ?_)
    replace z2 : ZSt g2 z TI TO .ellipsis f1 := z2
    refine wpAny_bind ?_
    simp only [List.zipIdx_cons, List.zipIdx_nil, List.forIn_cons, List.forIn_nil]
    refine wpAny_bind (wpAny_bind (wpAny_onRaise ?_))
    show wpAny _ _ (Builtin.SmallTypes.nextOf (.ref i1) >>= _) _ _ _
    refine wpAny_bind (nextOf_tuple_item (t1a.extBut s2.extBut D.i1z) (r1a.extBut s2.extBut D.l1z) ex fun g3 t1b s3 => wpAny_pure ?_)
    have ob : IsPair g3 TO c d := s3.extBut _ _ D.TOi1 (s2.extBut _ _ D.TOz oa)
    refine wpAny_bind (wpAny_seqItems ob rfl ?_)
    refine wpAny_bind (wpAny_updateSeq_pair ob fun g4 oc s4 => ?_)
    replace oc : IsPair g4 TO x d := oc
    refine wpAny_bind (wpAny_letGo (wpAny_pure ?_))
    refine wpAny_bind (wpAny_bind (wpAny_onRaise ?_))
    show wpAny _ _ (Builtin.SmallTypes.nextOf (.ref i2) >>= _) _ _ _
    refine wpAny_bind (nextOf_tuple_item (((t2a.extBut s2.extBut D.i2z).extBut s3.extBut D.i12.symm).extBut s4.extBut D.TOi2.symm) (((r2a.extBut s2.extBut D.l2z).extBut s3.extBut D.l2i1).extBut s4.extBut D.l2TO) ey fun g5 t2b s5 => wpAny_pure ?_)
    have od : IsPair g5 TO x d := s5.extBut _ _ D.TOi2 oc
    refine wpAny_bind (wpAny_seqItems od rfl ?_)
    refine wpAny_bind (wpAny_updateSeq_pair od fun g6 oe s6 => ?_)
    replace oe : IsPair g6 TO x y := oe
    refine wpAny_bind (wpAny_letGo (wpAny_pure (wpAny_pure ?_)))
    refine wpAny_bind (wpAny_seqItems oe rfl ?_)
    refine wpAny_bind (wpAny_newTuple ?_)
    have size : g6.objs.size = s.heap.objs.size := by rw [s6.1, s5.1, s4.1, s3.1, s2.1, s1.1]
    have z6 : ZSt g6 z TI TO .ellipsis f1 := s6.extBut _ _ D.TOz.symm (s5.extBut _ _ D.i2z.symm (s4.extBut _ _ D.TOz.symm (s3.extBut _ _ D.i1z.symm z2)))
    have k6 : ∀ b o, b ≠ z → b ≠ TO → b ≠ i1 → b ≠ i2 → s.heap.get? b = some o → g6.get? b = some o := fun b o n1 n2 n3 n4 e => s6.extBut _ _ n2 (s5.extBut _ _ n4 (s4.extBut _ _ n2 (s3.extBut _ _ n3 (s2.extBut _ _ n1 (s1.extBut _ _ n1 e)))))
    have t16 : g6.IsTupleIter i1 l1 (k + 1) := ((t1b.extBut s4.extBut D.TOi1.symm).extBut s5.extBut D.i12).extBut s6.extBut D.TOi1.symm
    have t26 : g6.IsTupleIter i2 l2 (k + 1) := t2b.extBut s6.extBut D.TOi2.symm
    have zl : z < g6.objs.size := Heap.lt_size z6
    show wpAny _ _ (Builtin.SmallTypes.ownedTupleHandOut (.ref z) (.ref g6.objs.size) >>= _) _ _ _
    refine wpAny_bind ?_
    unfold Builtin.SmallTypes.ownedTupleHandOut
    have z7 : ZSt (g6.push { cls := .type "tuple", data := .seq #[x, y] }) z TI TO .ellipsis f1 := Heap.get?_push_of_some _ z6
    refine wpAny_bind (wpAny_setField_rec z7 (by simp) fun g8 z8 s8 => ?_)
    replace z8 : ZSt g8 z TI TO (rawInt g6.objs.size) f1 := z8
    refine wpAny_setField_rec z8 (by simp) fun g9 z9 s9 => ?_
    replace z9 : ZSt g9 z TI TO (rawInt g6.objs.size) false := z9
    have up : ∀ b o, b ≠ z → g6.get? b = some o → g9.get? b = some o := fun b o n e => s9.extBut _ _ n (s8.extBut _ _ n (Heap.get?_push_of_some _ e))
    have p9 : IsPair g9 g6.objs.size x y := s9.extBut _ _ (Nat.ne_of_gt zl) (s8.extBut _ _ (Nat.ne_of_gt zl) (Heap.get?_push_size _ rfl))
    have size9 : g9.objs.size = g6.objs.size + 1 := by rw [s9.1, s8.1, Heap.size_push]
    rw [size] at z9 p9 size9
    refine wpAny_pure ⟨_, rfl, wpAny_pure ?_⟩
    show Q (.ref g6.objs.size) _
    rw [size]
    exact q g9 _ _ _ _ z9 (.inr ⟨_, rfl⟩) (up _ _ D.TOz oe) (t16.at fun o e => up _ o D.i1z e) (t26.at fun o e => up _ o D.i2z e) p9 size9 fun b o n1 n2 n3 n4 e => up b o n1 (k6 b o n1 n2 n3 n4 e)
  | false =>
    simp only [Bool.false_eq_true, if_false]
    refine wpAny_bind ?_
    rw [← Array.forIn_toList]
    simp only [List.forIn_cons, List.forIn_nil]
    refine wpAny_bind (wpAny_bind (wpAny_holding ?_))
    show wpAny _ _ (Builtin.SmallTypes.nextOf (.ref i1) >>= _) _ _ _
    refine wpAny_bind (nextOf_tuple_item t1a r1a ex fun g3 t1b s3 => wpAny_pure ?_)
    refine wpAny_pure ?_
    refine wpAny_bind (wpAny_bind (wpAny_holding ?_))
    show wpAny _ _ (Builtin.SmallTypes.nextOf (.ref i2) >>= _) _ _ _
    refine wpAny_bind (nextOf_tuple_item (t2a.extBut s3.extBut D.i12.symm) (r2a.extBut s3.extBut D.l2i1) ey fun g5 t2b s5 => wpAny_pure ?_)
    refine wpAny_pure (wpAny_pure ?_)
    show wpAny _ _ (newTuple [x, y] >>= _) _ _ _
    refine wpAny_bind (wpAny_newTuple ?_)
    have size : g5.objs.size = s.heap.objs.size := by rw [s5.1, s3.1, s1.1]
    have z5 : ZSt g5 z TI TO own f1 := s5.extBut _ _ D.i2z.symm (s3.extBut _ _ D.i1z.symm z1)
    have o5 : IsPair g5 TO c d := s5.extBut _ _ D.TOi2 (s3.extBut _ _ D.TOi1 oa)
    have k5 : ∀ b o, b ≠ z → b ≠ i1 → b ≠ i2 → s.heap.get? b = some o → g5.get? b = some o := fun b o n1 n3 n4 e => s5.extBut _ _ n4 (s3.extBut _ _ n3 (s1.extBut _ _ n1 e))
    have t15 : g5.IsTupleIter i1 l1 (k + 1) := t1b.extBut s5.extBut D.i12
    have p9 : IsPair (g5.push { cls := .type "tuple", data := .seq #[x, y] }) g5.objs.size x y := Heap.get?_push_size _ rfl
    have size9 : (g5.push { cls := .type "tuple", data := .seq #[x, y] }).objs.size = g5.objs.size + 1 := Heap.size_push ..
    refine wpAny_pure ⟨_, rfl, wpAny_pure ?_⟩
    show Q (.ref g5.objs.size) _
    rw [size] at p9 size9 ⊢
    exact q _ _ _ _ _ (Heap.get?_push_of_some _ z5) ho (Heap.get?_push_of_some _ o5) (t15.at fun o e => Heap.get?_push_of_some _ e) (t2b.at fun o e => Heap.get?_push_of_some _ e) p9 size9 fun b o n1 _ n3 n4 e => Heap.get?_push_of_some _ (k5 b o n1 n3 n4 e)
/-- nothing is left -/
theorem z_end {i1 i2 l1 l2 : Addr} {k : Nat} {xs ys : Array Value} {c d : Value} {Q : Value → Shared → Prop} (h0 : A.handled = none) (D : ZipApart z TI TO i1 i2 l1 l2) (hz : ZSt s.heap z TI TO own f) (ho : OwnOk own)
    (hI : IsPair s.heap TI (.ref i1) (.ref i2)) (hO : IsPair s.heap TO c d) (t1 : s.heap.IsTupleIter i1 l1 k) (t2 : s.heap.IsTupleIter i2 l2 k)
    (r1 : s.heap.IsTuple l1 xs) (r2 : s.heap.IsTuple l2 ys) (ends : xs[k]? = none ∨ ys[k]? = none)
    (q : ∀ (g : Heap) (x : Addr), (∀ b o, b ≠ z → b ≠ TO → b ≠ i1 → b ≠ i2 → s.heap.get? b = some o → g.get? b = some o) → (∃ o, g.get? x = some o ∧ o.cls = .type "StopIteration") → E (.ref x) { s with heap := g }) :
    wpAny (model P w) A (Builtin.SmallTypes.nextOf (.ref z)) Q E s := by
  have ty : s.TypeIs (.ref z) "zip" := ⟨_, hz, rfl⟩
  unfold Builtin.SmallTypes.nextOf
  refine wpAny_bind (wpAny_callSpecial?_slot (name := Str.ofString "__next__") ty F.slot_zip_next (wpAny_call_entry F.slot_zip_next ty F.entry_zip_next ?_ (F.args_zip_next_1 _)))
  show wpAny _ _ (field (.ref z) 2 >>= _) _ _ _
  refine wpAny_bind (wpAny_field hz rfl (x := .bool false) rfl ?_)
  show wpAny _ _ (field (.ref z) 3 >>= _) _ _ _
  refine wpAny_bind (wpAny_field hz rfl (x := .ref TI) rfl ?_)
  refine wpAny_bind (wpAny_seqItems hI rfl ?_)
  show wpAny _ _ (Builtin.SmallTypes.ownedTupleIsFree (.ref z) >>= _) _ _ _
  refine wpAny_bind (z_free hz ho fun b g1 f1 z1 s1 => ?_)
  have t1a := t1.extBut s1.extBut D.i1z
  have t2a := t2.extBut s1.extBut D.i2z
  have r1a := r1.extBut s1.extBut D.l1z
  have r2a := r2.extBut s1.extBut D.l2z
  have oa : IsPair g1 TO c d := s1.extBut _ _ D.TOz hO
  cases b with
  | true =>
    simp only [if_true]
    refine wpAny_bind (wpAny_rule ?_)
    refine wpAny_bind (wpAny_field z1 rfl (x := .ref TO) rfl ?_)
    refine wpAny_bind (wpAny_setField_rec z1 (by simp) fun g2 z2 s2 => ?_)
    replace z2 : ZSt g2 z TI TO .ellipsis f1 := z2
    refine wpAny_bind ?_
    simp only [List.zipIdx_cons, List.zipIdx_nil, List.forIn_cons, List.forIn_nil]
    refine wpAny_bind (wpAny_bind (wpAny_onRaise ?_))
    show wpAny _ _ (Builtin.SmallTypes.nextOf (.ref i1) >>= _) _ _ _
    cases ex : xs[k]? with
    | none =>
      refine wpAny_bind (nextOf_tuple_end h0 (t1a.extBut s2.extBut D.i1z) (r1a.extBut s2.extBut D.l1z) ex fun g3 er s3 ⟨oe, e1, e2⟩ => ?_)
      have z3 : ZSt g3 z TI TO .ellipsis f1 := s3 _ _ D.i1z.symm z2
      have ne : er ≠ z := fun h => by subst h; rw [z3] at e1; cases e1; simp at e2
      refine wpAny_setField_rec z3 (by simp) fun g4 _ s4 => q g4 er (fun b o n1 n2 n3 n4 e => s4.extBut _ _ n1 (s3 _ _ n3 (s2.extBut _ _ n1 (s1.extBut _ _ n1 e)))) ⟨oe, s4.extBut _ _ ne e1, e2⟩
    | some x =>
      have ey : ys[k]? = none := ends.resolve_left (by rw [ex]; exact fun z => nomatch z)
      refine wpAny_bind (nextOf_tuple_item (t1a.extBut s2.extBut D.i1z) (r1a.extBut s2.extBut D.l1z) ex fun g3 t1b s3 => wpAny_pure ?_)
      have ob : IsPair g3 TO c d := s3.extBut _ _ D.TOi1 (s2.extBut _ _ D.TOz oa)
      refine wpAny_bind (wpAny_seqItems ob rfl ?_)
      refine wpAny_bind (wpAny_updateSeq_pair ob fun g4 oc s4 => ?_)
      refine wpAny_bind (wpAny_letGo (wpAny_pure ?_))
      refine wpAny_bind (wpAny_bind (wpAny_onRaise ?_))
      show wpAny _ _ (Builtin.SmallTypes.nextOf (.ref i2) >>= _) _ _ _
      refine wpAny_bind (nextOf_tuple_end h0 (((t2a.extBut s2.extBut D.i2z).extBut s3.extBut D.i12.symm).extBut s4.extBut D.TOi2.symm) (((r2a.extBut s2.extBut D.l2z).extBut s3.extBut D.l2i1).extBut s4.extBut D.l2TO) ey fun g5 er s5 ⟨oe, e1, e2⟩ => ?_)
      have z5 : ZSt g5 z TI TO .ellipsis f1 := s5 _ _ D.i2z.symm (s4.extBut _ _ D.TOz.symm (s3.extBut _ _ D.i1z.symm z2))
      have ne : er ≠ z := fun h => by subst h; rw [z5] at e1; cases e1; simp at e2
      refine wpAny_setField_rec z5 (by simp) fun g6 _ s6 => q g6 er (fun b o n1 n2 n3 n4 e => s6.extBut _ _ n1 (s5 _ _ n4 (s4.extBut _ _ n2 (s3.extBut _ _ n3 (s2.extBut _ _ n1 (s1.extBut _ _ n1 e)))))) ⟨oe, s6.extBut _ _ ne e1, e2⟩
  | false =>
    simp only [Bool.false_eq_true, if_false]
    refine wpAny_bind ?_
    rw [← Array.forIn_toList]
    simp only [List.forIn_cons, List.forIn_nil]
    refine wpAny_bind (wpAny_bind (wpAny_holding ?_))
    show wpAny _ _ (Builtin.SmallTypes.nextOf (.ref i1) >>= _) _ _ _
    cases ex : xs[k]? with
    | none =>
      exact wpAny_bind (nextOf_tuple_end h0 t1a r1a ex fun g3 er s3 he => q g3 er (fun b o n1 n2 n3 n4 e => s3 _ _ n3 (s1.extBut _ _ n1 e)) he)
    | some x =>
      have ey : ys[k]? = none := ends.resolve_left (by rw [ex]; exact fun z => nomatch z)
      refine wpAny_bind (nextOf_tuple_item t1a r1a ex fun g3 t1b s3 => wpAny_pure ?_)
      refine wpAny_pure ?_
      refine wpAny_bind (wpAny_bind (wpAny_holding ?_))
      show wpAny _ _ (Builtin.SmallTypes.nextOf (.ref i2) >>= _) _ _ _
      exact wpAny_bind (nextOf_tuple_end h0 (t2a.extBut s3.extBut D.i12.symm) (r2a.extBut s3.extBut D.l2i1) ey fun g5 er s5 he => q g5 er (fun b o n1 n2 n3 n4 e => s5 _ _ n4 (s3.extBut _ _ n3 (s1.extBut _ _ n1 e))) he)
/-- the next one told: its pair first, then the pair of its number and that -/
theorem ez_item {e i1 i2 l1 l2 : Addr} {k : Nat} {xs ys : Array Value} {x y c d prev : Value} {Q : Option Value → Shared → Prop} (D : ZipApart z TI TO i1 i2 l1 l2) (he : IsEnum s.heap e z (k : Int) prev) (hz : ZSt s.heap z TI TO own f) (ho : OwnOk own)
    (n1 : e ≠ z) (n2 : e ≠ TO) (n3 : e ≠ i1) (n4 : e ≠ i2) (n5 : e ≠ TI)
    (hI : IsPair s.heap TI (.ref i1) (.ref i2)) (hO : IsPair s.heap TO c d) (t1 : s.heap.IsTupleIter i1 l1 k) (t2 : s.heap.IsTupleIter i2 l2 k)
    (r1 : s.heap.IsTuple l1 xs) (r2 : s.heap.IsTuple l2 ys) (ex : xs[k]? = some x) (ey : ys[k]? = some y)
    (q : ∀ (g g' : Heap) (tk : Nat) (own' : Value) (f' : Bool) (c' d' v : Value), IsPair g s.heap.objs.size x y → g.objs.size = s.heap.objs.size + 1 → (∀ b o, b ≠ z → b ≠ TO → b ≠ i1 → b ≠ i2 → s.heap.get? b = some o → g.get? b = some o) →
      (∀ b o, b ≠ e → g.get? b = some o → g'.get? b = some o) → IsEnumOut g' e z ((k : Int) + 1) v (s.heap.objs.size + 1) → ZSt g' z TI TO own' f' → OwnOk own' → IsPair g' TO c' d' → g'.IsTupleIter i1 l1 (k + 1) → g'.IsTupleIter i2 l2 (k + 1) →
      (∃ tt, IsPair g' (s.heap.objs.size + 1) (.int k tt) (.ref s.heap.objs.size)) → Q (some (.ref (s.heap.objs.size + 1))) { s with heap := g', toks := tk }) :
    wpAny (model P w) A (pyNext (.ref e)) Q E s := by
  have ty : s.TypeIs (.ref e) "enumerate" := ⟨_, he, rfl⟩
  unfold pyNext
  refine wpAny_bind (wpAny_attempt (wpAny_callSpecial?_slot (name := Str.ofString "__next__") ty F.slot_enumerate_next (wpAny_call_entry F.slot_enumerate_next ty F.entry_enumerate_next ?_ (F.args_enumerate_next_1 _))))
  show wpAny (model P w) A.in1 (field (.ref e) 2 >>= _) _ _ s
  refine wpAny_bind (wpAny_field he rfl (x := .ref z) rfl ?_)
  refine wpAny_bind (z_item D hz ho hI hO t1 t2 r1 r2 ex ey fun g own' f' c' d' z' oo po a1 a2 pn size keep => ?_)
  obtain ⟨hp, gs, dr, tk, os⟩ := s
  dsimp only at he pn size keep q ⊢
  have e1 : IsEnum g e z (k : Int) prev := keep e _ n1 n2 n3 n4 he
  have el : e < hp.objs.size := Heap.lt_size he
  show wpAny _ _ (field (.ref e) 3 >>= _) _ _ ⟨g, gs, dr, tk, os⟩
  refine wpAny_bind (wpAny_field e1 rfl (x := rawInt k) rfl ?_)
  show wpAny _ _ (field (.ref e) 4 >>= _) _ _ ⟨g, gs, dr, tk, os⟩
  refine wpAny_bind (wpAny_field e1 rfl (x := .none) rfl ?_)
  show wpAny _ _ (mkInt k >>= _) _ _ ⟨g, gs, dr, tk, os⟩
  refine wpAny_bind (wpAny_mkInt ?_)
  show wpAny _ _ (setField (.ref e) 3 (rawInt ((k : Int) + 1)) >>= _) _ _ ⟨g, gs, dr, tk + 1, os⟩
  refine wpAny_bind (wpAny_setField_rec e1 (by simp) fun g2 e2 s2 => ?_)
  replace s2 : Heap.SameBut e g g2 := s2
  replace e2 : IsEnum g2 e z ((k : Int) + 1) prev := e2
  show wpAny _ _ (setField (.ref e) 4 .none >>= _) _ _ ⟨g2, gs, dr, tk + 1, os⟩
  refine wpAny_bind (wpAny_setField_rec e2 (by simp) fun g3 e3 s3 => ?_)
  replace s3 : Heap.SameBut e g2 g3 := s3
  replace e3 : IsEnum g3 e z ((k : Int) + 1) prev := e3
  show wpAny _ _ (newTuple [.int k tk, .ref hp.objs.size] >>= _) _ _ ⟨g3, gs, dr, tk + 1, os⟩
  refine wpAny_bind (wpAny_newTuple ?_)
  have size3 : g3.objs.size = hp.objs.size + 1 := by rw [s3.1, s2.1, size]
  have e4 : IsEnum (g3.push { cls := .type "tuple", data := .seq #[.int k tk, .ref hp.objs.size] }) e z ((k : Int) + 1) prev := Heap.get?_push_of_some _ e3
  have p4 : IsPair (g3.push { cls := .type "tuple", data := .seq #[.int k tk, .ref hp.objs.size] }) (hp.objs.size + 1) (.int k tk) (.ref hp.objs.size) := by rw [← size3]; exact Heap.get?_push_size _ rfl
  have k4 : ∀ b o, b ≠ e → g.get? b = some o → (g3.push { cls := .type "tuple", data := .seq #[.int k tk, .ref hp.objs.size] }).get? b = some o := fun b o n h => Heap.get?_push_of_some _ (s3.extBut b o n (s2.extBut b o n h))
  generalize g3.push { cls := .type "tuple", data := .seq #[.int k tk, .ref hp.objs.size] } = g4 at e4 p4 k4
  show wpAny _ _ (Builtin.SmallTypes.ownedTupleIsFree (.ref e) >>= _) _ _ ⟨g4, gs, dr, tk + 1, os⟩
  rw [size3]
  refine wpAny_bind ?_
  unfold Builtin.SmallTypes.ownedTupleIsFree
  refine wpAny_bind (wpAny_field e4 rfl (x := .none) rfl (wpAny_pure ?_))
  simp only [if_true]
  refine wpAny_bind (wpAny_rule ?_)
  refine wpAny_bind (wpAny_field e4 rfl (x := prev) rfl ?_)
  refine wpAny_bind (wpAny_setField_rec e4 (by simp) fun g5 e5 s5 => ?_)
  replace s5 : Heap.SameBut e g4 g5 := s5
  replace e5 : IsEnum g5 e z ((k : Int) + 1) (.ref hp.objs.size) := e5
  show wpAny _ _ (Builtin.SmallTypes.ownedTupleHandOut (.ref e) (.ref (hp.objs.size + 1)) >>= _) _ _ ⟨g5, gs, dr, tk + 1, os⟩
  refine wpAny_bind ?_
  unfold Builtin.SmallTypes.ownedTupleHandOut
  refine wpAny_bind (wpAny_setField_rec e5 (by simp) fun g6 e6 s6 => ?_)
  replace s6 : Heap.SameBut e g5 g6 := s6
  replace e6 : IsEnumOut g6 e z ((k : Int) + 1) (.ref hp.objs.size) (hp.objs.size + 1) := e6
  refine wpAny_setField_rec e6 (by simp) fun g7 e7 s7 => ?_
  replace s7 : Heap.SameBut e g6 g7 := s7
  replace e7 : IsEnumOut g7 e z ((k : Int) + 1) (.ref hp.objs.size) (hp.objs.size + 1) := e7
  have k7 : ∀ b o, b ≠ e → g4.get? b = some o → g7.get? b = some o := fun b o n h => s7.extBut b o n (s6.extBut b o n (s5.extBut b o n h))
  have up : ∀ b o, b ≠ e → g.get? b = some o → g7.get? b = some o := fun b o n h => k7 b o n (k4 b o n h)
  refine wpAny_bind (wpAny_letGo (wpAny_pure ⟨_, rfl, wpAny_pure (q g g7 (tk + 1) own' f' c' d' _ pn size keep up e7 (up _ _ (Ne.symm n1) z') oo (up _ _ (Ne.symm n2) po) (a1.at fun o h => up _ o (Ne.symm n3) h) (a2.at fun o h => up _ o (Ne.symm n4) h) ⟨tk, k7 _ _ ?_ p4⟩)⟩))
  exact Nat.ne_of_gt (Nat.lt_succ_of_lt el)
theorem ez_end {e i1 i2 l1 l2 : Addr} {k : Nat} {xs ys : Array Value} {c d prev : Value} {Q : Option Value → Shared → Prop} (h0 : A.handled = none) (D : ZipApart z TI TO i1 i2 l1 l2) (he : IsEnum s.heap e z (k : Int) prev) (hz : ZSt s.heap z TI TO own f) (ho : OwnOk own)
    (hI : IsPair s.heap TI (.ref i1) (.ref i2)) (hO : IsPair s.heap TO c d) (t1 : s.heap.IsTupleIter i1 l1 k) (t2 : s.heap.IsTupleIter i2 l2 k)
    (r1 : s.heap.IsTuple l1 xs) (r2 : s.heap.IsTuple l2 ys) (ends : xs[k]? = none ∨ ys[k]? = none)
    (q : ∀ g : Heap, (∀ b o, b ≠ z → b ≠ TO → b ≠ i1 → b ≠ i2 → s.heap.get? b = some o → g.get? b = some o) → Q none { s with heap := g }) :
    wpAny (model P w) A (pyNext (.ref e)) Q E s := by
  have ty : s.TypeIs (.ref e) "enumerate" := ⟨_, he, rfl⟩
  unfold pyNext
  refine wpAny_bind (wpAny_attempt (wpAny_callSpecial?_slot (name := Str.ofString "__next__") ty F.slot_enumerate_next (wpAny_call_entry F.slot_enumerate_next ty F.entry_enumerate_next ?_ (F.args_enumerate_next_1 _))))
  show wpAny (model P w) A.in1 (field (.ref e) 2 >>= _) _ _ s
  refine wpAny_bind (wpAny_field he rfl (x := .ref z) rfl ?_)
  refine wpAny_bind (z_end (by simp [h0]) D hz ho hI hO t1 t2 r1 r2 ends fun g x keep ⟨oe, e1, e2⟩ => ?_)
  refine wpAny_bind (wpAny_isInstance (T := "StopIteration") (b := true) ⟨oe, e1, e2⟩ isSubtype_stop ?_)
  exact wpAny_pure (q g keep)
end
end Vf

namespace PySem
theorem meets_enumerate_zip (z TI TO : Addr) (f0 : Value) :
    Meets (Builtin.«enumerate.__new__» ⟨[.type "enumerate", .ref z], []⟩) (fun _ R s => IsZip s.heap z TI TO f0 ∧
      R (.ok (.ret (.ref s.heap.objs.size))) { s with heap := s.heap.push { data := .fields #[.none, .bool false, .ref z, rawInt 0, .none, .none], cls := .type "enumerate" } }) :=
  .of_wp fun prg w A R s h => by
    obtain ⟨hp, g, d, tk, os⟩ := s; obtain ⟨hz, h⟩ := h
    have hsub := sub_enumerate
    have zz : IsZip (Shared.heap ⟨hp, g, d, tk, os⟩) z TI TO f0 := hz
    have q1 : ∀ {A' : Around} {E : Value → Shared → Prop} {Q : Value → Shared → Prop}, Q (.ref z) ⟨hp, g, d, tk, os⟩ → wpAny (model prg w) A' (pyIter (.ref z)) Q E ⟨hp, g, d, tk, os⟩ := fun q => wpAny_pyIter_zip zz q
    wp_walk using q1
    refine wpAny_stack_any fun here => wpAny_pure ?_
    split
    · rename_i cls9 _ _ _ _ _
      cases (cls9 == Value.type "enumerate")
      · wp_walk using q1
        exact ⟨_, rfl, h⟩
      · wp_walk using q1
        exact ⟨_, rfl, h⟩
    · wp_walk using q1
      exact ⟨_, rfl, h⟩
theorem call_enumerate_zip {prg : Program} {w : World} {A : Around} {E : Value → Shared → Prop} {s : Shared} {z TI TO : Addr} {f0 : Value} {Q : Value → Shared → Prop} (hz : IsZip s.heap z TI TO f0)
    (h : ∀ g, IsEnum g s.heap.objs.size z 0 .none → (∀ b o, s.heap.get? b = some o → g.get? b = some o) → Q (.ref s.heap.objs.size) { s with heap := g }) :
    wpAny (model prg w) A (call (.type "enumerate") [.ref z]) Q E s := by
  refine callType_new F.called_enumerate (by decide) (F.typeCall_enumerate_1 _) (F.newCall_enumerate_1 _) (fun it => F.args_object_init_2 it _) F.entry_enumerate_new (meets_enumerate_zip z TI TO f0) ⟨hz, ?_⟩
  have qe : IsEnum (s.heap.push { data := .fields #[.none, .bool false, .ref z, rawInt 0, .none, .none], cls := .type "enumerate" }) s.heap.objs.size z 0 .none := Heap.get?_push_size _ rfl
  exact ⟨⟨_, qe, rfl⟩, h _ qe fun b o e => Heap.get?_push_of_some _ e⟩
end PySem
namespace Vf
open PySem L2 PySem.Spec PyProof.Rows He RZ
/-- enumerate(zip(s, t)), s and t tuples -/
def IteZ (K : PySem.W.Frag) (a b : Addr) : It :=
  ⟨fun i H => ∃ (xs ys : List V) (x y : V), SqT K H a xs ∧ SqT K H b ys ∧ xs[i]? = some x ∧ ys[i]? = some y,
   fun i H v H' => ∃ Pp T x y, v = .ref T ∧ H Pp = none ∧ upd H Pp (.tup [x, y]) T = none ∧ H' = upd (upd H Pp (.tup [x, y])) T (.tup [.int (i : Nat), .ref Pp]) ∧ (∀ xs, SqT K H a xs → xs[i]? = some x) ∧ ∀ ys, SqT K H b ys → ys[i]? = some y,
   fun i H => ∃ xs ys : List V, SqT K H a xs ∧ SqT K H b ys ∧ (xs.length ≤ i ∨ ys.length ≤ i)⟩
structure EzAt (a b e z TI TO i1 i2 : Addr) (i : Nat) (h : Heap) : Prop where
  e : ∃ prev, IsEnum h e z (i : Int) prev
  z : ∃ own f, ZSt h z TI TO own f ∧ OwnOk own
  p : IsPair h TI (.ref i1) (.ref i2)
  o : ∃ c d, IsPair h TO c d
  t1 : h.IsTupleIter i1 a i
  t2 : h.IsTupleIter i2 b i
theorem turn_enumZ {P : Program} {w : World} {K : PySem.W.Frag} {elts : List Expr} {kk : Nat} {tpos : Pos} {a b e z TI TO i1 i2 : Addr} (D : ZipApart z TI TO i1 i2 a b) (n1 : e ≠ z) (n2 : e ≠ TO) (n3 : e ≠ i1) (n4 : e ≠ i2) (n5 : e ≠ TI) :
    Turn P w K (.Tuple elts kk tpos) (IteZ K a b) [e, z, TI, TO, i1, i2] e (EzAt a b e z TI TO i1 i2) where
  mem := by simp
  obj := fun i h here c hc => by
    obtain ⟨⟨prev, he⟩, ⟨own, f, hz, _⟩, hp, ⟨c', d', ho⟩, ⟨o1, e1, _, d1⟩, ⟨o2, e2, _, d2⟩⟩ := here
    have e' : c = e ∨ c = z ∨ c = TI ∨ c = TO ∨ c = i1 ∨ c = i2 := by simpa using hc
    rcases e' with q | q | q | q | q | q
    · rw [q]; exact ⟨_, he, fun v q => nomatch q⟩
    · rw [q]; exact ⟨_, hz, fun v q => nomatch q⟩
    · rw [q]; exact ⟨_, hp, fun v q => nomatch q⟩
    · rw [q]; exact ⟨_, ho, fun v q => nomatch q⟩
    · rw [q]; exact ⟨o1, e1, fun v q => by rw [d1] at q; cases q⟩
    · rw [q]; exact ⟨o2, e2, fun v q => by rw [d2] at q; cases q⟩
  keep := fun i h h' here k => by
    obtain ⟨⟨prev, he⟩, ⟨own, f, hz, oo⟩, hp, ⟨c', d', ho⟩, h1, h2⟩ := here
    exact ⟨⟨prev, k e (by simp) _ he⟩, ⟨own, f, k z (by simp) _ hz, oo⟩, k TI (by simp) _ hp, ⟨c', d', k TO (by simp) _ ho⟩, h1.at fun o q => k i1 (by simp) o q, h2.at fun o q => k i2 (by simp) o q⟩
  item := by
    intro X hP hw hK wc i pins s σ H E I fp here got
    subst hP hw hK
    obtain ⟨⟨prev, he⟩, ⟨own, f, hz, oo⟩, hp, ⟨c', d', ho⟩, h1, h2⟩ := here
    obtain ⟨xs, ys, x, y, qx, qy, hx, hy⟩ := got
    obtain ⟨its, rv, p1, _⟩ := I.tuple qx
    obtain ⟨its2, rv2, p2, _⟩ := I.tuple qy
    obtain ⟨u, hu, ru⟩ := rv.get hx
    obtain ⟨u2, hu2, ru2⟩ := rv2.get hy
    have el : e < s.heap.objs.size := Heap.lt_size he
    have small : ∀ c ∈ [e, z, TI, TO, i1, i2], c < s.heap.objs.size := fun c hc => by
      have e' : c = e ∨ c = z ∨ c = TI ∨ c = TO ∨ c = i1 ∨ c = i2 := by simpa using hc
      rcases e' with q | q | q | q | q | q
      · rw [q]; exact el
      · rw [q]; exact Heap.lt_size hz
      · rw [q]; exact Heap.lt_size hp
      · rw [q]; exact Heap.lt_size ho
      · rw [q]; obtain ⟨_, e1, _⟩ := h1; exact Heap.lt_size e1
      · rw [q]; obtain ⟨_, e2, _⟩ := h2; exact Heap.lt_size e2
    refine ez_item D he hz oo n1 n2 n3 n4 n5 hp ho h1 h2 p1 p2 (x := u) (y := u2) (by simpa using hu) (by simpa using hu2) fun g g' tk own' f' c2 d2 v pn size keep up en z' oo' po a1 a2 ⟨tt, pT⟩ => ?_
    refine ⟨_, rfl, wpAny_letOwnedTupleGo_enum (s := { s with heap := g', toks := tk }) en fun g2 e2 only => ?_⟩
    have up2 : ∀ c o, c ≠ e → g'.get? c = some o → g2.get? c = some o := fun c o n h => (only.2 c n).trans h
    have I1 : Inv X pins σ (upd H s.heap.objs.size (.tup [x, y])) { s with heap := g, toks := s.toks } :=
      I.turnedNew (ch := [e, z, TI, TO, i1, i2]) (fun c o hb q => keep c o (fun q' => hb (by simp [q'])) (fun q' => hb (by simp [q'])) (fun q' => hb (by simp [q'])) (fun q' => hb (by simp [q'])) q) fp (Nat.le_refl _)
        ⟨by show 2 ≤ sizeLine; decide, [u, u2], .cons ru (.cons ru2 .nil), ⟨_, pn, rfl, _, rfl⟩⟩
    have fp1 : ∀ c ∈ [e, z, TI, TO, i1, i2], FpOk X pins (upd H s.heap.objs.size (.tup [x, y])) c := fun c hc => ⟨by rw [upd_ne (Nat.ne_of_lt (small c hc))]; exact (fp c hc).1, (fp c hc).2⟩
    have hT : upd H s.heap.objs.size (.tup [x, y]) (s.heap.objs.size + 1) = none := I1.hok.fresh (by show g.objs.size ≤ _; rw [size]; exact Nat.le_refl _)
    have pT2 : IsPair g2 (s.heap.objs.size + 1) (.int i tt) (.ref s.heap.objs.size) := up2 _ _ (Nat.ne_of_gt (Nat.lt_succ_of_lt el)) pT
    have I2 : Inv X pins σ (upd (upd H s.heap.objs.size (.tup [x, y])) (s.heap.objs.size + 1) (.tup [.int (i : Nat), .ref s.heap.objs.size])) { s with heap := g2, toks := tk } :=
      I1.turnedNew (t' := tk) (ch := [e]) (fun c o hb q => up2 c o (fun q' => hb (by simp [q'])) (up c o (fun q' => hb (by simp [q'])) q)) (fun c hc => fp1 c (by rw [List.mem_singleton.mp hc]; simp)) (by show g.objs.size ≤ _; rw [size]; exact Nat.le_refl _)
        ⟨by show 2 ≤ sizeLine; decide, [.int i tt, .ref s.heap.objs.size], .cons ⟨_, rfl⟩ (.cons rfl .nil), ⟨_, pT2, rfl, _, rfl⟩⟩
    refine ⟨.ref (s.heap.objs.size + 1), _, I2, rfl, ⟨s.heap.objs.size, _, x, y, rfl, I.hok.fresh (Nat.le_refl _), hT, rfl, fun l hl => by rw [I.tuple_inj hl qx]; exact hx, fun l hl => by rw [I.tuple_inj hl qy]; exact hy⟩, ⟨⟨v, ?_⟩, ⟨own', f', up2 _ _ (Ne.symm n1) z', oo'⟩, up2 _ _ (Ne.symm n5) (up _ _ (Ne.symm n5) (keep _ _ D.TIz D.TITO D.TIi1 D.TIi2 hp)), ⟨c2, d2, up2 _ _ (Ne.symm n2) po⟩, a1.at fun o q => up2 _ o (Ne.symm n3) q, a2.at fun o q => up2 _ o (Ne.symm n4) q⟩, fun c hc => ?_⟩
    · have up1 : ((i + 1 : Nat) : Int) = (i : Int) + 1 := by omega
      rw [up1]; exact e2
    · have lt := small c hc
      rw [upd_ne (Nat.ne_of_lt (Nat.lt_succ_of_lt lt)), upd_ne (Nat.ne_of_lt lt)]
      exact (fp c hc).1
  done := by
    intro X hP hw hK wc i pins s σ H E I fp here got
    subst hP hw hK
    obtain ⟨⟨prev, he⟩, ⟨own, f, hz, oo⟩, hp, ⟨c', d', ho⟩, h1, h2⟩ := here
    obtain ⟨xs, ys, qx, qy, ends⟩ := got
    obtain ⟨its, rv, p1, _⟩ := I.tuple qx
    obtain ⟨its2, rv2, p2, _⟩ := I.tuple qy
    have l1 := rv.length
    have l2 := rv2.length
    have en : its.toArray[i]? = none ∨ its2.toArray[i]? = none := by
      rcases ends with q | q
      · exact .inl (by simp; omega)
      · exact .inr (by simp; omega)
    exact ez_end (I.ok.hd wc) D he hz oo hp ho h1 h2 p1 p2 en fun g keep => ⟨rfl, I.turnedL (t' := s.toks) (ch := [e, z, TI, TO, i1, i2]) (fun c o hb q =>
      keep c o (fun q' => hb (by simp [q'])) (fun q' => hb (by simp [q'])) (fun q' => hb (by simp [q'])) (fun q' => hb (by simp [q'])) q) fp⟩
  self := fun A i s Q E here h => let ⟨_, he⟩ := here.e; wpAny_pyIter_enum he h
def iEnumZ (K : PySem.W.Frag) (ta : TA) : TI := fun σ H R => ta σ H fun vs H1 => ∃ a b xs ys, vs = [.ref a, .ref b] ∧ SqT K H1 a xs ∧ SqT K H1 b ys ∧ R (IteZ K a b) H1
theorem pi_enumZ {X : Cx} {e e2 : Expr} {ta : TA} {p p2 pos pos2 tpos : Pos} {elts : List Expr} {kk : Nat} (g1 : Gl X "enumerate") (m1 : X.mg "enumerate" = none) (g2 : Gl X "zip") (m2 : X.mg "zip" = none) (ha : PA X [e, e2] ta)
    (hs : starEach [e, e2] X.env = (false, eval e X.env) :: starEach [e2] X.env := by rfl) (hpl : (backTo pos2 (starEach [e2] X.env)).any (·.1) = false := by rfl)
    (hs1 : starEach [Expr.Call (.Name "zip" p2) [e, e2] [] pos2] X.env = [(false, eval (.Call (.Name "zip" p2) [e, e2] [] pos2) X.env)] := by rfl) :
    PI X (.Tuple elts kk tpos) (.Call (.Name "enumerate" p) [.Call (.Name "zip" p2) [e, e2] [] pos2] [] pos) (iEnumZ X.K ta) := by
  refine ⟨fun pins s σ H R I h => ?_⟩
  refine Call_ (ld_blt I g1 m1 boot_enumerate (PyProof.Rows.callWith_type1 ?_ hs1 rfl))
  rw [hs1]
  show wpAny _ _ (spliced [(false, eval (.Call (.Name "zip" p2) [e, e2] [] pos2) X.env)]) _ _ s
  refine Calls.spliced_cons ?_
  refine Call_ (ld_blt I g2 m2 PyProof.Rows.boot_zip (PyProof.Rows.callWith_type1 (thn (ha.run pos2 pins s σ H _ I h) fun us s1 ⟨vs, H1, I1, r1, q1⟩ => ?_) hs hpl))
  obtain ⟨a, b, xs, ys, ex, qx, qy, q⟩ := q1
  subst ex
  cases r1 with
  | cons r rr =>
    cases rr with
    | cons r' rr =>
      cases rr
      cases r
      cases r'
      obtain ⟨its, rv, p1, _⟩ := I1.tuple qx
      obtain ⟨its2, rv2, p2', _⟩ := I1.tuple qy
      obtain ⟨o1, ho1, _⟩ := id p1
      obtain ⟨o2, ho2, _⟩ := id p2'
      refine call_zipT (show s1.heap.IsTuple a its.toArray from p1) (show s1.heap.IsTuple b its2.toArray from p2') fun g hz hTI hTO t1 t2 hsz hk => ?_
      refine Calls.spliced_nil ?_
      refine call_enumerate_zip (s := { s1 with heap := g }) hz fun g2 he hk2 => wpAny_pyIter_enum he ?_
      have I2 : Inv X pins σ H1 { s1 with heap := g2 } := I1.kept (t' := s1.toks) fun c o q => hk2 c o (hk c o q)
      have above : ∀ c, s1.heap.objs.size ≤ c → FpOk X pins H1 c := fun c hle => I1.fpOk hle (I1.hok.fresh hle)
      dsimp only at he hk2
      rw [hsz] at he ⊢
      refine ⟨s1.heap.objs.size + 5, [s1.heap.objs.size + 5, s1.heap.objs.size + 4, s1.heap.objs.size + 2, s1.heap.objs.size + 3, s1.heap.objs.size, s1.heap.objs.size + 1], _, _, H1, rfl, I2,
        turn_enumZ (PySem.W.ktu_apart s1.heap.objs.size a b (Heap.lt_size ho1) (Heap.lt_size ho2)) (by intro z; exact absurd (Nat.add_left_cancel z) (by decide)) (by intro z; exact absurd (Nat.add_left_cancel z) (by decide)) (Nat.ne_of_gt (Nat.lt_add_of_pos_right (by decide))) (by intro z; exact absurd (Nat.add_left_cancel z) (by decide)) (by intro z; exact absurd (Nat.add_left_cancel z) (by decide)),
        ⟨⟨.none, he⟩, ⟨.none, false, hk2 _ _ hz, .inl rfl⟩, hk2 _ _ hTI, ⟨_, _, hk2 _ _ hTO⟩, t1.at fun o q => hk2 _ o q, t2.at fun o q => hk2 _ o q⟩, fun c hc => ?_, q⟩
      have e' : c = s1.heap.objs.size + 5 ∨ c = s1.heap.objs.size + 4 ∨ c = s1.heap.objs.size + 2 ∨ c = s1.heap.objs.size + 3 ∨ c = s1.heap.objs.size ∨ c = s1.heap.objs.size + 1 := by simpa using hc
      rcases e' with z | z | z | z | z | z <;> rw [z] <;> exact above _ (by first | exact Nat.le_add_right _ _ | exact Nat.le_refl _)
/-- the turns of such a loop -/
theorem for_enumZ {K : PySem.W.Frag} {a b : Addr} {xs ys : List V} {g : TG} {tb : TS} {D : Ends} {σ : L2.St} {H : Hp} (hl : xs.length = ys.length) (Pv : Nat → L2.St → Hp → Prop) (h0 : Pv 0 σ H) (hq : ∀ i σ H, Pv i σ H → SqT K H a xs ∧ SqT K H b ys)
    (hs : ∀ (i : Nat) (x y : V) (Pp T : Addr) (σ : L2.St) (H : Hp), xs[i]? = some x → ys[i]? = some y → Pv i σ H → H Pp = none → upd H Pp (.tup [x, y]) T = none →
      g (.ref T) σ (upd (upd H Pp (.tup [x, y])) T (.tup [.int (i : Nat), .ref Pp])) fun σ2 H2 => tb { D with nx := Pv (i + 1), ct := Pv (i + 1), bk := D.nx } σ2 H2)
    (hd : ∀ σ H, Pv xs.length σ H → D.nx σ H) : ForB (IteZ K a b) g tb D σ H := by
  refine ⟨fun i m σ H => m = xs.length - i ∧ i ≤ xs.length ∧ Pv i σ H, ⟨xs.length, rfl, Nat.zero_le _, h0⟩, ?_⟩
  rintro i m σ H ⟨rfl, hi, p⟩
  obtain ⟨qx, qy⟩ := hq i σ H p
  by_cases lt : i < xs.length
  · have hx : xs[i]? = some xs[i] := List.getElem?_eq_getElem lt
    have hy : ys[i]? = some (ys[i]'(by omega)) := List.getElem?_eq_getElem (by omega)
    refine .inr ⟨⟨xs, ys, _, _, qx, qy, hx, hy⟩, Pv (i + 1), fun σ' H' p' => ⟨xs.length - (i + 1), by omega, rfl, lt, p'⟩, fun v H' y => ?_⟩
    obtain ⟨Pp, T, x', y', rfl, hP, hT, rfl, f1, f2⟩ := y
    exact hs i x' y' Pp T σ H (f1 xs qx) (f2 ys qy) p hP hT
  · have e : i = xs.length := by omega
    subst e
    exact .inl ⟨⟨xs, ys, qx, qy, .inl (Nat.le_refl _)⟩, hd σ H p⟩
end Vf

namespace Vf
open PySem L2 PySem.Spec PyProof.Rows He RZ
/-! max(xs): xs a list of references to data of one form -/
structure MdK (K : PySem.W.Frag) (H : Hp) (a : Addr) (ps : List Addr) (kd : Nat → PyData) : Prop where
  lst : SqL K H a (ps.map V.ref)
  dp : ∀ i p, ps[i]? = some p → Dp K H (.ref p) (kd i)
  alk : ∀ i j, i < ps.length → j < ps.length → PySem.W.alike (kd i) (kd j) = true
  nn : ∀ i, i < ps.length → kd i ≠ .none
  dep : ∀ i, i < ps.length → (kd i).depth ≤ 60
section
variable {X : Cx} {a : Addr} {pins : List (Addr × Obj)} {σ : L2.St} {ps : List Addr} {kd : Nat → PyData} {H : Hp} {S it : Addr} {R : Result → Shared → Prop}
theorem md_loop (hc : X.calm = true) (hu : X.A.units + 64 < cLine) (M : MdK X.K H a ps kd) (fS : FpOk X pins H S) (fI : FpOk X pins H it) (ne : S ≠ it) :
    ∀ (m j : Nat) (s : Shared) (p : Addr) (c : Nat), ps.length - (j + 1) = m → j + 1 ≤ ps.length → Inv X pins σ H s → ps[argBest (mxB kd) j]? = some p → s.heap.get? S = some (mxS (.ref p) (.ref p) c) → s.heap.IsListIter it a (j + 1) →
    (∀ (s' : Shared) (p : Addr), Inv X pins σ H s' → ps[argBest (mxB kd) (ps.length - 1)]? = some p → R (.ok (.ret (.ref p))) s') → codeAny (model X.prog X.w) X.A (.builtin "max.loop" ⟨[.ref it, .none, .ref S], []⟩) R s := by
  have hname : (toString "max" ++ toString ".loop" : String) = "max.loop" := by decide
  intro m
  induction m with
  | zero =>
    intro j s p c hm hj I hp hS st hR
    obtain ⟨its, rv, pl, hz⟩ := I.list M.lst
    have hl := rv.length
    rw [List.length_map] at hl
    refine codeAny_builtin PySem.F.entry_max_loop ?_
    rw [Around.under_plainId PySem.F.plain_max_loop _]
    show wpAny _ X.A.in1 (seqItems? (.ref S) >>= _) _ _ s
    refine wpAny_bind (wpAny_seqItems hS rfl ?_)
    refine wpAny_bind (wpAny_tryCatch ?_)
    refine wpAny_pyNext_list_end (I.ok.hd hc) st pl.isList (by simp; omega) fun h' eb => ?_
    have I1 : Inv X pins σ H { s with heap := h' } := I.turned (t' := s.toks) (fun b o hb e => eb b o hb e) fI.1 fI.2.1 fI.2.2.2.1 fI.2.2.2.2.1 fI.2.2.2.2.2
    have hS' : ({ s with heap := h' } : Shared).heap.get? S = some (mxS (.ref p) (.ref p) c) := eb S _ ne hS
    show wpAny _ X.A.in1 (updateSeq S (fun _ => #[]) >>= _) _ _ _
    refine wpAny_bind (wpAny_updateSeq hS' rfl (wpAny_bind (wpAny_letGo (wpAny_pure ?_))))
    have I2 := I1.turned (it := S) (t' := s.toks) (h' := h'.update S (Obj.mapSeq fun _ => #[])) (fun b o hb e => (Heap.get?_update_other _ _ (Ne.symm hb)).trans e) fS.1 fS.2.1 fS.2.2.2.1 fS.2.2.2.2.1 fS.2.2.2.2.2
    refine hR _ p I2 ?_
    rw [show ps.length - 1 = j from by omega]
    exact hp
  | succ m ih =>
    intro j s p c hm hj I hp hS st hR
    obtain ⟨its, rv, pl, hz⟩ := I.list M.lst
    have hlt : j + 1 < ps.length := by omega
    have hx : ps[j + 1]? = some ps[j + 1] := List.getElem?_eq_getElem hlt
    obtain ⟨u, hu1, ru⟩ := rv.get (i := j + 1) (x := .ref ps[j + 1]) (by rw [List.getElem?_map, hx]; rfl)
    cases ru
    generalize ps[j + 1] = q at hx hu1
    refine codeAny_builtin PySem.F.entry_max_loop ?_
    rw [Around.under_plainId PySem.F.plain_max_loop _]
    show wpAny _ X.A.in1 (seqItems? (.ref S) >>= _) _ _ s
    refine wpAny_bind (wpAny_seqItems hS rfl ?_)
    refine wpAny_bind (wpAny_tryCatch ?_)
    refine wpAny_pyNext_list_item st pl.isList (x := .ref q) (by simpa using hu1) fun h' st' sb => ?_
    have I1 : Inv X pins σ H { s with heap := h' } := I.turned (t' := s.toks) (fun b o hb e => (sb.2 b hb).trans e) fI.1 fI.2.1 fI.2.2.2.1 fI.2.2.2.2.1 fI.2.2.2.2.2
    have hS' : ({ s with heap := h' } : Shared).heap.get? S = some (mxS (.ref p) (.ref p) c) := (sb.2 S ne).trans hS
    have hbl := argBest_lt (mxB kd) j
    obtain ⟨as1, r1⟩ := Dp.reads I1 _ _ _ (M.dp _ _ hx) rfl
    obtain ⟨as2, r2⟩ := Dp.reads I1 _ _ _ (M.dp _ _ hp) rfl
    refine wpAny_bind (wpAny_pure ?_)
    refine wpAny_bind (wpAny_tryCatch (wpAny_holding (wpAny_bind (PySem.W.gt_data r1 r2 (M.alk _ _ hlt (by omega)) (M.nn _ hlt) (by
      have h1 := Nat.min_le_left (kd (j + 1)).depth (kd (argBest (mxB kd) j)).depth
      have h2 := M.dep _ hlt
      show X.A.units + 1 + _ < _
      omega) ?_))))
    refine wpAny_bind (wpAny_holding (wpAny_truthy_bool ?_))
    refine wpAny_bind (wpAny_letGo (wpAny_pure ?_))
    have eB : argBest (mxB kd) (j + 1) = if PySem.W.dataLt (kd (argBest (mxB kd) j)) (kd (j + 1)) = true then j + 1 else argBest (mxB kd) j := rfl
    cases hcmp : PySem.W.dataLt (kd (argBest (mxB kd) j)) (kd (j + 1)) with
    | true =>
      rw [hcmp, if_pos rfl] at eB
      simp only [if_true]
      refine wpAny_bind (wpAny_updateSeq hS' rfl (wpAny_bind (wpAny_letGo ?_)))
      rw [hname]
      refine wpAny_pure ⟨plainId_quiet PySem.F.plain_max_loop _, ih (j + 1) _ q c (by omega) hlt ?_ (by rw [eB]; exact hx) ?_ (st'.at fun o e => ?_) hR⟩
      · exact I1.turned (it := S) (t' := s.toks) (fun b o hb e => (Heap.get?_update_other _ _ (Ne.symm hb)).trans e) fS.1 fS.2.1 fS.2.2.2.1 fS.2.2.2.2.1 fS.2.2.2.2.2
      · exact Heap.get?_update_self _ hS' rfl
      · exact (Heap.get?_update_other _ _ ne).trans e
    | false =>
      rw [hcmp, if_neg Bool.false_ne_true] at eB
      simp only [Bool.false_eq_true, if_false]
      refine wpAny_bind (wpAny_letGo ?_)
      rw [hname]
      exact wpAny_pure ⟨plainId_quiet PySem.F.plain_max_loop _, ih (j + 1) _ p c (by omega) hlt I1 (by rw [eB]; exact hp) hS' st' hR⟩
/-- the first of the best -/
def rMaxD (K : PySem.W.Frag) : List V → Hp → VK → Prop := fun vs H Q => ∃ (a : Addr) (ps : List Addr) (kd : Nat → PyData), vs = [.ref a] ∧ 0 < ps.length ∧ MdK K H a ps kd ∧ ∀ p, ps[mxI kd ps.length]? = some p → Q (.ref p) H
theorem cr_maxD (hc : X.calm = true) (hu : X.A.units + 64 < cLine) : CallR X (.builtin "max") (rMaxD X.K) := by
  intro pins s σ H vs us Q I r hq
  obtain ⟨a, ps, kd, rfl, hn, M, q⟩ := hq
  obtain rfl := Vals.ref1 r
  have hname : (toString "max" ++ toString ".loop" : String) = "max.loop" := by decide
  refine PyProof.Rows.kmk_tree PySem.F.kind_max PySem.F.plain_max PySem.F.entry_max (by unfold argsOk; kernel_rfl) ?_
  refine wpAny_bind (wpAny_of_eq (a := [none, none]) (by rfl) ?_)
  refine wpAny_bind (wpAny_pure ?_)
  obtain ⟨its, rv, pl, hz⟩ := I.list M.lst
  refine wpAny_bind (wpAny_pyIter_list pl.isList ?_)
  have I1 : Inv X pins σ H { s with heap := s.heap.push { cls := .type "list_iterator", data := .fields #[.ref a, .int 0 0] } } := I.kept (t' := s.toks) fun b o e => Heap.get?_push_of_some _ e
  have fI : FpOk X pins H s.heap.objs.size := I.fpOk (Nat.le_refl _) (I.hok.fresh (Nat.le_refl _))
  have st0 : ({ s with heap := s.heap.push { cls := .type "list_iterator", data := .fields #[.ref a, .int 0 0] } } : Shared).heap.IsListIter s.heap.objs.size a 0 := ⟨_, Heap.get?_push_size _ rfl, rfl, rfl⟩
  generalize hs1 : ({ s with heap := s.heap.push { cls := .type "list_iterator", data := .fields #[.ref a, .int 0 0] } } : Shared) = s1 at I1 st0 ⊢
  have sz1 : s1.heap.objs.size = s.heap.objs.size + 1 := by rw [← hs1]; exact size_push' ..
  have fS : FpOk X pins H s1.heap.objs.size := I1.fpOk (Nat.le_refl _) (I1.hok.fresh (Nat.le_refl _))
  refine wpAny_bind (wpAny_newObj_type ?_)
  rw [hname]
  have I2 : Inv X pins σ H { s1 with heap := s1.heap.push { cls := .type "list", data := .seq #[] 0 } } := I1.kept (t' := s1.toks) fun b o e => Heap.get?_push_of_some _ e
  have hS : (s1.heap.push { cls := .type "list", data := .seq #[] 0 }).get? s1.heap.objs.size = some { cls := .type "list", data := .seq #[] 0 } := Heap.get?_push_size _ rfl
  have st1 := st0.at (h' := s1.heap.push { cls := .type "list", data := .seq #[] 0 }) fun o e => Heap.get?_push_of_some _ e
  have ne : s1.heap.objs.size ≠ s.heap.objs.size := fun z => by rw [sz1] at z; exact absurd z (Nat.succ_ne_self _)
  refine wpAny_pure ⟨plainId_quiet PySem.F.plain_max_loop _, ?_⟩
  generalize hs2 : ({ s1 with heap := s1.heap.push { cls := .type "list", data := .seq #[] 0 } } : Shared) = s2 at I2
  have hS2 : s2.heap.get? s1.heap.objs.size = some { cls := .type "list", data := .seq #[] 0 } := by rw [← hs2]; exact hS
  have st2 : s2.heap.IsListIter s.heap.objs.size a 0 := by rw [← hs2]; exact st1
  obtain ⟨its2, rv2, pl2, hz2⟩ := I2.list M.lst
  have hx : ps[0]? = some ps[0] := List.getElem?_eq_getElem hn
  obtain ⟨u, hu1, ru⟩ := rv2.get (i := 0) (x := .ref ps[0]) (by rw [List.getElem?_map, hx]; rfl)
  cases ru
  generalize ps[0] = b0 at hx hu1
  refine codeAny_builtin PySem.F.entry_max_loop ?_
  rw [Around.under_plainId PySem.F.plain_max_loop _]
  show wpAny _ X.A.in1 (seqItems? (.ref s1.heap.objs.size) >>= _) _ _ s2
  refine wpAny_bind (wpAny_seqItems hS2 rfl ?_)
  refine wpAny_bind (wpAny_tryCatch ?_)
  refine wpAny_pyNext_list_item st2 pl2.isList (x := .ref b0) (by simpa using hu1) fun h' st' sb => ?_
  have I3 : Inv X pins σ H { s2 with heap := h' } := I2.turned (t' := s2.toks) (fun b o hb e => (sb.2 b hb).trans e) fI.1 fI.2.1 fI.2.2.2.1 fI.2.2.2.2.1 fI.2.2.2.2.2
  have hS3 : ({ s2 with heap := h' } : Shared).heap.get? s1.heap.objs.size = some { cls := .type "list", data := .seq #[] 0 } := (sb.2 _ ne).trans hS2
  refine wpAny_bind (wpAny_pure ?_)
  refine wpAny_bind (wpAny_updateSeq hS3 rfl ?_)
  rw [hname]
  refine wpAny_pure ⟨plainId_quiet PySem.F.plain_max_loop _, md_loop hc hu M fS fI ne _ 0 _ b0 1 rfl hn ?_ hx ?_ (st'.at fun o e => ?_) fun s' p I' hp' => ⟨.ref p, H, I', rfl, q p hp'⟩⟩
  · exact I3.turned (it := s1.heap.objs.size) (t' := s2.toks) (fun b o hb e => (Heap.get?_update_other _ _ (Ne.symm hb)).trans e) fS.1 fS.2.1 fS.2.2.2.1 fS.2.2.2.2.1 fS.2.2.2.2.2
  · exact Heap.get?_update_self _ hS3 rfl
  · exact (Heap.get?_update_other _ _ ne).trans e
end
end Vf

namespace Vf
open PySem L2 PySem.Spec PyProof.Rows He RZ
/-! zip(xs, t), a list and a tuple -/
def ItzLT (K : PySem.W.Frag) (a b : Addr) : It :=
  ⟨fun i H => ∃ (xs ys : List V) (x y : V), SqL K H a xs ∧ SqT K H b ys ∧ xs[i]? = some x ∧ ys[i]? = some y,
   fun i H v H' => ∃ T x y, v = .ref T ∧ H T = none ∧ H' = upd H T (.tup [x, y]) ∧ (∀ xs, SqL K H a xs → xs[i]? = some x) ∧ ∀ ys, SqT K H b ys → ys[i]? = some y,
   fun i H => ∃ xs ys : List V, SqL K H a xs ∧ SqT K H b ys ∧ (xs.length = i ∨ ys.length = i) ∧ i ≤ xs.length ∧ i ≤ ys.length⟩
structure ZlAt (a b z TI TO i1 i2 : Addr) (i : Nat) (h : Heap) : Prop where
  z : IsZip h z TI TO .none
  p : IsTupOf2 h TI (.ref i1) (.ref i2)
  o : ∃ c d, IsTupOf2 h TO c d
  t1 : h.IsListIter i1 a i
  t2 : h.IsTupleIter i2 b i
theorem turn_zipLT {P : Program} {w : World} {K : PySem.W.Frag} {elts : List Expr} {kk : Nat} {tpos : Pos} {a b z TI TO i1 i2 : Addr} (D : ZipSep2 z TI TO i1 i2 [i1, a] [i2, b]) (na : a ≠ i1) (nb : b ≠ i2) :
    Turn P w K (.Tuple elts kk tpos) (ItzLT K a b) [z, TI, TO, i1, i2] z (ZlAt a b z TI TO i1 i2) where
  mem := by simp
  obj := fun i h here c hc => by
    obtain ⟨hz, hp, ⟨c', d', ho⟩, ⟨o1, e1, _, d1⟩, ⟨o2, e2, _, d2⟩⟩ := here
    have e' : c = z ∨ c = TI ∨ c = TO ∨ c = i1 ∨ c = i2 := by simpa using hc
    rcases e' with q | q | q | q | q
    · rw [q]; exact ⟨_, hz, fun v q => nomatch q⟩
    · rw [q]; exact ⟨_, hp, fun v q => nomatch q⟩
    · rw [q]; exact ⟨_, ho, fun v q => nomatch q⟩
    · rw [q]; exact ⟨o1, e1, fun v q => by rw [d1] at q; cases q⟩
    · rw [q]; exact ⟨o2, e2, fun v q => by rw [d2] at q; cases q⟩
  keep := fun i h h' here k => by
    obtain ⟨hz, hp, ⟨c', d', ho⟩, h1, h2⟩ := here
    exact ⟨k z (by simp) _ hz, k TI (by simp) _ hp, ⟨c', d', k TO (by simp) _ ho⟩, h1.at fun o q => k i1 (by simp) o q, h2.at fun o q => k i2 (by simp) o q⟩
  item := by
    intro X hP hw hK wc i pins s σ H E I fp here got
    subst hP hw hK
    obtain ⟨hz, hp, ⟨c', d', ho⟩, h1, h2⟩ := here
    obtain ⟨xs, ys, x, y, qx, qy, hx, hy⟩ := got
    obtain ⟨its, rv, p1, _⟩ := I.list qx
    obtain ⟨its2, rv2, p2, _⟩ := I.tuple qy
    obtain ⟨u, hu, ru⟩ := rv.get hx
    obtain ⟨u2, hu2, ru2⟩ := rv2.get hy
    have h0 : X.A.in1.handled = none := I.ok.hd wc
    have zl : z < s.heap.objs.size := Heap.lt_size hz
    have lt1 : i < its.toArray.size := by have := (List.getElem?_eq_some_iff.mp hu).1; simpa using this
    have lt2 : i < its2.toArray.size := by have := (List.getElem?_eq_some_iff.mp hu2).1; simpa using this
    refine wpAny_pyNext_zipD2_item D (Draws.list (A := X.A.in1) h0 i1 a na its.toArray) (Draws.tuple (A := X.A.in1) h0 i2 b nb its2.toArray) hz hp ho ⟨h1, p1.isList⟩ ⟨h2, p2⟩ lt1 lt2 fun x1 x2 g tk y1 y2 z' o' s1 s2 pT size keep => ?_
    have e1 : x1 = u := by
      have q1 : its[i]? = some x1 := by simpa using y1
      exact Option.some.inj (q1.symm.trans hu)
    have e2 : x2 = u2 := by
      have q1 : its2[i]? = some x2 := by simpa using y2
      exact Option.some.inj (q1.symm.trans hu2)
    subst e1 e2
    refine ⟨_, rfl, wpAny_letOwnedTupleGo_zip (s := { s with heap := g, toks := tk }) z' fun g2 z2 only => ?_⟩
    have up : ∀ c o, c ≠ z → g.get? c = some o → g2.get? c = some o := fun c o n h => (only.2 c n).trans h
    have pT2 : IsTupOf2 g2 s.heap.objs.size x1 x2 := up _ _ (Nat.ne_of_gt zl) pT
    have I1 : Inv X pins σ (upd H s.heap.objs.size (.tup [x, y])) { s with heap := g2, toks := tk } :=
      I.turnedNew (ch := [z, TI, TO, i1, i2]) (fun c o hb q => up c o (fun q' => hb (by simp [q'])) (keep c o (fun q' => hb (by simp [q'])) (fun q' => hb (by simp [q'])) (fun q' => hb (by simp [q'])) (fun q' => hb (by simp [q'])) q)) fp (Nat.le_refl _)
        ⟨by show 2 ≤ sizeLine; decide, [x1, x2], .cons ru (.cons ru2 .nil), ⟨_, pT2, rfl, _, rfl⟩⟩
    refine ⟨.ref s.heap.objs.size, _, I1, rfl, ⟨_, x, y, rfl, I.hok.fresh (Nat.le_refl _), rfl, fun l hl => by rw [I.list_inj hl qx]; exact hx, fun l hl => by rw [I.tuple_inj hl qy]; exact hy⟩, ⟨z2, up _ _ D.TIz (keep _ _ D.TIz D.TITO D.TIi1 D.TIi2 hp), ⟨x1, x2, up _ _ D.TOz o'⟩, s1.1.at fun o q => up _ o D.zi1.symm q, s2.1.at fun o q => up _ o D.zi2.symm q⟩, fun c hcm => ?_⟩
    have lt : c < s.heap.objs.size := by
      have e' : c = z ∨ c = TI ∨ c = TO ∨ c = i1 ∨ c = i2 := by simpa using hcm
      rcases e' with q | q | q | q | q
      · rw [q]; exact zl
      · rw [q]; exact Heap.lt_size hp
      · rw [q]; exact Heap.lt_size ho
      · rw [q]; obtain ⟨_, e1, _⟩ := h1; exact Heap.lt_size e1
      · rw [q]; obtain ⟨_, e2, _⟩ := h2; exact Heap.lt_size e2
    rw [upd_ne (Nat.ne_of_lt lt)]
    exact (fp c hcm).1
  done := by
    intro X hP hw hK wc i pins s σ H E I fp here got
    subst hP hw hK
    obtain ⟨hz, hp, ⟨c', d', ho⟩, h1, h2⟩ := here
    obtain ⟨xs, ys, qx, qy, en, le1, le2⟩ := got
    obtain ⟨its, rv, p1, _⟩ := I.list qx
    obtain ⟨its2, rv2, p2, _⟩ := I.tuple qy
    have l1 := rv.length
    have l2 := rv2.length
    have h0 : X.A.in1.handled = none := I.ok.hd wc
    refine wpAny_pyNext_zipD2_end D (Draws.list (A := X.A.in1) h0 i1 a na its.toArray) (Draws.tuple (A := X.A.in1) h0 i2 b nb its2.toArray) hz hp ho ⟨h1, p1.isList⟩ ⟨h2, p2⟩ (by simp; omega) (by simp; omega) (by simp; omega) fun g tk keep => ⟨rfl, ?_⟩
    exact I.turnedL (t' := tk) (ch := [z, TI, TO, i1, i2]) (fun c o hb q => keep c o (fun q' => hb (by simp [q'])) (fun q' => hb (by simp [q'])) (fun q' => hb (by simp [q'])) (fun q' => hb (by simp [q'])) q) fp
  self := fun A i s Q E here h => wpAny_pyIter_zip here.z h
def iZipLT (K : PySem.W.Frag) (ta : TA) : TI := fun σ H R => ta σ H fun vs H1 => ∃ a b xs ys, vs = [.ref a, .ref b] ∧ SqL K H1 a xs ∧ SqT K H1 b ys ∧ R (ItzLT K a b) H1
theorem pi_zipLT {X : Cx} {e e2 : Expr} {ta : TA} {p pos tpos : Pos} {elts : List Expr} {kk : Nat} (hg : Gl X "zip") (hm : X.mg "zip" = none) (ha : PA X [e, e2] ta)
    (hs : starEach [e, e2] X.env = (false, eval e X.env) :: starEach [e2] X.env := by rfl) (hpl : (backTo pos (starEach [e2] X.env)).any (·.1) = false := by rfl) :
    PI X (.Tuple elts kk tpos) (.Call (.Name "zip" p) [e, e2] [] pos) (iZipLT X.K ta) := by
  refine ⟨fun pins s σ H R I h => ?_⟩
  refine Call_ (ld_blt I hg hm PyProof.Rows.boot_zip (PyProof.Rows.callWith_type1 (thn (ha.run pos pins s σ H _ I h) fun us s1 ⟨vs, H1, I1, r1, q1⟩ => ?_) hs hpl))
  obtain ⟨a, b, xs, ys, ex, qx, qy, q⟩ := q1
  subst ex
  cases r1 with
  | cons r rr =>
    cases rr with
    | cons r' rr =>
      cases rr
      cases r
      cases r'
      obtain ⟨its, rv, p1, _⟩ := I1.list qx
      obtain ⟨its2, rv2, p2, _⟩ := I1.tuple qy
      have la : a < s1.heap.objs.size := p1.lt
      obtain ⟨o2, ho2, _⟩ := id p2
      have lb : b < s1.heap.objs.size := Heap.lt_size ho2
      refine zip_begins2 (begins_list a its.toArray) (begins_tuple b its2.toArray) p1.isList p2 fun g hz hTI hTO g1 g2 size hk => wpAny_pyIter_zip hz ?_
      have I2 : Inv X pins σ H1 { s1 with heap := g } := I1.kept (t' := s1.toks) hk
      refine ⟨s1.heap.objs.size + 4, [s1.heap.objs.size + 4, s1.heap.objs.size + 2, s1.heap.objs.size + 3, s1.heap.objs.size, s1.heap.objs.size + 1], _, _, H1, rfl, I2,
        turn_zipLT (a := a) (b := b) (zip_sep2 (fp1 := [a]) (fp2 := [b]) (fun c hc => by rw [List.mem_singleton.mp hc]; exact la) (fun c hc => by rw [List.mem_singleton.mp hc]; exact lb)) (Nat.ne_of_lt la) (Nat.ne_of_lt (Nat.lt_succ_of_lt lb)),
        ⟨hz, hTI, ⟨_, _, hTO⟩, ⟨_, g1, rfl, rfl⟩, ⟨_, g2, rfl, rfl⟩⟩, fun c hc => ?_, q⟩
      have e' : c = s1.heap.objs.size + 4 ∨ c = s1.heap.objs.size + 2 ∨ c = s1.heap.objs.size + 3 ∨ c = s1.heap.objs.size ∨ c = s1.heap.objs.size + 1 := by simpa using hc
      have above : s1.heap.objs.size ≤ c := by rcases e' with z | z | z | z | z <;> rw [z] <;> first | exact Nat.le_add_right _ _ | exact Nat.le_refl _
      exact I1.fpOk above (I1.hok.fresh above)
theorem walk_zipLT {K : PySem.W.Frag} {a b : Addr} {xs ys : List V} (hl : xs.length = ys.length) : Walk (ItzLT K a b) xs.length (fun H => SqL K H a xs ∧ SqT K H b ys) (YPair (fun i => xs[i]?) (fun i => ys[i]?)) := by
  refine ⟨fun i H hi q => ⟨xs, ys, xs[i], ys[i]'(by omega), q.1, q.2, List.getElem?_eq_getElem hi, List.getElem?_eq_getElem (by omega)⟩, fun H q => ⟨xs, ys, q.1, q.2, .inl rfl, Nat.le_refl _, by omega⟩, fun i H v H' hi q y => ?_⟩
  obtain ⟨T, x, y, g1, g2, g3, g4, g5⟩ := y
  exact ⟨T, x, y, g1, g2, g3, g4 xs q.1, g5 ys q.2⟩
end Vf

namespace Vf
open PySem L2 PySem.Spec PyProof.Rows He RZ
/-! x != y by the class's own __eq__: object's __ne__ asks it and turns the answer -/
def rNeO (K : PySem.W.Frag) (C : Addr) (sp : Sp) (E : XK) : R2 := fun x y H Q => ∃ (a b dx dy : Addr) (fs gs : List (Str × V)), x = .ref a ∧ y = .ref b ∧ H a = some (.ins C dx fs) ∧ H b = some (.ins C dy gs) ∧ sp [x, y] H (fun z H' => ∃ t, z = .bl t ∧ Q (.bl (!t)) H') E
theorem ne_bind (self : Value) : bindSpecial (.builtin "object.__ne__") self = pure (.builtin "object.__ne__", [self]) :=
  (Slot.of (T := "object") (name := "__ne__") (owner := "object") (n := "__ne__") (by rw [typeLookup_type, builtinLookup_eq_fast]; kernel_rfl) (by decide +kernel) (by decide +kernel) (by decide +kernel)
    (.inl (by decide +kernel)) (by rw [isSubtype_type]; kernel_rfl)).bind self
theorem op_neOwn {X : Cx} {C f : Addr} {fd : FuncData} {ps : List Str} {sp : Sp} {n : Nat} (F : FnOk X.prog X.w X.K X.mg X.base CX0 n f fd ps sp)
    (hs : PySem.W.findIn X.K (.ref C) "__eq__" = some (some (.ref f))) (hf : PySem.W.isFn X.K (.ref f) = true) (hb : Binds X.K fd ps [])
    (hn : PySem.W.findIn X.K (.ref C) "__ne__" = some (some (.builtin "object.__ne__"))) (ho : PySem.W.mroIn X.K C (.type "object") = some true) (hr : Room (n + 1) X.A) : OpR X (compareOp .NotEq) (rNeO X.K C sp E0) := by
  intro pins s σ H x y v u Q I rx ry q
  obtain ⟨a, b, dx, dy, fs, gs, rfl, rfl, ha, hy, hsp⟩ := q
  cases rx
  cases ry
  obtain ⟨mA, J, _⟩ := ins_get I.hok ha
  obtain ⟨od, J, _⟩ := J.look
  obtain ⟨mB, J', _⟩ := ins_get I.hok hy
  obtain ⟨od', J', _⟩ := J'.look
  have KI : X.K.In s.heap := I.kIn
  have sub : PySem.W.Looks (model X.prog X.w) s.heap (isInstance (.ref a) (.type "object")) true := J.type.andThen (PySem.W.looks_mroIn KI ho)
  have run : ∀ {Q' : Value → Shared → Prop}, (∀ t s', (∃ H', Inv X pins σ H' s' ∧ Q (.bl (!t)) H') → Q' (.bool t) s') → wpAny (model X.prog X.w) X.A.in1 (call (.ref f) [.ref a, .ref b]) Q' X.xe s := fun {Q'} h =>
    run_in F hb hr.in1 rfl I (vs := [.ref a, .ref b]) (.cons rfl (.cons rfl .nil)) hsp fun w s' ⟨z, H', I', rz, t, ez, hQ⟩ => by
      subst ez
      cases rz
      exact h t s' ⟨H', I', hQ⟩
  have ib : wpAny (model X.prog X.w) X.A (callSpecialIfBound? (.ref a) "__ne__" [.ref b]) (fun r s' => ∃ t, r = some (.bool (!t)) ∧ ∃ H', Inv X pins σ H' s' ∧ Q (.bl (!t)) H') X.xe s := by
    simp only [callSpecialIfBound?, bindSpecialIfBound?]
    refine wpAny_holding (wpAny_bind (wpAny_bind (wpAny_bind (J.type.here ((PySem.W.looks_findIn KI hn).here ?_)))))
    have fin : wpAny (model X.prog X.w) X.A (call (.builtin "object.__ne__") ([.ref a] ++ [.ref b]) >>= fun v => pure (some v)) (fun r s' => ∃ t, r = some (.bool (!t)) ∧ ∃ H', Inv X pins σ H' s' ∧ Q (.bl (!t)) H') X.xe s := by
      refine wpAny_bind ?_
      refine wpAny_call (codeAny_call_builtin (by decide +kernel) PySem.F.cmpEntry_ne (@PySem.W.check_slot (model X.prog X.w) _ _ s "object.__ne__" "object" "__ne__" (.ref a) [.ref b] [] _ PySem.F.cmpKind_ne PySem.F.cmpSplit_ne sub (PySem.F.cmpArgs_ne _ _) ?_))
      unfold Builtin.«object.__ne__»
      refine wpAny_bind (wpAny_of_eq (a := (Value.ref a, [Value.ref b])) (by rfl) ?_)
      dsimp only
      refine wpAny_bind (wpAny_cRoomFor (by have := hr.un; show X.A.units + 1 < _; omega) ?_)
      refine wpAny_bind (PySem.W.ifBound_K KI J hs hf (run fun t s' h => ?_))
      dsimp only
      refine wpAny_bind (wpAny_truthy_bool ?_)
      exact wpAny_pure (wpAny_pure ⟨t, rfl, h⟩)
    refine wpAny_bind (wpAny_askSetting (wpAny_ite ?_))
    split
    · exact wpAny_bind (wpAny_of_eq (ne_bind _) (wpAny_pure (by exact fin)))
    · exact wpAny_tryCatch (wpAny_bind (wpAny_of_eq (ne_bind _) (wpAny_pure (by exact fin))))
  have one : wpAny (model X.prog X.w) X.A (tryCompare (.ref a) "__ne__" (.ref b)) (fun r s' => ∃ t, r = some (.bool (!t)) ∧ ∃ H', Inv X pins σ H' s' ∧ Q (.bl (!t)) H') X.xe s := by
    unfold tryCompare
    refine wpAny_bind (wpAny_mono ib (fun r s' z => ?_) fun _ _ e => e)
    obtain ⟨t, rfl, h⟩ := z
    exact wpAny_pure ⟨t, rfl, h⟩
  show wpAny _ _ (richCompare .NotEq (.ref a) (.ref b)) _ _ s
  unfold richCompare
  simp only [oneThing_ref]
  refine wpAny_holding (wpAny_bind (wpAny_cRoomFor (by have := hr.un; omega) ?_))
  refine wpAny_bind (J.type.here (wpAny_bind (J'.type.here ?_)))
  rw [show (Value.ref C != Value.ref C) = false from by simp]
  simp only [Bool.false_eq_true, if_false]
  refine wpAny_bind (wpAny_pure ?_)
  simp only [Bool.false_eq_true, if_false]
  refine wpAny_bind (wpAny_mono one (fun r s' z => ?_) fun _ _ e => e)
  obtain ⟨t, rfl, H', I', hQ⟩ := z
  exact wpAny_pure ⟨.bl (!t), H', I', rfl, hQ⟩
end Vf
namespace Vf
open PySem L2 PySem.Spec PyProof.Rows He RZ
def neB (x : Str) (K : PySem.W.Frag) : Bool := eqO (PySem.W.findIn K (.ref (ga K x)) "__ne__") (some (some (.builtin "object.__ne__"))) && (PySem.W.mroIn K (ga K x) (.type "object") == some true)
structure NeC (K : PySem.W.Frag) (x : Str) : Prop where
  n : PySem.W.findIn K (.ref (ga K x)) "__ne__" = some (some (.builtin "object.__ne__"))
  o : PySem.W.mroIn K (ga K x) (.type "object") = some true
theorem neB_ok {x : Str} {K : PySem.W.Frag} (c : neB x K = true) : NeC K x := by
  unfold neB at c
  obtain ⟨c1, c2⟩ := ba c
  exact ⟨eqO_ok c1, beq_iff_eq.mp c2⟩
theorem op_neC {X : Cx} {k j : Nat} {x : Str} {sp : Sp} (c : EqC X.prog X.w X.K X.mg X.base k x sp) (d : NeC X.K x) (hr : Room j X.A) (hk : k + 1 ≤ j) : OpR X (compareOp .NotEq) (rNeO X.K (ga X.K x) sp E0) := by
  obtain ⟨f, fd, ps, F, hs, hf, hb⟩ := c.ex
  exact op_neOwn F hs hf hb d.n d.o (hr.mono hk)
end Vf

namespace Vf
open PySem L2 PySem.Spec PyProof.Rows He RZ
/-! calls of a method that may raise -/
structure MetX (P : Program) (w : World) (K : PySem.W.Frag) (mg : Str → Option Value) (base : Heap) (k : Nat) (C : Addr) (m : Str) (sp : Sp) : Prop where
  ex : ∃ (f : Addr) (fd : FuncData) (ps : List Str), Cls K C ∧ Meth K C m f ∧ FnOk P w K mg base (L2.CX P w) k f fd ps sp ∧ Binds K fd ps []
def tMethX (C : Addr) (m : Str) (sp : Sp) (EE : L2.St → XK) (ta : TE) (t : TA) : TE := fun σ H Q => ta σ H fun x H1 => ∃ a dx fs, x = .ref a ∧ H1 a = some (.ins C dx fs) ∧ fs.lookup m = none ∧ t σ H1 fun vs H2 => sp (x :: vs) H2 Q (EE σ)
section
variable {X : Cx} {k j : Nat} {C : Addr} {m : Str} {sp : Sp} {o e : Expr} {es : List Expr} {ta : TE} {t : TA} {apos pos : Pos} {W : WX}
theorem pe_mtX {pl : Sem Bool} (c : MetX X.prog X.w X.K X.mg X.base k C m sp) (hr : Room j X.A) (hk : k ≤ j) (tk : Takes X W) (he : PE X o ta) (ha : PA X (e :: es) t)
    (hst : starEach (e :: es) X.env = (false, eval e X.env) :: starEach es X.env := by rfl) (hpl : (backTo pos (starEach es X.env)).any (·.1) = false := by rfl)
    (ht : eval (.Call (.Attribute o m apos) (e :: es) [] pos) X.env = (do
      let ov ← eval o X.env
      standAt apos.atName
      let (f, first) ← holding [ov] (getMethod ov m pl)
      callWith pos f first (backTo pos (starEach (e :: es) X.env)) (backToKw pos (keywordEach [] X.env))) := by rfl) :
    PE X (.Call (.Attribute o m apos) (e :: es) [] pos) (tMethX C m sp (WE W) ta t) := by
  obtain ⟨f, fd, ps, hc, hm, F, b⟩ := c.ex
  refine ⟨fun pins s σ H Q I h => ?_⟩
  refine PySem.W.methodCall_KW (pl := pl) (thn (he.run pins s σ H _ I h) fun u s1 ⟨x, H1, I1, rx, a, dx, fs, ex, ea, l, q⟩ => ?_) ht
  subst ex
  obtain rfl : u = Value.ref a := rx
  refine getmeth_ok I1 ea hc hm l ?_
  refine PySem.W.callWith_K (first := [.ref a]) (h₀ := X.base) I.ok.mod.kin hm.kp (thn (ha.run pos pins s1 σ H1 _ I1 q) fun us s2 ⟨vs, H2, I2, r, q2⟩ => ⟨I2.kIn, ?_⟩) hst hpl
  exact run_fnS (E := WE W) (us := .ref a :: us) (vs := .ref a :: vs) F (hr.mono hk) b (passAt tk σ) I2 (.cons rfl r) q2
theorem pe_mtX0 {pl : Sem Bool} (c : MetX X.prog X.w X.K X.mg X.base k C m sp) (hr : Room j X.A) (hk : k ≤ j) (tk : Takes X W) (he : PE X o ta)
    (ht : eval (.Call (.Attribute o m apos) [] [] pos) X.env = (do
      let ov ← eval o X.env
      standAt apos.atName
      let (f, first) ← holding [ov] (getMethod ov m pl)
      callWith pos f first (backTo pos (starEach [] X.env)) (backToKw pos (keywordEach [] X.env))) := by rfl) :
    PE X (.Call (.Attribute o m apos) [] [] pos) (tMethX C m sp (WE W) ta tNil) := by
  obtain ⟨f, fd, ps, hc, hm, F, b⟩ := c.ex
  refine ⟨fun pins s σ H Q I h => ?_⟩
  refine PySem.W.methodCall_KW (pl := pl) (thn (he.run pins s σ H _ I h) fun u s1 ⟨x, H1, I1, rx, a, dx, fs, ex, ea, l, q⟩ => ?_) ht
  subst ex
  obtain rfl : u = Value.ref a := rx
  refine getmeth_ok I1 ea hc hm l ?_
  exact PySem.W.callWith_K0 (first := [.ref a]) I1.kIn hm.kp (run_fnS (E := WE W) (us := [.ref a]) (vs := [.ref a]) F (hr.mono hk) b (passAt tk σ) I1 (.cons rfl .nil) q)
end
end Vf

namespace Vf
open PySem L2 PySem.Spec PyProof.Rows He RZ L2H
/-! a def called in an except suite that lets nothing out: FnH without the word of the handled exception's context -/
structure FnQ (P : Program) (w : World) (K : PySem.W.Frag) (mg : Str → Option Value) (base : Heap) (k : Nat) (f : Addr) (fd : FuncData) (ps : List Str) (sp : Sp) : Prop where
  len : ∀ vs H Q E, sp vs H Q E → vs.length = ps.length
  run : ∀ (A : Around) (out : List Env) (s : Shared) (H : Hp) (ar : Args) (us : List Value) (vs : List V) (Q : VK) (E : XK) (pp : Addr × Obj), RoomH k A → PinOk out H s pp →
    Env0 P w K mg base A out s H → BindsTo s fd ar (ps.zip us) → Vals vs us → sp vs H Q E → codeAny (model P w) A (.call (.ref f) ar) (CR CX0 out P w H s Q E) s
section
variable {P : Program} {w : World} {K : PySem.W.Frag} {mg : Str → Option Value} {base : Heap} {x qual : Str} {params : Arguments} {body : List Stmt} {scope : Scope} {dvs : List V} {kws : List (Str × V)} {f : Addr} {fd : FuncData}
theorem okQ {N ps : List Str} {k : Nat} {sp : Sp} (F : FunD K x qual params body scope dvs kws f fd) (S : FnScope N ps scope)
    (len : ∀ vs H Q E, sp vs H Q E → vs.length = ps.length)
    (hbody : ∀ (cdv : Value) (A : Around) (out : List Env) (s : Shared) (H : Hp) (vs : List V) (Q : VK) (E : XK) (pp : Addr × Obj), RoomH k (A.deeper (envOfC qual scope s.heap.objs.size f cdv)) →
      sp vs H Q E → ∃ t, PSs (cxH CX0 P w K mg base N qual scope f cdv A out s H E pp) body t ∧
        t { nx := fun _ H' => Q .non H', rt := Q } (L2.start N vs) H) : FnQ P w K mg base (k + 1) f fd ps sp := by
  obtain ⟨oc, od, dV, kV, doc, pm, an, cdv, ct, osl, rfl, lk, hcd, _, _⟩ := F.ex
  refine ⟨len, fun A out s H ar us vs Q E pp hr hpin e0 hb r hsp => ?_⟩
  have hl := len _ _ _ _ hsp
  have kin : K.In s.heap := e0.mod.kin.keeps fun b o e => (e0.bs b o e).1
  have nol : s.heap.NoLimit := e0.mod.nolimit.keeps fun b o e => (e0.bs b o e).1
  have knd : ∀ y ∈ ps.zip us, scope.names.lookup y.1 = some .local ∨
      (scope.names.lookup y.1 = some .cell ∧ ((cellsFrom (s.heap.objs.size + 1) scope.names []).lookup y.1).isSome = true) := fun ⟨n, v⟩ hy =>
    (S.par n (List.of_mem_zip hy).1).imp id fun q => ⟨q, PySem.W.cellsFrom_some _ _ _ (.inl q)⟩
  refine codeAny_call_function hr.depth (kin _ _ lk) rfl S.co S.gen rfl (PySem.W.codeRec_of kin hcd) (hb _ _ _ _ ?_)
  refine wpAny_newFunctionEnv_cells S.kind knd fun env he s1 x => ?_
  subst he
  refine ⟨nol.keeps x.toInCall.keep, codeAny_func ?_⟩
  obtain ⟨t, ht, hq⟩ := hbody cdv A out s H vs Q E pp (hr.deeper _) hsp
  have I := inv_startH (CX := CX0) (E := E) S hpin e0 hl r x
  refine wpAny_mono (ht.run [] s1 (L2.start N vs) H _ I hq) (fun fl s' hs => ?_) fun e s' hs => hs
  cases fl with
  | ret u => obtain ⟨v, σ', H', J, rv, q⟩ := hs; exact ⟨v, H', J.os, J.bare, J.base, J.hok, rv, q⟩
  | next => obtain ⟨σ', H', J, q⟩ := hs; exact ⟨V.non, H', J.os, J.bare, J.base, J.hok, rfl, q⟩
  | brk => exact False.elim (let ⟨_, _, _, q⟩ := hs; q)
  | cont => exact False.elim (let ⟨_, _, _, q⟩ := hs; q)
end
structure CalQ (P : Program) (w : World) (K : PySem.W.Frag) (mg : Str → Option Value) (base : Heap) (k : Nat) (x : Str) (sp : Sp) : Prop where
  ex : ∃ (f : Addr) (fd : FuncData) (ps : List Str), FnQ P w K mg base k f fd ps sp ∧ mg x = some (.ref f) ∧ PySem.W.keepIn K (.ref f) = true ∧ Binds K fd ps []
theorem roomQ {k : Nat} {A : Around} {h : Option Value} (r : Room k A) : RoomH k (A.mark h) := ⟨r.dp, r.un⟩
theorem huQ {k : Nat} {A : Around} {h : Option Value} (r : Room k A) : (A.mark h).units + 1 < cLine := by
  have e : A.units + 1 < cLine := hu_of r
  exact e
theorem pe_cQ {X : Cx} {k j : Nat} {x : Str} {sp : Sp} {p pos : Pos} {e : Expr} {es : List Expr} {t : TA} (c : CalQ X.prog X.w X.K X.mg X.base k x sp) (hr : RoomH j X.A) (hk : k ≤ j) (hp : ∃ pp : Addr × Obj, pp ∈ X.pn) (hg : Gl X x) (ha : PA X (e :: es) t)
    (hdb : (x == ("__debug__" : Str)) = false := by decide) (he : starEach (e :: es) X.env = (false, eval e X.env) :: starEach es X.env := by rfl)
    (hpl : (backTo pos (starEach es X.env)).any (·.1) = false := by rfl) : PE X (.Call (.Name x p) (e :: es) [] pos) (tCall sp [] E0 t) := by
  obtain ⟨f, fd, ps, F, hm, kp, b⟩ := c.ex
  obtain ⟨pp, hp⟩ := hp
  refine ⟨fun pins s σ H Q I h => ?_⟩
  refine wpAny_Call_Name_kw (ld_glob I hg hm ?_ hdb)
  refine PySem.W.callWith_K (h₀ := X.base) I.ok.mod.kin kp (thn (ha.run pos pins s σ H _ I h) fun us s1 ⟨vs, H1, I1, r, q⟩ => ⟨I1.kIn, ?_⟩) he hpl
  have q : sp (vs ++ []) H1 Q E0 := q
  rw [List.append_nil] at q
  have hl : us.length = ps.length := by rw [← r.length]; exact F.len _ _ _ _ q
  have b2 := b s1 us I1.kIn (by rw [List.append_nil]; exact hl)
  rw [List.append_nil] at b2
  have P1 := I1.pin pp (List.mem_append_left _ hp)
  have pk : PinOk X.stack H1 s1 pp := ⟨P1.1, P1.2.1, fun hm => (List.mem_cons.mp (I1.stkSub pp.1 hm)).elim P1.2.2.1 P1.2.2.2.1, P1.2.2.2.2⟩
  refine wpAny_call (codeAny_mono (F.run X.A X.stack s1 H1 ⟨us, []⟩ us vs Q _ pp (hr.mono hk) pk I1.env0 b2 r q) fun r s' hq => ?_)
  cases r with
  | error e => exact False.elim hq
  | ok fl =>
    cases fl with
    | ret u => exact I1.after hq
    | next => exact False.elim hq
    | brk => exact False.elim hq
    | cont => exact False.elim hq
end Vf

namespace Vf
open PySem L2 PySem.Spec PyProof.Rows He RZ
/-! ### a comprehension whose element may raise -/
section
variable {X : Cx} {W : WX} {E : XK}
theorem comp_raise {pinsB pins : List (Addr × Obj)} {σB σ : L2.St} {HB H3 : Hp} {sB s3 s' : Shared} {scope : Scope} {ce : Env} {fp : List Addr} {xe : Value → Shared → Prop} {u : Value}
    (tk : Takes X W) (hst : X.stack = X.env :: X.outer) (hfr : X.env.frame = some X.env.locals) (hcf : ce.frame = X.env.frame)
    (I3 : Inv X pins σ H3 s3) (IB : Inv ((X.blk s3 H3 scope ce fp).wish xe) pinsB σB HB sB) (ff : ∀ b ∈ fp, FpOk X pins H3 b) (fC : s3.heap.objs.size ≤ ce.locals)
    (hE : ∀ cls d H', E cls d H' → W cls d σ H') (c : L2.CX X.prog X.w X.stack HB sB E u s') : notedBy (model X.prog X.w) X.A ce (CompFails (model X.prog X.w) X.A X.xe ce) u s' := by
  obtain ⟨a, Bh, H', cls, d, rfl, fl, hok, ub, na, os, ag, hE'⟩ := c
  have hA : X.A.frames = some (X.env :: X.outer) := by rw [I3.ok.frames, hst]
  obtain ⟨m, hn, _⟩ := IB.loc
  obtain ⟨oC, es, ep, hoC, hdC, hr⟩ := id hn
  have hoC : sB.heap.get? ce.locals = some oC := hoC
  have nCB : HB ce.locals = none := IB.free
  have nCf : ce.locals ∉ frs X.stack := fun hm => by
    rcases List.mem_cons.mp (I3.stkSub _ hm) with z | z
    · have := I3.lt
      rw [z] at fC
      exact absurd (Nat.lt_of_lt_of_le this fC) (Nat.lt_irrefl _)
    · exact I3.nofs fC z
  have hBC : Bh.get? ce.locals = some oC := ub.keep _ _ hoC nCB nCf
  have nC' : H' ce.locals = none := ub.free _ _ hoC nCB
  have fl2 : HandSPX.FlyingZ Bh (X.env :: X.outer) a (Zc cls d) s'.heap := by rw [← hst]; exact fl
  show wpAny _ X.A (noteFrame (.ref a) ce) _ _ s'
  rw [noteFrame_env _ hcf]
  refine HandSPX.looks_onZ Zc.steady hA hfr fl2 fun h' hh up => ?_
  obtain ⟨b1, b0, f1, oe, vs, T, oT, ts, he, hz, hd, h1, hnT, hTe, hT, hdT, h3⟩ := hh
  refine ⟨m, ⟨oC, es, ep, b1 _ _ hBC, hdC, hr⟩, fun h2 m2 hn2 hs2 => ?_⟩
  obtain ⟨B2, g1, g2⟩ := restrict h2 fun b => (Bh.get? b).isSome
  have st2 : B2.StaysIn h2 := fun b o e => by
    cases q : (Bh.get? b).isSome with
    | false => rw [g2 b q] at e; cases e
    | true => rw [g1 b q] at e; exact e
  have same : ∀ b o, b ≠ ce.locals → Bh.get? b = some o → B2.get? b = some o := fun b o ne e => by
    rw [g1 b (by simp [e]), hs2.2 b ne]
    exact b1 b o e
  have none2 : ∀ b, Bh.get? b = none → B2.get? b = none := fun b e => g2 b (by simp [e])
  have naC : a ≠ ce.locals := fun z => by rw [z, hBC] at b0; cases b0
  have nTC : T ≠ ce.locals := fun z => by rw [z, hBC] at hnT; cases hnT
  have he2 : h2.get? a = some oe := (hs2.2 a naC).trans he
  have hT2 : h2.get? T = some oT := (hs2.2 T nTC).trans hT
  have f2 : h2.FunFrames Bh (X.env :: X.outer) := Heap.FunFrames.sameBut hs2 hn2 f1
  have f3 : h2.FunFrames B2 (X.env :: X.outer) := funFrames_none f2 fun b hb => none2 b (f2.mem hb).1
  have hh2 : HandSPX.HeldZ B2 (X.env :: X.outer) a (Zc cls d) X.env.locals h2 := ⟨st2, none2 _ b0, f3, oe, vs, T, oT, ts, he2, hz, hd, h1, none2 _ hnT, hTe, hT2, hdT, h3⟩
  unfold PySem.passOn
  refine wpAny_bind (wpAny_field he2 hd h1 ?_)
  rw [if_neg (show ¬ ((Value.ref T == Value.none) = true) from by simp), hcf, hfr]
  refine wpAny_bind (HandSPX.setFlight_onZ hh2 fun h4 hh4 up4 => ?_)
  refine wpAny_throw (tk _ _ ?_)
  -- the block's state, then the def's, without the exception
  obtain ⟨G, k1, k2⟩ := restrict s'.heap fun b => (Bh.get? b).isSome || decide (b ∈ frs X.stack)
  have st : Bh.StaysIn s'.heap := fl.1
  have gB : ∀ b o, Bh.get? b = some o → G.get? b = some o := fun b o e => by
    rw [k1 b (by simp [e])]
    exact st b o e
  have gF : ∀ b, b ∈ frs X.stack → G.get? b = s'.heap.get? b := fun b hb => k1 b (by simp [hb])
  have og : ∀ b o, G.get? b = some o → s'.heap.get? b = some o ∧ ((Bh.get? b).isSome = true ∨ b ∈ frs X.stack) := fun b o e => by
    cases q : ((Bh.get? b).isSome || decide (b ∈ frs X.stack)) with
    | false => rw [k2 b q] at e; cases e
    | true =>
      rw [k1 b q] at e
      exact ⟨e, by simpa [Bool.or_eq_true] using q⟩
  have IB2 : Inv ((X.blk s3 H3 scope ce fp).wish xe) pinsB σB H' { sB with heap := G, gens := s'.gens, drawn := s'.drawn, toks := s'.toks } := by
    refine IB.call (ch := []) ⟨fun b o e n hb _ => gB b o (ub.keep b o e n hb), fun b o e n hb _ => ?_, fun b o e n _ => ub.free b o e n, fun b o e _ => ?_, ub.tups, ub.frzs, ub.tbls⟩ (hok.kept gB) ag (fun _ z => nomatch z)
    · obtain ⟨sl, q⟩ := ub.slot b o e hb
      exact ⟨sl, by rw [gF b hb]; exact q⟩
    · by_cases hb : b ∈ frs X.stack
      · obtain ⟨sl, q⟩ := ub.slot b o e hb
        exact ⟨_, by rw [gF b hb]; exact q⟩
      · obtain ⟨o', q⟩ := ub.there b o e hb
        exact ⟨o', gB b o' q⟩
  have J : Inv X pins σ H' { sB with heap := G, gens := s'.gens, drawn := s'.drawn, toks := s'.toks } := I3.call' (ch := fp) IB2.os IB2.base IB2.hok IB2.bare fun b hb => ⟨(ff b hb).2.2.2.1, (ff b hb).2.1, (ff b hb).2.2.2.2.1, (ff b hb).2.2.2.2.2⟩
  obtain ⟨G2, l1, l2⟩ := restrict h4 fun b => (B2.get? b).isSome || decide (b ∈ frs X.stack)
  obtain ⟨st4, _, f4, _⟩ := id hh4
  have gB2 : ∀ b o, B2.get? b = some o → G2.get? b = some o := fun b o e => by
    rw [l1 b (by simp [e])]
    exact st4 b o e
  have gF2 : ∀ b, b ∈ frs X.stack → G2.get? b = h4.get? b := fun b hb => l1 b (by simp [hb])
  have og2 : ∀ b o, G2.get? b = some o → h4.get? b = some o ∧ ((B2.get? b).isSome = true ∨ b ∈ frs X.stack) := fun b o e => by
    cases q : ((B2.get? b).isSome || decide (b ∈ frs X.stack)) with
    | false => rw [l2 b q] at e; cases e
    | true =>
      rw [l1 b q] at e
      exact ⟨e, by simpa [Bool.or_eq_true] using q⟩
  have slot2 : ∀ b o, G.get? b = some o → b ∈ frs X.stack → ∃ sl, G2.get? b = some { o with slots := sl } := fun b o e hb => by
    have e1 := (og b o e).1
    have hb' : b ∈ frs (X.env :: X.outer) := by rw [← hst]; exact hb
    obtain ⟨_, o₀, e₀, hnf⟩ := fl2.2.2.1.mem hb'
    rw [e1] at e₀; cases e₀
    obtain ⟨sl, e2⟩ := up b _ e1 hnf
    have e3 : h2.get? b = some { o with slots := sl } := (hs2.2 b fun z => nCf (z ▸ hb)).trans e2
    obtain ⟨sl2, e4⟩ := up4 b _ e3 hnf
    exact ⟨sl2, by rw [gF2 b hb]; exact e4⟩
  have keep2 : ∀ b o, G.get? b = some o → b ∉ frs X.stack → b ≠ ce.locals → G2.get? b = some o := fun b o e hb ne => by
    obtain ⟨e1, h⟩ := og b o e
    rcases h with h | h
    · obtain ⟨o', q⟩ := Option.isSome_iff_exists.mp h
      have z := st b o' q
      rw [e1] at z; cases z
      exact gB2 b o (same b o ne q)
    · exact absurd h hb
  have hok2 : HOk X.prog X.w H' B2 := fun b o e => (hok b o e).stay (fun c v hc q => same c v (fun z => by
    rcases hc with hc | hc
    · rw [← hc, z, nC'] at e; cases e
    · rw [z, nC'] at hc; cases hc) q) (fun _ q => q) fun _ _ q => q
  have fpC := I3.fpOk (H' := H') fC nC'
  have J2 : Inv X pins σ H' { sB with heap := G2, gens := s'.gens, drawn := s'.drawn, toks := s'.toks } := by
    refine L2.Inv.call (s := { sB with heap := G, gens := s'.gens, drawn := s'.drawn, toks := s'.toks }) (ch := [ce.locals]) (g' := s'.gens) (d' := s'.drawn) (t' := s'.toks) J ⟨fun b o e _ hb hc => keep2 b o e hb fun z => hc (by simp [z]), fun b o e _ hb _ => slot2 b o e hb, fun _ _ _ n _ => n, fun b o e hc => ?_, fun _ _ e => e, fun _ _ _ e => e, fun b ps e => ⟨#[], by rw [e]; simp⟩⟩ (hok2.kept gB2) ag fun b hb => ?_
    · by_cases hb : b ∈ frs X.stack
      · obtain ⟨sl, q⟩ := slot2 b o e hb
        exact ⟨_, q⟩
      · exact ⟨o, keep2 b o e hb fun z => hc (by simp [z])⟩
    · have e : b = ce.locals := by simpa using hb
      subst e
      obtain ⟨_, q2, _, q4, q5, q6⟩ := fpC
      exact ⟨q4, q2, q5, q6⟩
  refine ⟨a, B2, { sB with heap := G2, gens := s'.gens, drawn := s'.drawn, toks := s'.toks }, pins, σ, H', cls, d, rfl, J2, fun b o e hb => ?_, Heap.UpToSlots.of_keeps fun b o e => (og2 b o e).1, .inr (.inr (by rw [hst]; exact hh4)), na, os, ag, hE _ _ _ hE'⟩
  obtain ⟨e', h⟩ := og2 b o e
  rcases h with h | h
  · obtain ⟨o', q⟩ := Option.isSome_iff_exists.mp h
    have z := st4 b o' q
    rw [e'] at z; cases z
    exact q
  · exact absurd h hb

/-- [elt for tg in iter], elt may raise: the def's wish stands for the element's too -/
def tLcX (wi : TI) (g : TG) (te : XK → TE) (vs : List Nat) (EE : L2.St → XK) : TE := fun σ H Q => tLc wi g tYes (te (EE σ)) vs σ H Q
theorem pe_lcX {elt tg iter : Expr} {scope : Scope} {own : List (Str × Nat)} {pos : Pos} {wi : TI} {g : TG} {te : XK → TE} (hc : X.calm = true) (hN : X.N.Nodup) (tk : Takes X W) (hst : X.stack = X.env :: X.outer) (hfr : X.env.frame = some X.env.locals) (hi : PI X tg iter wi)
    (ok : BlkOk X.N X.env.scope scope own) (hg : ∀ (s : Shared) (H : Hp) (C : Addr) (cl : List (Str × Addr)) (fp : List Addr), PG (X.blk s H scope (compEnvC scope cl C X.env) fp) tg g)
    (he : ∀ (s : Shared) (H : Hp) (C : Addr) (cl : List (Str × Addr)) (fp : List Addr) (xe : Value → Shared → Prop) (E : XK), (∀ σ', PassesAt (L2.CX X.prog X.w) ((X.blk s H scope (compEnvC scope cl C X.env) fp).wish xe) σ' E) → PE ((X.blk s H scope (compEnvC scope cl C X.env) fp).wish xe) elt (te E))
    (hs : ∀ x, foldedSetIterable iter X.env x = pure x := by intro _; rfl) :
    PE X (.ListComp elt [⟨tg, iter, [], 0⟩] scope pos) (tLcX wi g te (own.map (·.2)) (WE W)) := by
  refine ⟨fun pins s σ H Q I h => ?_⟩
  rw [eval_ListComp]
  have hfree : ∀ y ∈ scope.names, y.2 = .free → ∃ c, X.env.cells.lookup y.1 = some c := fun y hy e => (ok.free y hy e).elim (fun k => I.ok.has _ (.inl k)) fun k => I.ok.has _ (.inr k)
  refine comprehension_at (use := none) rfl hs (closure_ok hfree) ok.kind (fun y hy e => by rw [ok.uniq y hy, e]) (thn (hi.run pins s σ H _ I h) fun xv s1 hx => thn hx fun itv s2 h2 => ?_)
  obtain ⟨it, fp, tn, J, H2, rfl, I2, T, st2, f2, q⟩ := h2
  refine wpAny_newObj_type (newEnv_comp ?_) (by show 0 ≤ sizeLine; decide)
  generalize hD : s2.heap.objs.size = D
  have hDn : H2 D = none := I2.hok.fresh (Nat.le_of_eq hD)
  obtain ⟨Wn, ⟨m0, w0⟩, turn⟩ := q D hDn
  generalize hs3 : ({ s2 with heap := s2.heap.push { cls := .type "list", data := .seq ([] : List Value).toArray } } : Shared) = s3
  have h3 : s3.heap = s2.heap.push { cls := .type "list", data := .seq ([] : List Value).toArray } := by rw [← hs3]
  have I3 : Inv X pins σ (upd H2 D (.lst [])) s3 := by
    rw [← hs3]
    exact I2.laid (t' := s2.toks) (fun b o e => Heap.get?_push_of_some _ e) (Nat.le_of_eq hD) ⟨Nat.zero_le _, [], 0, .nil, by rw [← hD]; exact Heap.get?_push_size _ rfl⟩
  have f3 : ∀ b ∈ fp, FpOk X pins (upd H2 D (.lst [])) b ∧ b < s3.heap.objs.size := fun b hb => by
    obtain ⟨o, e, _⟩ := T.obj _ _ st2 b hb
    have hlt := Heap.lt_size e
    refine ⟨⟨?_, (f2 b hb).2⟩, by rw [h3, Heap.size_push]; exact Nat.lt_succ_of_lt hlt⟩
    rw [upd_ne (by rw [← hD]; exact Nat.ne_of_lt hlt)]
    exact (f2 b hb).1
  have st3 : tn 0 s3.heap := T.keep _ _ _ st2 fun b _ o e => by rw [h3]; exact Heap.get?_push_of_some _ e
  have I4 := block_start I3 ok hN f3
  have pg := hg s3 (upd H2 D (.lst [])) s3.heap.objs.size (cellsFrom (s3.heap.objs.size + 1) scope.names (cloFrom X.env.cells scope.names [])) fp
  have pe := he s3 (upd H2 D (.lst [])) s3.heap.objs.size (cellsFrom (s3.heap.objs.size + 1) scope.names (cloFrom X.env.cells scope.names [])) fp
  show codeAny _ _ (.compStart (.ListComp elt [⟨tg, iter, [], 0⟩] scope pos) 0 (.ref it) (.ref D) (compEnvC scope (cellsFrom (s3.heap.objs.size + 1) scope.names (cloFrom X.env.cells scope.names [])) s3.heap.objs.size X.env))
    (compEnds (model X.prog X.w) X.A X.xe none (EP X pins σ Q) (.ref D) (compEnvC scope (cellsFrom (s3.heap.objs.size + 1) scope.names (cloFrom X.env.cells scope.names [])) s3.heap.objs.size X.env)) { s3 with heap := pushCells (s3.heap.push { cls := .type "dict", data := .dict #[] }) scope.names }
  have nfp : ∀ b ∈ fp, (upd H2 D (.lst [])) b = none := fun b hb => (f3 b hb).1.1
  generalize hce : compEnvC scope (cellsFrom (s3.heap.objs.size + 1) scope.names (cloFrom X.env.cells scope.names [])) s3.heap.objs.size X.env = ce at I4 pg pe ⊢
  have cL : ce.locals = s3.heap.objs.size := by subst hce; rfl
  have cF : ce.frame = X.env.frame := by subst hce; rfl
  generalize upd H2 D (.lst []) = H3 at I3 I4 pg pe w0 nfp f3
  generalize hs4 : ({ s3 with heap := pushCells (s3.heap.push { cls := .type "dict", data := .dict #[] }) scope.names } : Shared) = s4 at I4 ⊢
  have st4 : tn 0 s4.heap := T.keep _ _ _ st3 fun b _ o e => by rw [← hs4]; exact pushCells_keeps _ _ _ _ (Heap.get?_push_of_some _ e)
  have pe := pe (notedBy (model X.prog X.w) X.A ce (CompFails (model X.prog X.w) X.A X.xe ce)) (WE W σ) fun σ' pins' H' s' e s'' I' c =>
    comp_raise (xe := notedBy (model X.prog X.w) X.A ce (CompFails (model X.prog X.w) X.A X.xe ce)) tk hst hfr cF I3 I' (fun b hb => (f3 b hb).1) (Nat.le_of_eq cL.symm) (fun _ _ _ h => h) c
  have stat : ∀ {σ' : L2.St} {H' : Hp} {s' : Shared}, Inv (X.blk s3 H3 scope ce fp) [] σ' H' s' → (∀ b ∈ fp, H' b = none) → ∀ b ∈ fp, FpOk (X.blk s3 H3 scope ce fp) [] H' b := fun I' hn b hb =>
    ⟨hn b hb, (I'.ok.exf b hb).1, I'.ok.exfs b hb, .inl hb, fun x c e => (I'.ok.exf b hb).2 x c e, fun p hp => absurd (show p ∈ ([] : List (Addr × Obj)) ++ [] from hp) (by simp)⟩
  have loop : codeAny (model X.prog X.w) X.A (.compLoop (.ListComp elt [⟨tg, iter, [], 0⟩] scope pos) 0 (.ref it) (.ref D) ce) (compEnds (model X.prog X.w) X.A X.xe none (EP X pins σ Q) (.ref D) ce) s4 := by
    refine compLoop_any (fun n s' => ∃ i H', Inv (X.blk s3 H3 scope ce fp) [] (wipe σ (own.map (·.2))) H' s' ∧ tn i s'.heap ∧ (∀ b ∈ fp, H' b = none) ∧ Wn i n H') ?_ m0 ⟨0, H3, I4, st4, nfp, w0⟩
    rintro n s5 ⟨i, H5, I5, st5, n5, w5⟩
    rcases turn i n H5 w5 with ⟨stop, qq⟩ | ⟨go, Nx, hNx, step⟩
    · refine thnF (T.done (X.blk s3 H3 scope ce fp) rfl rfl rfl hc i [] s5 _ H5 (fun _ _ => False) I5 (stat I5 n5) st5 stop) fun r s6 ⟨hr, I6⟩ => ?_
      subst hr
      have I7 : Inv X pins σ H5 s6 := I3.call' (ch := fp) I6.os I6.base I6.hok I6.bare fun b hb => ⟨(f3 b hb).1.2.2.2.1, (f3 b hb).1.2.1, (f3 b hb).1.2.2.2.2.1, (f3 b hb).1.2.2.2.2.2⟩
      have nC : H5 ce.locals = none := I6.free
      obtain ⟨m, hn, _⟩ := I6.loc
      refine ⟨m, hn, fun h'' sb => ?_⟩
      obtain ⟨g0, g1, _, g3, g4, g5⟩ := I3.fpOk (Nat.le_of_eq cL.symm) nC
      exact ⟨.ref D, H5, I7.turned (t' := s6.toks) (fun b o hb e => (sb.2 b hb).trans e) g0 g1 g3 g4 g5, rfl, qq⟩
    · refine thnF (T.item (X.blk s3 H3 scope ce fp) rfl rfl rfl hc i [] s5 _ H5 (fun _ _ => False) I5 (stat I5 n5) st5 go) fun r s6 ⟨u, hr, h6⟩ => ?_
      subst hr
      refine thnF h6 fun _ s7 ⟨x, H7, I7, r7, y7, st7, n7⟩ => ?_
      refine thnF (pg.run _ s7 _ H7 x u _ (I7.pinned (stat I7 n7) (T.obj _ _ st7)) r7 (step x H7 y7)) fun _ s8 ⟨σ8, H8, I8, hw8, q8⟩ => ?_
      have fin : ∀ {s' : Shared} {H' : Hp}, Inv (X.blk s3 H3 scope ce fp) ([] ++ pinsAt fp s7.heap) σ8 H' s' → Nx H' → ∃ m, m < n ∧ ∃ i H', Inv (X.blk s3 H3 scope ce fp) [] (wipe σ (own.map (·.2))) H' s' ∧ tn i s'.heap ∧ (∀ b ∈ fp, H' b = none) ∧ Wn i m H' := fun {s' H'} I' nx => by
        obtain ⟨m', hm, w'⟩ := hNx H' nx
        have pin' : ∀ b ∈ fp, ∀ o, s7.heap.get? b = some o → s'.heap.get? b = some o ∧ H' b = none := fun b hb o e =>
          let z := I'.pin (b, o) (List.mem_append_right _ (List.mem_append_right _ (mem_pinsAt hb e)))
          ⟨z.1, z.2.1⟩
        refine ⟨m', hm, i + 1, H', (I'.unpinned (pins := [])).weak (by rw [← hw8, wipe_length]) (fun j v e => ?_), T.keep _ _ _ st7 fun b hb o e => (pin' b hb o e).1, fun b hb => ?_, w'⟩
        · rw [← hw8] at e
          exact (wipe_some e).1
        · obtain ⟨o, e, _⟩ := T.obj _ _ st7 b hb
          exact (pin' b hb o e).2
      refine wpAny_tests_nil ?_
      simp only [if_true]
      refine thn (pe.run _ s8 σ8 H8 _ (I8.wish _) q8) fun z s10 ⟨yv, H10, I10, r10, acc, hD10, hz10, nx⟩ => ?_
      exact app_ok (X := X.blk s3 H3 scope ce fp) I10.unwish hD10 hz10 r10 fun s11 I11 => fin I11 nx
  exact codeAny_compStart_list loop (T.self X.A 0 _ _ _ st4 loop)
end
/-! ### methods that may raise, with default values -/
structure MetXD (P : Program) (w : World) (K : PySem.W.Frag) (mg : Str → Option Value) (base : Heap) (k : Nat) (C : Addr) (m : Str) (sp : Sp) (dvs : List V) : Prop where
  ex : ∃ (f : Addr) (fd : FuncData) (ps : List Str) (ds : List Value), Cls K C ∧ Meth K C m f ∧ FnOk P w K mg base (L2.CX P w) k f fd ps sp ∧ Binds K fd ps ds ∧ Vals dvs ds
def tMethXD (C : Addr) (m : Str) (sp : Sp) (dvs : List V) (EE : L2.St → XK) (ta : TE) (t : TA) : TE := fun σ H Q => ta σ H fun x H1 => ∃ a dx fs, x = .ref a ∧ H1 a = some (.ins C dx fs) ∧ fs.lookup m = none ∧ t σ H1 fun vs H2 => sp (x :: (vs ++ dvs)) H2 Q (EE σ)
section
variable {X : Cx} {k j : Nat} {C : Addr} {m : Str} {sp : Sp} {dvs : List V} {o e : Expr} {es : List Expr} {ta : TE} {t : TA} {apos pos : Pos} {W : WX} {E : L2.St → XK}
theorem pe_mtA {pl : Sem Bool} (c : MetXD X.prog X.w X.K X.mg X.base k C m sp dvs) (hr : Room j X.A) (hk : k ≤ j) (hx : ∀ σ, PassesAt (L2.CX X.prog X.w) X σ (E σ)) (he : PE X o ta) (ha : PA X (e :: es) t)
    (hst : starEach (e :: es) X.env = (false, eval e X.env) :: starEach es X.env := by rfl) (hpl : (backTo pos (starEach es X.env)).any (·.1) = false := by rfl)
    (ht : eval (.Call (.Attribute o m apos) (e :: es) [] pos) X.env = (do
      let ov ← eval o X.env
      standAt apos.atName
      let (f, first) ← holding [ov] (getMethod ov m pl)
      callWith pos f first (backTo pos (starEach (e :: es) X.env)) (backToKw pos (keywordEach [] X.env))) := by rfl) :
    PE X (.Call (.Attribute o m apos) (e :: es) [] pos) (tMethXD C m sp dvs E ta t) := by
  obtain ⟨f, fd, ps, ds, hc, hm, F, b, hd⟩ := c.ex
  refine ⟨fun pins s σ H Q I h => ?_⟩
  refine PySem.W.methodCall_KW (pl := pl) (thn (he.run pins s σ H _ I h) fun u s1 ⟨x, H1, I1, rx, a, dx, fs, ex, ea, l, q⟩ => ?_) ht
  subst ex
  obtain rfl : u = Value.ref a := rx
  refine getmeth_ok I1 ea hc hm l ?_
  refine PySem.W.callWith_K (first := [.ref a]) (h₀ := X.base) I.ok.mod.kin hm.kp (thn (ha.run pos pins s1 σ H1 _ I1 q) fun us s2 ⟨vs, H2, I2, r, q2⟩ => ⟨I2.kIn, ?_⟩) hst hpl
  exact run_fnSD (E := E) (us := .ref a :: us) (vs := .ref a :: vs) F (hr.mono hk) b hd (hx σ) I2 (.cons rfl r) q2
theorem pe_mtA0 {pl : Sem Bool} (c : MetXD X.prog X.w X.K X.mg X.base k C m sp dvs) (hr : Room j X.A) (hk : k ≤ j) (hx : ∀ σ, PassesAt (L2.CX X.prog X.w) X σ (E σ)) (he : PE X o ta)
    (ht : eval (.Call (.Attribute o m apos) [] [] pos) X.env = (do
      let ov ← eval o X.env
      standAt apos.atName
      let (f, first) ← holding [ov] (getMethod ov m pl)
      callWith pos f first (backTo pos (starEach [] X.env)) (backToKw pos (keywordEach [] X.env))) := by rfl) :
    PE X (.Call (.Attribute o m apos) [] [] pos) (tMethXD C m sp dvs E ta tNil) := by
  obtain ⟨f, fd, ps, ds, hc, hm, F, b, hd⟩ := c.ex
  refine ⟨fun pins s σ H Q I h => ?_⟩
  refine PySem.W.methodCall_KW (pl := pl) (thn (he.run pins s σ H _ I h) fun u s1 ⟨x, H1, I1, rx, a, dx, fs, ex, ea, l, q⟩ => ?_) ht
  subst ex
  obtain rfl : u = Value.ref a := rx
  refine getmeth_ok I1 ea hc hm l ?_
  exact PySem.W.callWith_K0 (first := [.ref a]) I1.kIn hm.kp (run_fnSD (E := E) (us := [.ref a]) (vs := [.ref a]) F (hr.mono hk) b hd (hx σ) I1 (.cons rfl .nil) q)
theorem pe_mtXD {pl : Sem Bool} (c : MetXD X.prog X.w X.K X.mg X.base k C m sp dvs) (hr : Room j X.A) (hk : k ≤ j) (tk : Takes X W) (he : PE X o ta) (ha : PA X (e :: es) t)
    (hst : starEach (e :: es) X.env = (false, eval e X.env) :: starEach es X.env := by rfl) (hpl : (backTo pos (starEach es X.env)).any (·.1) = false := by rfl)
    (ht : eval (.Call (.Attribute o m apos) (e :: es) [] pos) X.env = (do
      let ov ← eval o X.env
      standAt apos.atName
      let (f, first) ← holding [ov] (getMethod ov m pl)
      callWith pos f first (backTo pos (starEach (e :: es) X.env)) (backToKw pos (keywordEach [] X.env))) := by rfl) :
    PE X (.Call (.Attribute o m apos) (e :: es) [] pos) (tMethXD C m sp dvs (WE W) ta t) := pe_mtA c hr hk (fun σ => passAt tk σ) he ha hst hpl ht
theorem pe_mtXD0 {pl : Sem Bool} (c : MetXD X.prog X.w X.K X.mg X.base k C m sp dvs) (hr : Room j X.A) (hk : k ≤ j) (tk : Takes X W) (he : PE X o ta)
    (ht : eval (.Call (.Attribute o m apos) [] [] pos) X.env = (do
      let ov ← eval o X.env
      standAt apos.atName
      let (f, first) ← holding [ov] (getMethod ov m pl)
      callWith pos f first (backTo pos (starEach [] X.env)) (backToKw pos (keywordEach [] X.env))) := by rfl) :
    PE X (.Call (.Attribute o m apos) [] [] pos) (tMethXD C m sp dvs (WE W) ta tNil) := pe_mtA0 c hr hk (fun σ => passAt tk σ) he ht
end
end Vf

namespace Vf
open PySem L2 PySem.Spec PyProof.Rows He RZ
/-! ### what may raise, called where it does not -/
theorem passA0 {X : Cx} {σ : L2.St} : PassesAt (L2.CX X.prog X.w) X σ E0 := fun _ _ _ _ _ _ c => by
  obtain ⟨_, _, _, _, _, _, _, _, _, _, _, _, hE⟩ := c
  exact False.elim hE
theorem pe_cA {X : Cx} {k j : Nat} {x : Str} {sp : Sp} {p pos : Pos} {e : Expr} {es : List Expr} {t : TA} (c : CalX X.prog X.w X.K X.mg X.base k x sp) (hr : Room j X.A) (hk : k ≤ j) (hg : Gl X x) (ha : PA X (e :: es) t)
    (hdb : (x == ("__debug__" : Str)) = false := by decide) (he : starEach (e :: es) X.env = (false, eval e X.env) :: starEach es X.env := by rfl)
    (hpl : (backTo pos (starEach es X.env)).any (·.1) = false := by rfl) : PE X (.Call (.Name x p) (e :: es) [] pos) (tCallS sp (fun _ => E0) t) := by
  obtain ⟨f, fd, ps, F, hm, kp, b⟩ := c.ex
  exact pe_callS F (hr.mono hk) hg hm kp b (fun σ => passA0) ha hdb he hpl
end Vf

namespace Vf
open PySem L2 PySem.Spec PyProof.Rows He RZ
/-! ### C(..) whose __init__ may raise -/
structure MakX (P : Program) (w : World) (K : PySem.W.Frag) (mg : Str → Option Value) (base : Heap) (k : Nat) (x : Str) (C : Addr) (sp : Sp) : Prop where
  ex : ∃ (f : Addr) (fd : FuncData) (ps : List Str), Mk K C f ∧ FnOk P w K mg base (L2.CX P w) k f fd ps sp ∧ mg x = some (.ref C) ∧ Binds K fd ps []
def tMakX (C : Addr) (sp : Sp) (EE : L2.St → XK) (t : TA) : TE := fun σ H Q => t σ H fun vs H1 => ∀ x dx, H1 x = none → H1 dx = none → dx ≠ x → sp (.ref x :: vs) (upd (upd H1 dx (.own x)) x (.ins C dx [])) (fun v H2 => v = .non ∧ Q (.ref x) H2) (EE σ)
theorem e_tMakX {C : Addr} {sp : Sp} {EE : L2.St → XK} {t : TA} {σ : L2.St} {H : Hp} {Q : VK} (q : t σ H fun vs H1 => ∀ x dx, H1 x = none → H1 dx = none → dx ≠ x → sp (.ref x :: vs) (upd (upd H1 dx (.own x)) x (.ins C dx [])) (fun v H2 => v = .non ∧ Q (.ref x) H2) (EE σ)) : tMakX C sp EE t σ H Q := q
section
variable {X : Cx} {CX : CXT} {k j : Nat} {f C : Addr} {fd : FuncData} {ps : List Str} {sp : Sp} {E : L2.St → XK} {x m : Str} {p pos apos : Pos} {e o : Expr} {es : List Expr} {t : TA}
theorem run_makeX {pins : List (Addr × Obj)} {σ : L2.St} {H : Hp} {s : Shared} {Q : VK} {us : List Value} {vs : List V} (M : Mk X.K C f) (F : FnOk X.prog X.w X.K X.mg X.base CX k f fd ps sp) (hr : Room (k + 1) X.A) (hb : Binds X.K fd ps [])
    (hx : PassesAt CX X σ (E σ)) (I : Inv X pins σ H s) (r : Vals vs us)
    (h : ∀ x dx, H x = none → H dx = none → dx ≠ x → sp (.ref x :: vs) (upd (upd H dx (.own x)) x (.ins C dx [])) (fun v H2 => v = .non ∧ Q (.ref x) H2) (E σ)) :
    wpAny (model X.prog X.w) X.A (call (.ref C) us) (EP X pins σ Q) X.xe s := by
  have hq := h (s.heap.objs.size + 1) s.heap.objs.size (I.hok.fresh (Nat.le_succ _)) (I.hok.fresh (Nat.le_refl _)) (Nat.ne_of_lt (Nat.lt_succ_self _))
  have I2 := Inv.made (C := C) I
  have r2 : Vals (V.ref (s.heap.objs.size + 1) :: vs) (Value.ref (s.heap.objs.size + 1) :: us) := .cons rfl r
  have hl : (Value.ref (s.heap.objs.size + 1) :: us).length = ps.length := by
    have e := r2.length
    rw [F.len _ _ _ _ hq] at e
    exact e.symm
  have b := hb _ (Value.ref (s.heap.objs.size + 1) :: us) I2.kIn (by rw [List.append_nil]; exact hl)
  rw [List.append_nil] at b
  refine wpAny_call (make_map (f := f) I.kIn M.makes M.init (beq_iff_eq.mp M.fn) (codeAny_mono (F.run _ X.stack _ _ ⟨Value.ref (s.heap.objs.size + 1) :: us, []⟩ (Value.ref (s.heap.objs.size + 1) :: us) _ _ (E σ) (hr.make C us [])
    (I2.env0.make C us []) b r2 hq) fun r s' hq' => ?_))
  cases r with
  | error e => exact hx pins _ _ e s' I2 hq'
  | ok fl =>
    cases fl with
    | ret u =>
      obtain ⟨v, H', I3, rv, ev, q3⟩ := I2.after hq'
      subst ev
      exact ⟨rv, ⟨V.ref (s.heap.objs.size + 1), H', I3, rfl, q3⟩⟩
    | next => exact False.elim hq'
    | brk => exact False.elim hq'
    | cont => exact False.elim hq'
end
theorem pe_mkX {X : Cx} {W : WX} {k j : Nat} {C : Addr} {x : Str} {sp : Sp} {p pos : Pos} {e : Expr} {es : List Expr} {t : TA} (c : MakX X.prog X.w X.K X.mg X.base k x C sp) (hr : Room j X.A) (hk : k + 1 ≤ j) (tk : Takes X W) (hg : Gl X x) (ha : PA X (e :: es) t)
    (hdb : (x == ("__debug__" : Str)) = false := by decide) (he : starEach (e :: es) X.env = (false, eval e X.env) :: starEach es X.env := by rfl) (hpl : (backTo pos (starEach es X.env)).any (·.1) = false := by rfl) :
    PE X (.Call (.Name x p) (e :: es) [] pos) (tMakX C sp (WE W) t) := by
  obtain ⟨f, fd, ps, M, F, hm, b⟩ := c.ex
  refine ⟨fun pins s σ H Q I h => ?_⟩
  refine wpAny_Call_Name_kw (ld_glob I hg hm ?_ hdb)
  refine PySem.W.callWith_K (h₀ := X.base) I.ok.mod.kin M.kp (thn (ha.run pos pins s σ H _ I h) fun us s1 ⟨vs, H1, I1, r, q⟩ => ⟨I1.kIn, ?_⟩) he hpl
  exact run_makeX (E := WE W) M F (hr.mono hk) b (passAt tk _) I1 r q
section
variable {X : Cx} {k j : Nat} {C : Addr} {m : Str} {sp : Sp} {o e : Expr} {es : List Expr} {ta : TE} {t : TA} {apos pos : Pos}
theorem pe_mtXA {pl : Sem Bool} (c : MetX X.prog X.w X.K X.mg X.base k C m sp) (hr : Room j X.A) (hk : k ≤ j) (he : PE X o ta) (ha : PA X (e :: es) t)
    (hst : starEach (e :: es) X.env = (false, eval e X.env) :: starEach es X.env := by rfl) (hpl : (backTo pos (starEach es X.env)).any (·.1) = false := by rfl)
    (ht : eval (.Call (.Attribute o m apos) (e :: es) [] pos) X.env = (do
      let ov ← eval o X.env
      standAt apos.atName
      let (f, first) ← holding [ov] (getMethod ov m pl)
      callWith pos f first (backTo pos (starEach (e :: es) X.env)) (backToKw pos (keywordEach [] X.env))) := by rfl) :
    PE X (.Call (.Attribute o m apos) (e :: es) [] pos) (tMethX C m sp (fun _ => E0) ta t) := by
  obtain ⟨f, fd, ps, hc, hm, F, b⟩ := c.ex
  refine ⟨fun pins s σ H Q I h => ?_⟩
  refine PySem.W.methodCall_KW (pl := pl) (thn (he.run pins s σ H _ I h) fun u s1 ⟨x, H1, I1, rx, a, dx, fs, ex, ea, l, q⟩ => ?_) ht
  subst ex
  obtain rfl : u = Value.ref a := rx
  refine getmeth_ok I1 ea hc hm l ?_
  refine PySem.W.callWith_K (first := [.ref a]) (h₀ := X.base) I.ok.mod.kin hm.kp (thn (ha.run pos pins s1 σ H1 _ I1 q) fun us s2 ⟨vs, H2, I2, r, q2⟩ => ⟨I2.kIn, ?_⟩) hst hpl
  exact run_fnS (E := fun _ => E0) (us := .ref a :: us) (vs := .ref a :: vs) F (hr.mono hk) b passA0 I2 (.cons rfl r) q2
theorem pe_mtXA0 {pl : Sem Bool} (c : MetX X.prog X.w X.K X.mg X.base k C m sp) (hr : Room j X.A) (hk : k ≤ j) (he : PE X o ta)
    (ht : eval (.Call (.Attribute o m apos) [] [] pos) X.env = (do
      let ov ← eval o X.env
      standAt apos.atName
      let (f, first) ← holding [ov] (getMethod ov m pl)
      callWith pos f first (backTo pos (starEach [] X.env)) (backToKw pos (keywordEach [] X.env))) := by rfl) :
    PE X (.Call (.Attribute o m apos) [] [] pos) (tMethX C m sp (fun _ => E0) ta tNil) := by
  obtain ⟨f, fd, ps, hc, hm, F, b⟩ := c.ex
  refine ⟨fun pins s σ H Q I h => ?_⟩
  refine PySem.W.methodCall_KW (pl := pl) (thn (he.run pins s σ H _ I h) fun u s1 ⟨x, H1, I1, rx, a, dx, fs, ex, ea, l, q⟩ => ?_) ht
  subst ex
  obtain rfl : u = Value.ref a := rx
  refine getmeth_ok I1 ea hc hm l ?_
  exact PySem.W.callWith_K0 (first := [.ref a]) I1.kIn hm.kp (run_fnS (E := fun _ => E0) (us := [.ref a]) (vs := [.ref a]) F (hr.mono hk) b passA0 I1 (.cons rfl .nil) q)
end
/-- a loop within a try: the context is known from the first proof -/
theorem ps_forT {X : Cx} {W : WX} {tg iter : Expr} {body : List Stmt} {wi : TI} {g : TG} {tb : TS} {pos : Pos} (_tk : Takes X W) (hp : PassesOwn (model X.prog X.w) X.A X.env X.xe) (hc : X.calm = true) (hi : PI X tg iter wi) (hg : PG X tg g) (hb : PSs X body tb)
    (hs : ∀ x, foldedSetIterable iter X.env x = pure x := by intro _; rfl) : PS X (.For tg iter body [] pos) (tFor wi g tb) := ps_for hp hc hi hg hb hs
/-- a try whose body is told for each way out at once: what it does is known before the context is -/
theorem ps_try_onlyP {X : Cx} {x : Str} {c : Value} {body suite : List Stmt} {b₀ : Stmt} {np pos pos' : Pos} {tb : WX → TS} {ts : Addr → Value → Option Addr → TS} {Wout : WX} (hs : X.stack = X.env :: X.outer) (hf : X.env.frame = some X.env.locals) (hc : Names X x c) (tk : Takes X Wout)
    (pk : ∀ W : WX, {t : TS // ∀ (pn : List (Addr × Obj)) (xe : Value → Shared → Prop), Takes (X.tr pn xe) W → PassesOwn (model X.prog X.w) X.A X.env xe → PSs (X.tr pn xe) body t})
    (hsu : ∀ (a : Addr) (oe : Obj) (cls : Value) (d : Option Addr) (pn : List (Addr × Obj)), Zc cls d oe → (∃ vs, oe.data = .fields vs) → PSs (X.suite a ((a, oe) :: pn)) (b₀ :: suite) (ts a cls d)) (ht : tb = fun W => (pk W).1) :
    PS X (.Try body [.ExceptHandler (some (.Name x np)) none (b₀ :: suite) pos'] [] [] pos) (fun D σ H => tb (wOnly X.K c ts Wout D) D σ H) := by
  subst ht
  exact ps_try_only (tb := fun W => (pk W).1) hs hf hc tk (fun W pn xe tk hp => (pk W).2 pn xe tk hp) hsu
end Vf

namespace GQ2
open PySem PySem.SeqAt
open AutoSeq1 (wpAny_loadPart')
open MeetsSeq MeetsSeq2 MeetsSeq3 SeqRoads2
section
variable {prog : Program} {w : World} {A : Around} {R : Result → Shared → Prop}
theorem tuple_neG (l b : Addr) (items items2 : Array Value) (n n2 : Nat) (dd dd2 : Option Addr) (sl sl2 : Array (Option Value)) (hsz : items.size = items2.size) (I : Nat → Shared → Prop)
    (turn : ∀ i (h1 : i < items.size) (h2 : i < items2.size) s, I i s → wpAny (model prog w) A.in1 (eqBool items[i] items2[i]) (fun r s' => r = true ∧ I (i + 1) s') (fun e s' => R (.error e) s') s)
    (fin : ∀ s, I items.size s → R (.ok (.ret (.bool false))) s) {s : Shared} (hl1 : s.heap.get? l = some { cls := .type "tuple", dict := dd, data := .seq items n, slots := sl }) (hb1 : s.heap.get? b = some { cls := .type "tuple", dict := dd2, data := .seq items2 n2, slots := sl2 }) (h : I 0 s) :
    wpAny (model prog w) A.in1 (Builtin.«tuple.__ne__» ⟨[.ref l, .ref b], []⟩) (GQ.FinOf prog w A R) (fun e s' => R (.error e) s') s := by
  have f2 := AutoSeq1.sub_tuple_tuple
  have hZ : (items.toList.zip items2.toList).length = items.size := by simp [hsz]
  have h0 := h
  obtain ⟨hp, g, d, tk, os⟩ := s
  wp_walk using wpAny_loadPart' hl1, wpAny_loadPart' hb1, wpAny_forIn_list _ (fun rest b s' => b.1 = none ∧ ∃ i, rest = (items.toList.zip items2.toList).drop i ∧ i ≤ items.size ∧ I i s') _
  case turn =>
    rintro ⟨y, x⟩ rest b s' ⟨hb', i, hz, hi, hI⟩
    have hlt : i < (items.toList.zip items2.toList).length := by
      rcases Nat.lt_or_ge i (items.toList.zip items2.toList).length with h' | h'
      · exact h'
      · rw [List.drop_of_length_le h'] at hz; cases hz
    have h1 : i < items.size := hZ ▸ hlt
    have h2 : i < items2.size := hsz ▸ h1
    rw [List.drop_eq_getElem_cons hlt] at hz
    injection hz with hyx hrest
    have hy : y = items[i] := by have := congrArg Prod.fst hyx; simpa using this
    have hx : x = items2[i] := by have := congrArg Prod.snd hyx; simpa using this
    subst hy hx
    refine wpAny_bind (wpAny_mono (turn i h1 h2 s' hI) (fun r s2 q2 => ?_) fun _ _ x => x)
    obtain ⟨hr, q2⟩ := q2
    subst hr
    wp_walk
    exact ⟨rfl, i + 1, hrest, h1, q2⟩
  case fin =>
    rintro ⟨b1, b2⟩ s' ⟨hb', i, hz, hi, hI⟩
    simp only at hb'
    subst hb'
    have hge : items.size ≤ i := by
      rcases Nat.lt_or_ge i (items.toList.zip items2.toList).length with h' | h'
      · rw [List.drop_eq_getElem_cons h'] at hz; cases hz
      · exact hZ ▸ h'
    have hi' : i = items.size := by omega
    have hR : R (.ok (.ret (.bool false))) s' := fin s' (hi' ▸ hI)
    wp_walk
    simpa [Builtin.Tuple.tupleCompareSizes, hsz] using hR
  case h =>
    exact ⟨rfl, 0, rfl, Nat.zero_le _, h0⟩
end
section
variable {prog : Program} {w : World} {A : Around} {E : Value → Shared → Prop} {s : Shared}
theorem rc_tupN {l b : Addr} {items items2 : Array Value} {Q : Value → Shared → Prop} (hsz : items.size = items2.size) (hu : A.units < cLine) (I : Nat → Shared → Prop)
    (hl : s.heap.IsTuple l items) (hb : s.heap.IsTuple b items2)
    (turn : ∀ i (h1 : i < items.size) (h2 : i < items2.size) s, I i s → wpAny (model prog w) A.in1 (eqBool items[i] items2[i]) (fun r s' => r = true ∧ I (i + 1) s') E s)
    (fin : ∀ s, I items.size s → Q (.bool false) s) (h : I 0 s) : wpAny (model prog w) A (richCompare .NotEq (.ref l) (.ref b)) Q E s := by
  obtain ⟨⟨cls, dd, data, sl⟩, ho, hc, n, hd⟩ := id hl
  obtain ⟨⟨cls2, dd2, data2, sl2⟩, ho2, hc2, n2, hd2⟩ := id hb
  simp only at hc hd hc2 hd2
  subst hc hd hc2 hd2
  refine wpAny_richCompare_same_room (op := .NotEq) ⟨_, ho, rfl⟩ ⟨_, ho2, rfl⟩ F.slot_tuple_ne (GQ.call_here F.slot_tuple_ne ⟨_, ho, rfl⟩ F.entry_tuple_ne (F.args_tuple_ne_2 _ _) ?_) hu
  exact tuple_neG (R := wants (fun v s' => v ≠ .notImplemented ∧ Q v s') E) l b items items2 n n2 dd dd2 sl sl2 hsz I turn (fun s' q => ⟨(fun x => nomatch x), fin s' q⟩) ho ho2 h
end
end GQ2
namespace Vf
open PySem L2 PySem.Spec PyProof.Rows He RZ
/-- x != y of two tuples whose items are all equal -/
def rNeG (D : L2.Eqv) : R2 := fun x y H Q => D x y H ∧ ∀ H', L2.Ext H H' → Q (.bl false) H'
theorem op_neG {X : Cx} {n : Nat} {D : L2.Eqv} (hD : L2.Mon D) (h : L2.EqG X n D) (hr : Room (n + 1) X.A) : OpR X (compareOp .NotEq) (rNeG (L2.DTup X.K D)) := by
  intro pins s σ H x y v u Q I rx ry hq
  obtain ⟨d, q⟩ := hq
  show wpAny (model X.prog X.w) X.A (richCompare .NotEq v u) (EP X pins σ Q) X.xe s
  obtain ⟨a, b, xs, ys, rfl, rfl, ha, hb, p⟩ := d
  cases rx
  cases ry
  have sb : L2.Sub X (n + 1) X.A := ⟨hr, rfl⟩
  obtain ⟨its, r, e, z⟩ := I.tuple ha
  obtain ⟨its2, r2, e2, z2⟩ := I.tuple hb
  have hsz : its.toArray.size = its2.toArray.size := by rw [List.size_toArray, List.size_toArray, ← r.length, ← r2.length]; exact p.1
  exact GQ2.rc_tupN hsz sb.room.units0 (fun _ s' => L2.LoopI X pins σ H s') e e2 (fun i h1 h2 s' q => L2.turnG hD h sb p r r2 i h1 h2 s' q) (fun s' l => by
    obtain ⟨H', I', ex⟩ := l
    exact ⟨.bl false, H', I', rfl, q H' ex⟩) ⟨H, I, L2.Ext.rfl'⟩
end Vf

namespace SrtO
open PySem PyProof.Rows Srt
section
variable {prog : Program} {w : World} {A : Around} {E : Value → Shared → Prop} {s : Shared}
theorem collect_tupS {l : Addr} {vs : List Value} {Q : List Value → Shared → Prop} (hl : s.heap.IsTuple l vs.toArray) (hz : vs.length ≤ sizeLine)
    (h : Q vs { s with heap := (s.heap.push (seqObj "list" #[] 0)).update s.heap.objs.size (Obj.mapSeq (· ++ vs.toArray)) }) :
    wpAny (model prog w) A (collect (.ref l)) Q E s := by
  obtain ⟨o, ho, hc, n, hd⟩ := id hl
  unfold collect
  refine wpAny_bind (wpAny_runValue (codeAny_builtin entry_proto_collect' ?_))
  show wpAny _ _ (do again (.builtin "list.__iadd__" ⟨[← newList [], .ref l], []⟩)) _ _ s
  refine wpAny_bind (wpAny_newList (wpAny_pure ⟨Code.quiet_builtin _ (by decide +kernel), codeAny_builtin entry_list_iadd' ?_⟩))
  show wpAny _ _ (Builtin.List.listExtendWith (.ref s.heap.objs.size) (.ref l) (.ref s.heap.objs.size)) _ _ { s with heap := s.heap.push (seqObj "list" #[] 0) }
  unfold Builtin.List.listExtendWith
  have ho' : (s.heap.push (seqObj "list" #[] 0)).get? l = some o := Heap.get?_push_of_some _ ho
  refine wpAny_bind (wpAny_typeOf (T := "tuple") ⟨o, ho', hc⟩ ?_)
  have ht : (Value.type "tuple" == Value.type "tuple") = true := by rfl
  rw [if_pos (by rw [ht]; simp)]
  refine wpAny_bind (listItems_at ho' hd ?_)
  refine wpAny_bind (listItems_at (xs := #[]) (n := 0) (Heap.get?_push_size _ rfl) rfl ?_)
  rw [if_neg (by simp)]
  refine wpAny_bind (listUpdate_at (xs := #[]) (n := 0) (Heap.get?_push_size _ rfl) rfl ?_ (Nat.zero_le _) (by show (#[] ++ vs.toArray).size ≤ sizeLine + 1; simp only [Array.size_append, List.size_toArray, List.length_nil]; omega))
  refine wpAny_pure ?_
  show wpAny (model prog w) A (do
      let o ← load s.heap.objs.size
      match o.data with
      | .seq xs _ => pure xs.toList
      | _ => unsupported "internal:collect") Q E { s with heap := (s.heap.push (seqObj "list" #[] 0)).update s.heap.objs.size (Obj.mapSeq (· ++ vs.toArray)) }
  refine wpAny_bind (wpAny_load (get?_update_seq (Heap.get?_push_size _ rfl) _) ?_)
  show wpAny _ _ (pure ((#[] : Array Value) ++ vs.toArray).toList) Q E _
  rw [show ((#[] : Array Value) ++ vs.toArray).toList = vs by simp]
  exact wpAny_pure h
theorem sorted_ordT {l : Addr} {vs : List Value} {ltv : Value → Value → Bool} {Q : Value → Shared → Prop} (O : Swo ltv) (hl : s.heap.IsTuple l vs.toArray) (hz : vs.length ≤ sizeLine)
    (hS : 2 ≤ vs.length → ∀ (h₁ : Heap) (a : Addr), h₁.get? a = some (seqObj "list" vs.toArray 0) → (∀ b o, s.heap.get? b = some o → b ≠ a ∧ h₁.get? b = some o) → SortableO prog w A.in1.in1 { s with heap := h₁ } a vs ltv)
    (h : ∀ out : List Value, Srtd ltv out → Stb ltv out vs → Q (.ref (s.heap.objs.size + 1)) { s with heap := sortedAll s.heap vs out.toArray }) :
    wpAny (model prog w) A (call (.builtin "sorted") [.ref l]) Q E s := by
  refine Calls.call_function_entry kind_sorted plain_sorted entry_sorted (args_sorted1 _) ?_
  unfold Builtin.«sorted»
  refine wpAny_bind (m := checkCount "sorted" 1 1 _) (wpAny_pure ?_)
  refine wpAny_bind (collect_tupS hl hz ?_)
  refine wpAny_bind (wpAny_newList ?_ hz)
  have hsz : ((s.heap.push (seqObj "list" #[] 0)).update s.heap.objs.size (Obj.mapSeq (· ++ vs.toArray))).objs.size = s.heap.objs.size + 1 := by
    rw [Heap.size_update, size_push']
  have hoL : (((s.heap.push (seqObj "list" #[] 0)).update s.heap.objs.size (Obj.mapSeq (· ++ vs.toArray))).push (seqObj "list" vs.toArray 0)).get? (s.heap.objs.size + 1) = some (seqObj "list" vs.toArray 0) := by
    rw [← hsz]; exact Heap.get?_push_size _ rfl
  have keep : ∀ b o, s.heap.get? b = some o → b ≠ s.heap.objs.size + 1 ∧ (((s.heap.push (seqObj "list" #[] 0)).update s.heap.objs.size (Obj.mapSeq (· ++ vs.toArray))).push (seqObj "list" vs.toArray 0)).get? b = some o := fun b o q => by
    have hlt : b < s.heap.objs.size := Heap.lt_size q
    refine ⟨Nat.ne_of_lt (Nat.lt_succ_of_lt hlt), Heap.get?_push_of_some _ ?_⟩
    rw [Heap.get?_update_ne _ _ _ _ (Nat.ne_of_lt hlt)]
    exact Heap.get?_push_of_some _ q
  show wpAny _ _ _ _ _ { s with heap := ((s.heap.push (seqObj "list" #[] 0)).update s.heap.objs.size (Obj.mapSeq (· ++ vs.toArray))).push (seqObj "list" vs.toArray 0) }
  rw [hsz]
  refine wpAny_bind (wpAny_holding (wpAny_call_entry slot_list_sort ⟨_, hoL, rfl⟩ entry_list_sort (list_sort_ord O hoL hz (fun h2 => hS h2 _ _ hoL keep) fun out hs hb => ⟨_, rfl, ?_⟩) (args_list_sort _)))
  exact wpAny_pure ⟨_, rfl, h out hs hb⟩
theorem sorted_pairsOT {l : Addr} {vs : List Value} {k : Value → Int × Int} {Q : Value → Shared → Prop} (hl : s.heap.IsTuple l vs.toArray) (hz : vs.length ≤ sizeLine) (hp : ∀ v ∈ vs, IsPair s.heap v (k v).1 (k v).2)
    (h : ∀ (h' : Heap) (d : Addr) (out : List Value), Srtd (fun v u => lexB (k v) (k u)) out → Stb (fun v u => lexB (k v) (k u)) out vs → (∀ b o, s.heap.get? b = some o → h'.get? b = some o) → s.heap.objs.size ≤ d → (∃ n, h'.get? d = some (seqObj "list" out.toArray n)) → Q (.ref d) { s with heap := h' }) :
    wpAny (model prog w) A (call (.builtin "sorted") [.ref l]) Q E s := by
  refine sorted_ordT (swo_lex k) hl hz (fun h2 h₁ a ha kk => ?_) fun out hs hb => ?_
  · refine pairs_sortableO (s := { s with heap := h₁ }) (by omega) (fun v hm => (hp v hm).keeps fun b o e _ => (kk b o e).2) fun o e => ?_
    have e' : some o = some (seqObj "list" vs.toArray 0) := e.symm.trans ha
    cases e'
    intro c
    exact absurd (Value.type.inj c) (by decide)
  · exact h _ _ out hs hb (fun b o e => sortedAll_old e) (Nat.le_succ _) (sortedAll_at s.heap vs out.toArray)
end
end SrtO
namespace Vf
open PySem L2 PySem.Spec PyProof.Rows He RZ
/-- sorted(t), t a tuple of pairs of ints -/
def rSortedPT (K : PySem.W.Frag) : List V → Hp → VK → Prop := fun vs H Q => ∃ (a : Addr) (xs : List V) (k : V → Int × Int), vs = [V.ref a] ∧ SqT K H a xs ∧ (∀ x ∈ xs, ∃ t, x = V.ref t ∧ H t = some (.tup [.int (k x).1, .int (k x).2])) ∧
  ∀ ys p, SrtO.Srtd (ltP k) ys → SrtO.Stb (ltP k) ys xs → H p = none → Q (.ref p) (upd H p (.lst ys))
theorem cr_sortedPT {X : Cx} : CallR X (.builtin "sorted") (rSortedPT X.K) := by
  intro pins s σ H vs us Q I r h
  obtain ⟨a, xs, k, rfl, hs, hx, q⟩ := h
  obtain ⟨its, rv, hl, hz⟩ := I.tuple hs
  obtain ⟨u, rfl, ru⟩ := vals1 r
  obtain rfl : u = Value.ref a := ru
  obtain ⟨e1, e2⟩ := refs_back rv fun x m => by
    obtain ⟨t, e, _⟩ := hx x m
    exact ⟨t, e⟩
  refine SrtO.sorted_pairsOT (k := fun u => k (backV u)) hl (by rw [← rv.length]; exact hz) (fun v hv => ?_) fun h' d out h1 h2 kp hd hn => ?_
  · obtain ⟨t, rfl⟩ := e2 v hv
    have hm : V.ref t ∈ xs := by rw [e1]; exact List.mem_map.mpr ⟨_, hv, rfl⟩
    obtain ⟨t', e, ht⟩ := hx _ hm
    cases e
    obtain ⟨_, its2, r2, o, ho, hc, n, hd⟩ := I.hok _ _ ht
    obtain ⟨u1, u2, rfl, ri, rj⟩ := vals2 r2
    obtain ⟨t1, rfl⟩ := ri
    obtain ⟨t2, rfl⟩ := rj
    exact ⟨t, o, t1, t2, n, rfl, ho, hc, hd⟩
  · have h3 : ∀ u ∈ out, ∃ a, u = Value.ref a := fun u hu => e2 u (h2.perm.mem_iff.mp hu)
    obtain ⟨n, hn⟩ := hn
    have hb : SrtO.Stb (ltP k) (out.map backV) xs := by
      rw [e1]
      exact SrtO.Stb.map (ltP_swo k) backV h2
    refine ⟨.ref d, upd H d (.lst (out.map backV)), I.laid (t' := s.toks) kp hd ⟨?_, out, n, vals_back h3, hn⟩, rfl, q _ d (SrtO.srtd_map h1) hb (I.hok.fresh hd)⟩
    rw [hb.len]
    exact hz
end Vf

namespace Vf
open PySem L2 PySem.Spec PyProof.Rows
/-! max(xs, default=d), xs a list of ints -/
def rMaxDf (K : PySem.W.Frag) : List V → List V → Hp → VK → Prop := fun vs zs H Q => ∃ (a : Addr) (ns : List Int) (d : Int), vs = [V.ref a] ∧ zs = [.int d] ∧ SqL K H a (ns.map V.int) ∧ (ns = [] → Q (.int d) H) ∧ ∀ m, m ∈ ns → (∀ y, y ∈ ns → y ≤ m) → Q (.int m) H
theorem reads_intsAre {h : Heap} : ∀ {its : List Value} {ns : List Int}, IntsAre its ns → ReadsAll h its (ns.map .int) []
  | _, _, .nil => .nil
  | _, _, .cons n t r => .cons (.int n t) (reads_intsAre r)
theorem alike_ints (ns : List Int) : PySem.W.AlikeAll (ns.map PyData.int) := by
  refine ⟨fun x hx y hy => ?_, fun x hx => ?_⟩
  · obtain ⟨a, _, rfl⟩ := List.mem_map.mp hx
    obtain ⟨b, _, rfl⟩ := List.mem_map.mp hy
    rfl
  · obtain ⟨a, _, rfl⟩ := List.mem_map.mp hx
    exact fun z => by cases z
theorem depthZ : ∀ ns : List Int, PyData.depthAll (ns.map .int) = 0
  | [] => rfl
  | n :: r => by simp only [List.map, PyData.depthAll, PyData.depth, depthZ r, Nat.max_self]
theorem foldl_max (n : Int) : ∀ ns : List Int, ns.foldl max n ∈ n :: ns ∧ ∀ y ∈ n :: ns, y ≤ ns.foldl max n
  | [] => ⟨by simp, fun y hy => by simp at hy; rw [hy]; exact Int.le_refl _⟩
  | a :: ns => by
    obtain ⟨h1, h2⟩ := foldl_max (max n a) ns
    refine ⟨?_, fun y hy => ?_⟩
    · rcases List.mem_cons.mp h1 with e | h
      · show ns.foldl max (max n a) ∈ _
        rw [e]
        rcases Int.le_total n a with z | z
        · rw [Int.max_eq_right z]; simp
        · rw [Int.max_eq_left z]; simp
      · exact List.mem_cons_of_mem _ (List.mem_cons_of_mem _ h)
    · have h3 := h2 (max n a) (List.mem_cons_self ..)
      show y ≤ ns.foldl max (max n a)
      rcases List.mem_cons.mp hy with e | h
      · rw [e]; exact Int.le_trans (Int.le_max_left ..) h3
      · rcases List.mem_cons.mp h with e | h
        · rw [e]; exact Int.le_trans (Int.le_max_right ..) h3
        · exact h2 y (List.mem_cons_of_mem _ h)
theorem cr_maxDf {X : Cx} (hc : X.calm = true) (hu : X.A.units + 64 < cLine) : CallRK X (.builtin "max") [Str.ofString "default"] (rMaxDf X.K) := by
  intro pins s σ H vs zs us ws Q I r rz hq
  obtain ⟨a, ns, d, rfl, rfl, hs, q0, q1⟩ := hq
  obtain ⟨its, rv, hl, _⟩ := I.list hs
  rw [Vals.ref1 r]
  obtain ⟨u, rfl, ru⟩ := vals1 rz
  obtain ⟨t, rfl⟩ := ru
  have hr := reads_intsAre (h := s.heap) rv.ints
  refine PySem.W.max_list_default (I.ok.hd hc) hl.isList hr (alike_ints ns) (by rw [depthZ]; omega) (fun e h' tk hk => ?_) fun y ys i v h' tk bs e hi hv hk => ?_
  · exact ⟨.int d, H, I.kept hk, ⟨t, rfl⟩, q0 (List.map_eq_nil_iff.mp e)⟩
  · cases ns with
    | nil => cases e
    | cons n ns =>
      rw [List.map_cons] at e
      injection e with e1 e2
      subst e1 e2
      rw [PySem.W.maxD_ints] at hv
      obtain ⟨t2, rfl, _⟩ := reads_int_inv hv
      obtain ⟨h1, h2⟩ := foldl_max n ns
      exact ⟨.int _, H, I.kept hk, ⟨t2, rfl⟩, q1 _ h1 h2⟩
theorem pe_maxDf {X : Cx} {p p3 pos : Pos} {e d : Expr} {t : TA} {td : TE} (hc : X.calm = true) (hu : X.A.units + 64 < cLine) (hg : Gl X "max") (hm : X.mg "max" = none) (ha : PA X [e] t) (hd : PE X d td)
    (he : backTo pos (starEach [e] X.env) = (false, eval e X.env) :: backTo pos (starEach [] X.env) := by rfl) (hpl : (backTo pos (starEach [e] X.env)).any (·.1) = false := by rfl)
    (hall : (backToKw pos (keywordEach [⟨some "default", d, p3⟩] X.env)).all (·.1.isSome) = true := by rfl) (hnone : (backToKw pos (keywordEach [⟨some "default", d, p3⟩] X.env)).any (·.1.isNone) = false := by rfl) (hks : (backToKw pos (keywordEach [⟨some "default", d, p3⟩] X.env)).filterMap (·.1) = [Str.ofString "default"] := by rfl) :
    PE X (.Call (.Name "max" p) [e] [⟨some "default", d, p3⟩] pos) (tCKw (rMaxDf X.K) t (tCons td tNil)) :=
  pe_callBK (cr_maxDf hc hu) hg hm (by first | rfl | decide +kernel) ha (pk_cons hd pk_nil) (by decide) (by decide) he hpl hall hnone hks
/-- xs.count(x) within a comprehension -/
theorem pe_lcountK (K : PySem.W.Frag) {X : Cx} {o e : Expr} {apos cpos : Pos} {to : TE} {t : TA} (ho : PE X o to) (ha : PA X [e] t) (hK : X.K = K := by rfl)
    (hbase : attributeBase o "count" X.env (eval o X.env) = eval o X.env := by rfl)
    (hfew : ((backTo cpos (starEach [e] X.env)).all (fun x => !x.1) && (backToKw cpos (keywordEach [] X.env)).all (fun x => x.1.isSome)
      && decide ([e].length + ([] : List Keyword).length + (if ([] : List Keyword).isEmpty then 0 else 1) < 30)) = true := by rfl)
    (hline : (apos.endLine == cpos.line) = true := by rfl) (hs : starEach [e] X.env = (false, eval e X.env) :: starEach [] X.env := by rfl) (hplain : (backTo cpos (starEach [] X.env)).any (·.1) = false := by rfl) :
    PE X (.Call (.Attribute o "count" apos) [e] [] cpos) (tBM K "list" (rCntI K) to t) := by
  subst hK
  exact pe_bm PySem.F.plainAttrs_list PySem.F.slot_list_count PySem.F.type_list_count mt_lcount ho ha hbase hfew hline hs hplain
/-- len(d), a dict with int or text keys -/
theorem cr_lenDK {X : Cx} : CallR X (.builtin "len") (fun xs H Q => ∃ p kvs, xs = [.ref p] ∧ Rd H p (.dK kvs) ∧ Q (.int (kvs.length : Nat)) H) := by
  intro pins s σ H xs us Q I r h
  obtain ⟨p, kvs, rfl, hd, q⟩ := h
  rw [Vals.ref1 r]
  exact d_len I hd fun t s' I' => ⟨.int _, H, I', ⟨t, rfl⟩, q⟩
/-- len of a set of ints -/
def rLenS (w : World) : List V → Hp → VK → Prop := fun xs H Q => ∃ p S n, xs = [.ref p] ∧ H p = some (SetO w p S n) ∧ ∀ N : List Int, N.Nodup → (∀ k, S k = true ↔ k ∈ N) → Q (.int (N.length : Nat)) H
theorem cr_lenS {X : Cx} : CallR X (.builtin "len") (rLenS X.w) := by
  intro pins s σ H xs us Q I r h
  obtain ⟨p, S, n, rfl, hp, q⟩ := h
  rw [Vals.ref1 r]
  obtain ⟨o, es, ep, t, ho, hex, hd, _, nd, hS, hb, hf, hn, _⟩ := setO_get I hp
  have q2 := q _ nd hS
  rw [List.length_map, Array.length_toList] at q2
  have : scanBound < 2 ^ 63 := by decide
  exact call_len_set ho hex hd hf (by omega) ⟨.int _, H, I.tok _, ⟨_, rfl⟩, q2⟩
end Vf

namespace Vf
open PySem L2 PySem.Spec PyProof.Rows
/-! d.update(e), two dicts with number or text keys -/
def rUpdD : V → List V → Hp → VK → Prop := fun x xs H Q => ∃ (a b : Addr) (kvs more : List (L2.Key × V)), x = .ref a ∧ xs = [.ref b] ∧ a ≠ b ∧ H a = some (.dK kvs) ∧ H b = some (.dK more) ∧ kvs.length + more.length ≤ sizeLine ∧ Q .non (upd H a (.dK (mergeK kvs more)))
theorem mt_updD {X : Cx} : MtR X "dict.update" rUpdD := by
  intro pins s σ H x xs v us Q I rx rxs h
  obtain ⟨a, b, kvs, more, rfl, rfl, ne, ha, hb, hl, q⟩ := h
  cases rx
  obtain ⟨u, rfl, ru⟩ := vals1 rxs
  cases ru
  obtain ⟨z, hd, vs, rel, dd⟩ := dk_of I.hok ha
  obtain ⟨z2, hd2, vs2, rel2, dd2⟩ := dk_of I.hok hb
  refine call_meetsIn PySem.F.slot_dict_update dd.typeIs PySem.F.entry_dict_update (PySem.F.args_dict_update_2 _ _) (meets_dict_update (mixKind X.prog X.w) a b ne hd2)
    ⟨vs, vs2, dd, dd2, by rw [← rel.length, ← rel2.length]; exact hl, fun h' dd' _ hs => ?_⟩
  have he : ∃ q, h'.get? a = some q := let ⟨q, _, _, hq, _⟩ := dd'; ⟨q, hq⟩
  exact ⟨.non, _, d_write (t' := s.toks) I (by rw [ha]; exact True.intro) hs he (dk_new (Nat.le_trans (length_mergeK more kvs) hl) hd (KV.merge rel2 rel) dd'), rfl, q⟩
end Vf

namespace Vf
open PySem L2 PySem.Spec PyProof.Rows He
/-! ### t[::-1], any tuple -/
theorem rev_places (n : Nat) : Builtin.Slice.slicePlaces ((n : Int) - 1) (-1) (-1) = n := by
  unfold Builtin.Slice.slicePlaces
  rw [if_neg (by decide)]
  by_cases h : (n : Int) - 1 > -1
  · rw [if_pos h, show (-(-1) : Int) = 1 from rfl, Int.ediv_one]; omega
  · rw [if_neg h]; omega
theorem rev_adjust (n : Nat) : Builtin.Slice.sliceAdjust none none (-1) (n : Int) = ((n : Int) - 1, -1) := rfl
theorem range_self {α : Type} : ∀ m : List α, ((List.range m.length).filterMap fun k => m[k]?) = m
  | [] => rfl
  | a :: t => by
    rw [List.length_cons, List.range_succ_eq_map, List.filterMap_cons]
    show a :: _ = _
    rw [List.filterMap_map]
    exact congrArg _ (range_self t)
theorem filterMap_on {α β : Type} {f g : α → Option β} : ∀ {l : List α}, (∀ x ∈ l, f x = g x) → l.filterMap f = l.filterMap g
  | [], _ => rfl
  | a :: l, h => by
    rw [List.filterMap_cons, List.filterMap_cons, h a (List.mem_cons_self ..), filterMap_on fun x m => h x (List.mem_cons_of_mem _ m)]
theorem rev_items {α : Type} (xs : Array α) : ((List.range xs.size).filterMap fun (k : Nat) => xs[(((xs.size : Nat) : Int) - 1 + (k : Int) * (-1)).toNat]?) = xs.toList.reverse := by
  have h : ((List.range xs.size).filterMap fun (k : Nat) => xs[(((xs.size : Nat) : Int) - 1 + (k : Int) * (-1)).toNat]?) = ((List.range xs.size).filterMap fun (k : Nat) => xs.toList.reverse[k]?) := by
    refine filterMap_on fun k hk => ?_
    have hk := List.mem_range.mp hk
    rw [List.getElem?_reverse (by rw [Array.length_toList]; exact hk), Array.getElem?_toList, Array.length_toList]
    congr 1
    omega
  rw [h]
  have := range_self xs.toList.reverse
  rw [List.length_reverse, Array.length_toList] at this
  exact this
section
variable {prog : Program} {w : World} {A : Around} {E : Value → Shared → Prop} {s : Shared}
theorem revN_applied {n : Nat} {sl : Addr} {u : Tok} {Q : Int × Int × Nat → Shared → Prop} (hs : s.heap.IsSliceOf sl .none .none (.int (-1) u)) (h : Q ((n : Int) - 1, -1, n) s) :
    wpAny (model prog w) A (Builtin.Slice.sliceApplied (.ref sl) (pure ((n : Nat) : Int))) Q E s := by
  obtain ⟨os, hos, hcs, hds⟩ := id hs
  unfold Builtin.Slice.sliceApplied Builtin.Slice.sliceFields
  refine wpAny_bind (wpAny_bind (wpAny_field hos hds (x := .none) rfl (wpAny_bind (wpAny_field hos hds (x := .none) rfl (wpAny_bind (wpAny_field hos hds (x := .int (-1) u) rfl (wpAny_pure ?_)))))))
  refine wpAny_bind (slicePart_int ?_)
  show wpAny _ _ (if ((-1 : Int) == 0) = true then _ else _) _ _ s
  rw [if_neg (by decide)]
  refine wpAny_bind (slicePart_none (wpAny_bind (slicePart_none (wpAny_bind (wpAny_pure ?_)))))
  show wpAny _ _ (match Builtin.Slice.sliceAdjust none none (-1) ((n : Nat) : Int) with | (lo, hi) => pure (lo, (-1 : Int), Builtin.Slice.slicePlaces lo hi (-1))) _ _ s
  rw [rev_adjust]
  show wpAny _ _ (pure ((n : Int) - 1, (-1 : Int), Builtin.Slice.slicePlaces ((n : Int) - 1) (-1) (-1))) _ _ s
  rw [rev_places]
  exact wpAny_pure h
theorem getItem_tup_rev {t sl : Addr} {its : Array Value} {u : Tok} {Q : Value → Shared → Prop} (ht : IsTup s.heap t its) (hz : its.size ≤ sizeLine) (hs : s.heap.IsSliceOf sl .none .none (.int (-1) u))
    (h : Q (.ref s.heap.objs.size) { s with heap := s.heap.push { cls := .type "tuple", data := .seq its.toList.reverse.toArray } }) : wpAny (model prog w) A (getItem (.ref t) (.ref sl)) Q E s := by
  obtain ⟨os, hos, hcs, hds⟩ := id hs
  have hTs : s.TypeIs (.ref sl) "slice" := ⟨os, hos, hcs⟩
  unfold getItem
  try with_reducible refine wpAny_holding ?_
  first | refine wpAny_bind (wpAny_pure ?_) | skip
  refine wpAny_bind (wpAny_sequenceKey ht.typeIs (by decide) ?_)
  refine wpAny_bind (wpAny_callSpecial?_slot (name := Str.ofString "__getitem__") ht.typeIs PyProof.Rows.slot_tuple_getitem
    (wpAny_call_entry PyProof.Rows.slot_tuple_getitem ht.typeIs entry_tuple_getitem ?_ (args_tuple_getitem _ _)))
  show wpAny _ _ (Builtin.Tuple.tupleItemsOf (.ref t) >>= _) _ _ s
  refine wpAny_bind (tupleItemsOf_ ht ?_)
  refine wpAny_bind (wpAny_typeOf hTs ?_)
  rw [if_pos (by decide)]
  refine wpAny_bind (revN_applied hs ?_)
  show wpAny _ _ (if ((((its.size : Nat) : Int) - 1) == 0 && (-1 : Int) == 1 && (its.size == its.size)) = true then _ else _) _ _ s
  rw [if_neg (by rw [show ((-1 : Int) == 1) = false from by decide, Bool.and_false, Bool.false_and]; exact Bool.false_ne_true)]
  rw [rev_items]
  have hz : sizeOk (.seq its.toList.reverse.toArray) := by show its.toList.reverse.toArray.size ≤ sizeLine; simpa using hz
  first
    | exact wpAny_bind (m := Builtin.Tuple.tupleExact _) (wpAny_newObj_type (wpAny_pure ⟨_, rfl, wpAny_pure h⟩) hz)
    | exact wpAny_bind (m := Builtin.Tuple.tupleExact _) (wpAny_newObj_type (wpAny_bind (wpAny_pure (wpAny_pure ⟨_, rfl, wpAny_pure h⟩))) hz)
    | exact wpAny_bind (wpAny_bind (m := Builtin.Tuple.tupleExact _) (wpAny_newObj_type (wpAny_pure (wpAny_pure ⟨_, rfl, wpAny_pure h⟩)) hz))
    | exact wpAny_bind (wpAny_bind (m := Builtin.Tuple.tupleExact _) (wpAny_newObj_type (wpAny_pure ⟨_, rfl, wpAny_pure h⟩) hz))
end
section
variable {X : Cx}
def tRevTN (K : PySem.W.Frag) (te : TE) : TE := fun σ H Q => te σ H fun x H1 => ∃ a xs, x = .ref a ∧ SqT K H1 a xs ∧ ∀ p, H1 p = none → Q (.ref p) (upd H1 p (.tup xs.reverse))
theorem vals_rev : ∀ {xs : List V} {us : List Value}, Vals xs us → Vals xs.reverse us.reverse
  | _, _, .nil => .nil
  | _, _, .cons r t => by
    rw [List.reverse_cons, List.reverse_cons]
    exact (vals_rev t).append (.cons r .nil)
theorem pe_revTN {e : Expr} {te : TE} {k : Nat} {p1 p2 p3 pos : Pos} (he : PE X e te) : PE X (.Subscript e (.Slice none none (some (.UnaryOp .USub (.Constant (.int 1) k p1) p2)) p3) pos) (tRevTN X.K te) := by
  refine ⟨fun pins s σ H Q I h => ?_⟩
  refine Subscript_ (thn (he.run pins s σ H _ I h) fun v s1 ⟨x, H1, I1, r1, q1⟩ => ?_)
  obtain ⟨a, xs, ex, hx, q⟩ := q1
  subst ex
  cases r1
  have hst : PO X (some (.UnaryOp .USub (.Constant (.int 1) k p1) p2)) (tPart (tUn (rU fun i => .int (-i)) (tC (.int 1)))) := po_some (pe_un un_neg pe_int)
  refine wpAny_Slice (thn (po_none.run pins s1 σ H1 (fun o H2 => o = none ∧ H2 = H1) I1 ⟨rfl, rfl⟩) fun vl s2 ⟨l, H2, I2, pl, el, e2⟩ => ?_)
  subst el e2
  refine thn (po_none.run pins s2 σ H2 (fun o H3 => o = none ∧ H3 = H2) I2 ⟨rfl, rfl⟩) fun vu s3 ⟨u, H3, I3, pu, eu, e3⟩ => ?_
  subst eu e3
  refine thn (hst.run pins s3 σ H3 (fun o H4 => o = some (-1) ∧ H4 = H3) I3 ⟨1, rfl, -1, rfl, rfl, rfl⟩) fun vs s4 ⟨o, H4, I4, ps, eo, e4⟩ => ?_
  subst eo e4
  cases pl
  cases pu
  cases ps with
  | int i tk =>
  have I5 : Inv X pins σ H4 { s4 with heap := s4.heap.push { cls := .type "slice", data := .fields #[.none, .none, .int (-1) tk] } } := I4.kept (t' := s4.toks) fun b ob q => Heap.get?_push_of_some _ q
  obtain ⟨its, r, ht, hz⟩ := I5.tuple hx
  show wpAny (model X.prog X.w) X.A (subscriptTail e (.Slice none none (some (.UnaryOp .USub (.Constant (.int 1) k p1) p2)) p3) (.ref a) (.ref s4.heap.objs.size)) (EP X pins σ Q) X.xe { s4 with heap := s4.heap.push { cls := .type "slice", data := .fields #[.none, .none, .int (-1) tk] } }
  refine tail_any (ops := [.ref a, .ref s4.heap.objs.size]) ht.typeIs PyProof.Rows.slot_tuple_getitem.lookup ?_ (by with_unfolding_all rfl)
  have hz2 : its.toArray.size ≤ sizeLine := by rw [List.size_toArray, ← r.length]; exact hz
  refine getItem_tup_rev ht hz2 (Heap.IsSliceOf.new _ _ _ _) ?_
  have hl : xs.reverse.length ≤ sizeLine := by rw [List.length_reverse]; exact hz
  refine ⟨.ref _, _, I5.laid (t' := s4.toks) (o := .tup xs.reverse) (fun b ob q => Heap.get?_push_of_some _ q) (Nat.le_refl _) ?_, rfl, q _ (I5.hok.fresh (Nat.le_refl _))⟩
  exact ⟨hl, _, vals_rev r, IsTup.new _ _⟩
end
end Vf

namespace Vf
open PySem L2 PySem.Spec PyProof.Rows
/-! t * n, n at least 1 -/
theorem tuple_mul1 (l : Addr) (items : Array Value) (n : Nat) (dd : Option Addr) (sl : Array (Option Value)) (u : Tok) :
    Meets (Builtin.«tuple.__mul__» ⟨[.ref l, .int 1 u], []⟩) (fun _ R s => s.heap.get? l = some { cls := .type "tuple", dict := dd, data := .seq items n, slots := sl } ∧
      R (.ok (.ret (Value.ref l))) s) :=
  .of_wp fun prog w A R s h => by
    obtain ⟨hp, g, d, tk, os⟩ := s
    obtain ⟨hl, h⟩ := h
    have f1 := AutoSeq1.idx_int
    wp_walk using wpAny_loadPart' hl
    repeat (first
      | (refine wpAny_ite_false (decide_eq_false (by decide)) ?_; wp_walk using wpAny_loadPart' hl)
      | (refine wpAny_ite_true (decide_eq_true (by simp)) ?_; wp_walk using wpAny_loadPart' hl))
    exact ⟨_, rfl, h⟩
def rRepU (K : PySem.W.Frag) : R2 := fun x y H Q => ∃ l k xs, x = .ref l ∧ y = .int k ∧ SqT K H l xs ∧ xs ≠ [] ∧ 1 ≤ k ∧ k ≤ 1000 ∧ xs.length ≤ 1000 ∧ (k = 1 → Q (.ref l) H) ∧ (2 ≤ k → ∀ p, H p = none → Q (.ref p) (upd H p (.tup (List.replicate k.toNat xs).flatten)))
theorem op_repU {X : Cx} : OpR X (binaryOp .Mult) (rRepU X.K) := by
  intro pins s σ H x y v u Q I rx ry h
  obtain ⟨l, k, xs, rfl, rfl, hT, hne, h1, h2, hz, q1, q2⟩ := h
  by_cases hk : k = 1
  rotate_left
  · exact op_repT pins s σ H _ _ v u Q I rx ry ⟨l, k, xs, rfl, rfl, hT, hne, by omega, h2, hz, q2 (by omega)⟩
  subst hk
  cases rx
  obtain ⟨t, rfl⟩ := ry
  obtain ⟨its, r, ⟨⟨cls, dd, data, sl⟩, ho, hc, n, hd⟩, hs⟩ := I.tuple hT
  simp only at hc hd
  subst hc hd
  refine wpAny_binaryOp_repeat_ref (T := "tuple") (U := "int") (by decide) ⟨_, ho, rfl⟩ (fun s' => typeIs_int s' 1 t) noFill_tuple_mul F.fills_int_mul F.slot_int_rmul repeat_tuple F.slot_int_index.lookup
    (call_meets F.slot_int_rmul (typeIs_int s 1 t) F.entry_int_rmul (F.args_int_rmul_2 _ _) (int_rmul_tuple 1 t l its.toArray n dd sl)
      ⟨ho, rfl, ⟨_, ho, rfl⟩, call_meets F.slot_tuple_mul ⟨_, ho, rfl⟩ F.entry_tuple_mul (F.args_tuple_mul_2 _ _) (tuple_mul1 l its.toArray n dd sl t) ⟨ho, ?_⟩⟩)
  exact ⟨.ref l, H, I, rfl, q1 rfl⟩
end Vf

namespace Vf
open PySem L2 PySem.Spec PyProof.Rows
/-! a law that asks for repr: its body is told at the caller's own surroundings, where nothing is being shown -/
theorem enterG {CX : CXT} {P : Program} {w : World} {K : PySem.W.Frag} {mg : Str → Option Value} {base : Heap} {k : Nat} {f : Addr} {x qual : Str} {params : Arguments} {body : List Stmt} {scope : Scope} {fd : FuncData} {N ps : List Str} {A : Around} {outer : List Env} {s : Shared} {H : Hp} {args : Args} {us : List Value} {vs : List V} {Q : VK} {E : XK}
    (F : FunD K x qual params body scope [] [] f fd) (S : FnScope N ps scope) (room : Room (k + 1) A) (e0 : Env0 P w K mg base A outer s H) (bind : BindsTo s fd args (ps.zip us)) (rv : Vals vs us) (hl : vs.length = ps.length)
    (go : ∀ cdv, ∃ t, PSs (cxOf CX P w K mg base N qual scope f cdv A outer s H E) body t ∧ t ⟨fun _ H' => Q .non H', Q, fun _ _ => False, fun _ _ => False⟩ (start N vs) H) : codeAny (model P w) A (.call (.ref f) args) (CR CX outer P w H s Q E) s := by
  obtain ⟨oc, od, dV, kV, doc, pm, an, cdv, ct, osl, rfl, lk, hcd, _, _⟩ := F.ex
  obtain ⟨t, ht, hq⟩ := go cdv
  have here : ∀ b o, base.get? b = some o → s.heap.get? b = some o := fun b o e => (e0.bs b o e).1
  have inK : K.In s.heap := e0.mod.kin.keeps here
  refine codeAny_call_function room.depth (inK _ _ lk) rfl S.co S.gen rfl (PySem.W.codeRec_of inK hcd) (bind _ _ _ _ ?_)
  refine wpAny_newFunctionEnv_cells S.kind (fun y hy => ?_) fun env he s1 ic => ?_
  · obtain ⟨n, v⟩ := y
    rcases S.par n (List.of_mem_zip hy).1 with q | q
    · exact .inl q
    · exact .inr ⟨q, PySem.W.cellsFrom_some _ _ _ (.inl q)⟩
  subst he
  refine ⟨(e0.mod.nolimit.keeps here).keeps ic.toInCall.keep, codeAny_func ?_⟩
  have I := inv_start (CX := CX) (E := E) S room.hd e0 hl rv ic
  refine wpAny_mono (ht.run [] s1 (start N vs) H _ I hq) (fun fl s' hs => ?_) fun _ _ hs => hs
  cases fl with
  | ret u =>
    obtain ⟨v, σ', H', J, rr, q⟩ := hs
    exact ⟨v, H', J.os, J.bare, J.base, J.hok, rr, q⟩
  | next =>
    obtain ⟨σ', H', J, q⟩ := hs
    exact ⟨.non, H', J.os, J.bare, J.base, J.hok, rfl, q⟩
  | brk =>
    obtain ⟨_, _, _, q⟩ := hs
    exact q.elim
  | cont =>
    obtain ⟨_, _, _, q⟩ := hs
    exact q.elim
theorem topG {P : Program} {w : World} {K : PySem.W.Frag} {mg mb : Str → Option Value} {fa a : Addr} {s1 : Shared} {vs : List Value} {ns : List Int}
    (KX : K.In s1.heap) (g1 : s1.heap.Ns mainGlobals mg) (g2 : s1.heap.Ns builtinsNs mb) (g3 : ∀ x : Str, x ≠ "__name__" → mb x = bootBuiltins x) (g4 : s1.heap.NoLimit) (g5 : s1.gens = #[])
    (ha : s1.heap.get? a = some { cls := .type "list", data := .seq vs.toArray }) (hi : IntsAre vs ns) (hl : ns.length ≤ sizeLine)
    (F : ∀ (base : Heap) (H : Hp), K.In base → base.Ns mainGlobals mg → Env0 P w K mg base callerA [] s1 H → SqL K H a (ns.map V.int) →
      codeAny (model P w) callerA (.call (.ref fa) ⟨[.ref a], []⟩) (CR CX0 [] P w H s1 (fun v _ => v = .bl true) (fun _ _ _ => False)) s1) :
    codeAny (model P w) callerA (.call (.ref fa) ⟨[.ref a], []⟩) (fun r s' => r = .ok (.ret (.bool true)) ∧ OldK s1.heap s'.heap ∧ s'.os = s1.os ∧ AllBare s'.gens) s1 := by
  have go : ∀ (base : Heap) (H : Hp), (∀ b o, base.get? b = some o → s1.heap.get? b = some o ∧ H b = none) → base.objs.size ≤ s1.heap.objs.size → K.In base → (∀ {n m}, s1.heap.Ns n m → base.Ns n m) → HOk P w H s1.heap → Only H → SqL K H a (ns.map V.int) →
      codeAny (model P w) callerA (.call (.ref fa) ⟨[.ref a], []⟩) (fun r s' => r = .ok (.ret (.bool true)) ∧ OldK s1.heap s'.heap ∧ s'.os = s1.os ∧ AllBare s'.gens) s1 := by
    intro base H hbs hsz hK hN ok only hS
    have e0 : Env0 P w K mg base callerA [] s1 H := ⟨rfl, ⟨hK, hN g1, ⟨mb, hN g2, g3⟩, let ⟨mc, h1, h2⟩ := g4; ⟨mc, hN h1, h2⟩⟩, hbs, hsz, trivial, fun b m => (by cases m), ok, .of_eq g5⟩
    refine codeAny_mono (F base H hK (hN g1) e0 hS) fun r s' h => ?_
    match r, h with
    | .error e, h => exact (show False from h).elim
    | .ok .next, h => exact (show False from h).elim
    | .ok .brk, h => exact (show False from h).elim
    | .ok .cont, h => exact (show False from h).elim
    | .ok (.ret u), ⟨v, H', hos, hbare, un, ok', rel, hv⟩ =>
      have hv : v = .bl true := hv
      subst hv
      have hu : u = Value.bool true := rel
      subst hu
      refine ⟨rfl, OldK.of_keep fun b o e => ?_, hos, hbare⟩
      match q : H b with
      | none => exact un.keep b o e q (fun m => by cases m) (by simp)
      | some u =>
        rcases only b with z | ⟨ob, xs, z⟩
        · rw [q] at z; cases z
        · have h1 := (ok b _ z).1
          have h2 := (ok' b _ (un.frzs b ob _ z)).1
          rw [e] at h1
          cases h1
          exact h2
  by_cases hk : K.lookup a = none
  · have Hd : ∀ b, (fun b => if b = a then some (HO.frz { cls := .type "list", data := .seq vs.toArray } (.lst (ns.map V.int))) else none : Hp) b = none ∨ b = a := fun b => by
      by_cases z : b = a
      · exact .inr z
      · exact .inl (if_neg z)
    generalize hH : (fun b => if b = a then some (HO.frz { cls := .type "list", data := .seq vs.toArray } (.lst (ns.map V.int))) else none : Hp) = H at Hd
    have hHa : H a = some (.frz { cls := .type "list", data := .seq vs.toArray } (.lst (ns.map V.int))) := by rw [← hH]; exact if_pos rfl
    have off : ∀ {b o}, s1.heap.get? b = some o → b ≠ a → (hidT s1.heap H).get? b = some o := fun {b o} e n => hidT_get e ((Hd b).resolve_right n)
    refine go (hidT s1.heap H) H (fun b o e => of_hidT e) (Nat.le_of_eq (hidT_size _ _)) (fun b o e => off (KX b o e) fun z => ?_) (fun {n m} h => ?_) (fun b u e => ?_) (fun b => ?_) (.inl (.inr ⟨_, hHa⟩))
    · rw [z, hk] at e; cases e
    · obtain ⟨o, es, ep, e, d, rest⟩ := h
      refine ⟨o, es, ep, off e fun z => ?_, d, rest⟩
      rw [z, ha] at e
      cases e
      cases d
    · rcases Hd b with z | z
      · rw [z] at e; cases e
      · subst z
        rw [hHa] at e
        cases e
        exact ⟨ha, by rw [List.length_map]; exact hl, vs, _, vals_ints hi, ha⟩
    · rcases Hd b with z | z
      · exact .inl z
      · exact .inr ⟨_, _, by rw [z]; exact hHa⟩
  · obtain ⟨o, ho⟩ := Option.ne_none_iff_exists'.mp hk
    have e := KX a o ho
    rw [ha] at e
    cases e
    refine go s1.heap (fun _ => none) (fun b o e => ⟨e, rfl⟩) (Nat.le_refl _) KX id (fun b u e => by cases e) (fun b => .inl rfl) (.inr ⟨_, vs.toArray, _, ho, rfl, rfl, rfl, ?_, ?_⟩)
    · rw [List.size_toArray, hi.length]; exact hl
    · exact vals_ints hi
/-- the law at the caller's surroundings gives True -/
def TopOk (P : Program) (w : World) (K : PySem.W.Frag) (mg : Str → Option Value) (n : Nat) (fa : Addr) : Prop := ∀ (a : Addr) (ns : List Int), ns.length ≤ n → ∀ (base : Heap) (H : Hp) (s1 : Shared), K.In base → base.Ns mainGlobals mg → Env0 P w K mg base callerA [] s1 H → SqL K H a (ns.map V.int) →
  codeAny (model P w) callerA (.call (.ref fa) ⟨[.ref a], []⟩) (CR CX0 [] P w H s1 (fun v _ => v = .bl true) fun _ _ _ => False) s1
theorem walk_ofG {l : PySem.W.OpenLaw} {n : Nat} {q : Program} {loose : List Str} {XP : (Str → Option Value) → Heap → Prop} {YP : World → Heap → Prop} {d : DefRec} (m1 : l.most = some n) (m2 : n ≤ sizeLine) (nod : d.params.defaults = [])
    (F : ∀ (w : World) (mg : Str → Option Value) (fa : Addr) (h : Heap), YP w h → h.Ns mainGlobals mg → mg d.name = some (.ref fa) → ∃ K : PySem.W.Frag, K.In h ∧ TopOk l.prog w K mg n fa) : PySem.W.WalkO q loose XP YP l.row.toRowW d [] (fun f vs => PySem.call f vs) :=
  Att.attach_call m1 nod fun w _ s1 mg _ fa _ _ _ _ a _ ns G Y _ _ _ named obj hints len gens =>
    let ⟨_, KX, top⟩ := F w mg fa _ Y G.T.g named
    topG KX G.T.g G.T.b G.T.builtins G.T.nolimit gens obj hints (Nat.le_trans len m2) fun base H hb hn e0 hS => top a ns len base H s1 hb hn e0 hS
theorem topRoom : Room 60 callerA := ⟨rfl, by decide, by decide⟩
theorem topGuards (env : Env) : (callerA.deeper env).guards = some [] := rfl
end Vf

namespace Vf
open PySem L2 PySem.Spec PyProof.Rows
/-! repr(d), d a dict of tuples of numbers; nothing is being shown around -/
def offD (O : List (Int × List Int)) : List (PyData × PyData) := O.map fun o => (PyData.int o.1, PyData.tuple (o.2.map PyData.int))
theorem reads_off {X : Cx} {pins : List (Addr × Obj)} {σ : L2.St} {H : Hp} {s : Shared} (I : Inv X pins σ H s) : ∀ {w : List (Int × Addr)} {O : List (Int × List Int)} {vs : List (L2.Key × Value)} {es : List DictEntry},
    Paired (fun x o => x.1 = o.1 ∧ SqT X.K H x.2 (o.2.map V.int)) w O → KV (w.map fun x => ((Sum.inl x.1 : L2.Key), V.ref x.2)) vs → Pairs (mixKind X.prog X.w) es vs →
    ReadsAll s.heap (es.map (·.key)) ((offD O).map (·.1)) [] ∧ ReadsAll s.heap (es.map (·.val)) ((offD O).map (·.2)) []
  | [], [], _, _, .nil, h2, h3 => by
    cases h2
    cases h3
    exact ⟨.nil, .nil⟩
  | x :: w, o :: O, _, _, .cons h1 t1, h2, h3 => by
    cases h2 with
    | cons r2 t2 =>
      cases h3 with
      | cons k3 v3 t3 =>
        obtain ⟨i1, i2⟩ := reads_off I t1 t2 t3
        obtain ⟨e1, r2⟩ := r2
        rcases keyIs_shape k3 with ⟨i, t, e4, e5⟩ | ⟨y, t, e4, e5⟩
        · have e6 : i = o.1 := by
            rw [e4] at e1
            exact (Sum.inl.inj e1).symm.trans h1.1
          obtain ⟨its, rv, ⟨ob, ho, hc, n, hd⟩, _⟩ := I.tuple h1.2
          refine ⟨?_, ?_⟩
          · rw [List.map_cons, e5, e6]
            exact ReadsAll.cons (.int _ t) i1
          · rw [List.map_cons, v3]
            have e7 : _ = Value.ref x.2 := r2
            rw [e7]
            exact ReadsAll.cons (.tuple ho hc hd (reads_intsAre (intsAre_of rv))) i2
        · rw [e4] at e1
          cases e1
theorem shown_ints : ∀ l : List Int, (∀ q ∈ l, 0 ≤ q ∧ q < 10) → piled (PyData.shownAll (l.map PyData.int)) ≤ 3 * l.length
  | [], _ => Nat.le_refl _
  | q :: l, h => by
    have ih := shown_ints l fun x hx => h x (List.mem_cons_of_mem _ hx)
    have h1 := h q (List.mem_cons_self ..)
    have h2 := toString_length_le (v := q) h1.1 (k := 1) (by decide) (by simpa using h1.2)
    rw [List.map_cons, PyData.shownAll, piled_cons, PyData.shown, List.length_cons]
    omega
structure OffS (O : List (Int × List Int)) : Prop where
  len : O.length ≤ 1000
  row : ∀ o ∈ O, 0 ≤ o.1 ∧ o.1 < 10 ^ 10 ∧ o.2.length ≤ 4 ∧ ∀ q ∈ o.2, 0 ≤ q ∧ q < 10
theorem shown_off : ∀ O : List (Int × List Int), (∀ o ∈ O, 0 ≤ o.1 ∧ o.1 < 10 ^ 10 ∧ o.2.length ≤ 4 ∧ ∀ q ∈ o.2, 0 ≤ q ∧ q < 10) → piled (PyData.shownKv (offD O)) ≤ 30 * O.length
  | [], _ => Nat.le_refl _
  | o :: O, h => by
    have ih := shown_off O fun x hx => h x (List.mem_cons_of_mem _ hx)
    obtain ⟨h1, h2, h3, h4⟩ := h o (List.mem_cons_self ..)
    have g1 := toString_length_le (v := o.1) h1 (k := 10) (by decide) h2
    have g2 := shown_ints o.2 h4
    have g3 := fmt_text (PyData.shownAll (o.2.map PyData.int))
    have e : offD (o :: O) = (PyData.int o.1, PyData.tuple (o.2.map PyData.int)) :: offD O := rfl
    rw [e, PyData.shownKv, piled_cons, PyData.shown, PyData.shown, strLen_append, strLen_append, List.length_cons]
    have g4 : ((": " : String) : Str).length = 2 := rfl
    omega
theorem dict_text (ts : List Str) : (dictText ts).length ≤ piled ts + 2 := by
  unfold dictText
  rw [strLen_append, strLen_append]
  have e1 : (("{" : String) : Str).length = 1 := rfl
  have e2 : (("}" : String) : Str).length = 1 := rfl
  rw [e1, e2]
  by_cases h : ts = []
  · subst h
    decide +kernel
  · have := join_length_add ts h
    omega
theorem showable_ints : ∀ l : List Int, (∀ q ∈ l, 0 ≤ q ∧ q < 10) → PyData.showableAll (l.map PyData.int) = true
  | [], _ => by simp [PyData.showableAll]
  | q :: l, h => by
    have h1 := h q (List.mem_cons_self ..)
    rw [List.map_cons, PyData.showableAll, showable_ints l fun x hx => h x (List.mem_cons_of_mem _ hx), PyData.showable, Bool.and_true, decide_eq_true_iff]
    have h2 : q.natAbs < 10 := by omega
    exact Nat.lt_of_le_of_lt (Nat.log2_le_self _) (by omega)
theorem showable_off : ∀ O : List (Int × List Int), (∀ o ∈ O, 0 ≤ o.1 ∧ o.1 < 10 ^ 10 ∧ o.2.length ≤ 4 ∧ ∀ q ∈ o.2, 0 ≤ q ∧ q < 10) → PyData.showableKv (offD O) = true
  | [], _ => by simp [offD, PyData.showableKv]
  | o :: O, h => by
    obtain ⟨h1, h2, h3, h4⟩ := h o (List.mem_cons_self ..)
    have e : offD (o :: O) = (PyData.int o.1, PyData.tuple (o.2.map PyData.int)) :: offD O := rfl
    rw [e, PyData.showableKv, showable_off O fun x hx => h x (List.mem_cons_of_mem _ hx), PyData.showable, PyData.showable, showable_ints o.2 h4, Bool.and_true, Bool.and_true, decide_eq_true_iff]
    have h5 : o.1.natAbs < 2 ^ 40 := by omega
    by_cases z : o.1.natAbs = 0
    · rw [z]; decide
    · exact Nat.lt_trans ((Nat.log2_lt z).mpr h5) (by decide)
theorem depth_ints2 : ∀ l : List Int, PyData.depthAll (l.map PyData.int) ≤ 1 := fun l => by
  rw [Vf.depthAll_ints]; decide
def rReprD (K : PySem.W.Frag) : List V → Hp → VK → Prop := fun xs H Q => ∃ (a : Addr) (w : List (Int × Addr)) (O : List (Int × List Int)), xs = [.ref a] ∧ H a = some (.dK (w.map fun x => ((Sum.inl x.1 : L2.Key), V.ref x.2))) ∧ Paired (fun x o => x.1 = o.1 ∧ SqT K H x.2 (o.2.map V.int)) w O ∧ OffS O ∧ Q (.str (dictText (PyData.shownKv (offD O)))) H
theorem depth_off : ∀ O : List (Int × List Int), PyData.depthKv (offD O) ≤ 1
  | [] => by simp [offD, PyData.depthKv]
  | o :: O => by
    have e : offD (o :: O) = (PyData.int o.1, PyData.tuple (o.2.map PyData.int)) :: offD O := rfl
    have h0 : PyData.depthAll (o.2.map PyData.int) = 0 := Vf.depthAll_ints o.2
    have ih := depth_off O
    rw [e, PyData.depthKv, PyData.depth, PyData.depth, h0]
    omega
theorem cr_reprD {X : Cx} (hg : X.A.guards = some []) (hu : X.A.units + 64 < cLine) : CallR X (.builtin "repr") (rReprD X.K) := by
  intro pins s σ H xs us Q I r q
  obtain ⟨a, w, O, rfl, ha, hw, small, q⟩ := q
  obtain ⟨u, rfl, ru⟩ := vals1 r
  cases ru
  obtain ⟨z, hd, vs, rel, o, es, ep, ho, hx, hdat, _, hp, _⟩ := dk_of I.hok ha
  obtain ⟨k1, k2⟩ := reads_off I hw rel hp
  have rd : Reads s.heap (.ref a) (.dict (offD O)) (a :: [] ++ []) := .dict ho hx.1 hdat k1 k2
  have hdp : (PyData.dict (offD O)).depth ≤ 2 := by
    rw [PyData.depth]
    have := depth_off O
    omega
  have hsz : (PyData.dict (offD O)).shown.length ≤ sizeLine := by
    rw [PyData.shown, sizeLine_eq]
    have h1 := dict_text (PyData.shownKv (offD O))
    have h2 := shown_off O small.row
    have h3 := small.len
    omega
  refine repr_of_reads' (hsz := hsz) rd (by rw [PyData.showable]; exact showable_off O small.row) (fun _ m => ?_) hg (by omega) (fun _ _ e => e) fun h' u tk hk => ?_
  · have e : sysModules = a := by simpa using m
    rw [← e] at hd
    simp at hd
  · refine ⟨.str (dictText (PyData.shownKv (offD O))), H, I.kept hk, ⟨u, by rw [PyData.shown]⟩, q⟩
theorem catAK (K : PySem.W.Frag) {X : Cx} (hK : X.K = K := by rfl) : OpR X (binaryOp .Add) (rCatA K) := hK ▸ op_catA
end Vf

namespace Vf
open PySem L2 PySem.Spec PyProof.Rows
/-! a.join(xs) within a comprehension: K named -/
def rJoinK (K : PySem.W.Frag) : V → List V → Hp → VK → Prop := fun x xs H Q => ∃ a p, ∃ ys : List Str, x = .str a ∧ xs = [.ref p] ∧ (SqL K H p (ys.map V.str) ∨ SqT K H p (ys.map V.str)) ∧ (ys.map (·.length)).sum + ys.length * a.length ≤ 16777216 ∧ Q (.str (Txt.join a ys)) H
theorem mt_joinK (K : PySem.W.Frag) {X : Cx} (hK : X.K = K := by rfl) : MtR X "str.join" (rJoinK K) := hK ▸ mt_join
theorem pe_joinK (K : PySem.W.Frag) {X : Cx} {o e : Expr} {to te : TE} {apos pos : Pos} (ho : PE X o to) (he : PE X e te) (hK : X.K = K := by rfl) (hs : starEach [e] X.env = [(false, eval e X.env)] := by rfl) (hbase : attributeBase o "join" X.env (eval o X.env) = eval o X.env := by rfl) (hline : (apos.endLine == pos.line) = true := by rfl) :
    PE X (.Call (.Attribute o "join" apos) [e] [] pos) (tM1 (rJoinK K) to te) := pe_m1 F.slot_str_join F.type_str_join (mt_joinK K hK) ho he hs hbase hline
/-! the truth of any value, K named -/
def tTru (K : PySem.W.Frag) (ta : TE) : TT := fun σ H Q => ta σ H fun x H' => ∃ k, TruV K x H' k ∧ Q k H'
theorem pt_truK {X : Cx} {a : Expr} {ta : TE} (K : PySem.W.Frag) (hK : X.K = K := by rfl) (ha : PE X a ta) (he : ∀ whole, isTrue a X.env whole = (do let v ← whole; standAt a.pos; holding [v] (truthy v)) := by intro _; rfl) : PT X a (tTru K ta) := by
  subst hK
  exact pt_truth ha he
theorem e_tru {K : PySem.W.Frag} {ta : TE} {σ : L2.St} {H : Hp} {Q : Bool → Hp → Prop} (q : ta σ H fun x H' => ∃ k, TruV K x H' k ∧ Q k H') : tTru K ta σ H Q := q
end Vf

namespace Vf
open PySem L2 PySem.Spec PyProof.Rows He
/-! ### s[::-1], s a text -/
theorem rev_pick (z : Str) : ((Builtin.Str.strSliceIndices none none (-1) z.length).filterMap (z.cps[·]?)) = z.cps.toList.reverse := by
  rw [PyProof.Rows.picked_rev, List.filterMap_map]
  have h : ((List.range z.length).filterMap ((fun x => z.cps[x]?) ∘ fun k => z.length - 1 - k)) = ((List.range z.length).filterMap fun (k : Nat) => z.cps.toList.reverse[k]?) := by
    refine filterMap_on fun k hk => ?_
    have hk := List.mem_range.mp hk
    have hk2 : k < z.cps.toList.length := by rw [Array.length_toList]; exact hk
    show z.cps[z.length - 1 - k]? = _
    rw [List.getElem?_reverse hk2, Array.getElem?_toList, Array.length_toList]
    rfl
  rw [h]
  have := range_self z.cps.toList.reverse
  rw [List.length_reverse, Array.length_toList] at this
  exact this
section
variable {X : Cx}
def tRevS (te : TE) : TE := fun σ H Q => te σ H fun x H1 => ∃ z : Str, x = .str z ∧ z.length ≤ sizeLine ∧ Q (.str ⟨z.cps.toList.reverse.toArray⟩) H1
theorem pe_revS {e : Expr} {te : TE} {k : Nat} {p1 p2 p3 pos : Pos} (he : PE X e te) : PE X (.Subscript e (.Slice none none (some (.UnaryOp .USub (.Constant (.int 1) k p1) p2)) p3) pos) (tRevS te) := by
  refine ⟨fun pins s σ H Q I h => ?_⟩
  refine Subscript_ (thn (he.run pins s σ H _ I h) fun v s1 ⟨x, H1, I1, r1, q1⟩ => ?_)
  obtain ⟨z, ex, hz, q⟩ := q1
  subst ex
  obtain ⟨t, rfl⟩ := r1
  have hst : PO X (some (.UnaryOp .USub (.Constant (.int 1) k p1) p2)) (tPart (tUn (rU fun i => .int (-i)) (tC (.int 1)))) := po_some (pe_un un_neg pe_int)
  refine wpAny_Slice (thn (po_none.run pins s1 σ H1 (fun o H2 => o = none ∧ H2 = H1) I1 ⟨rfl, rfl⟩) fun vl s2 ⟨l, H2, I2, pl, el, e2⟩ => ?_)
  subst el e2
  refine thn (po_none.run pins s2 σ H2 (fun o H3 => o = none ∧ H3 = H2) I2 ⟨rfl, rfl⟩) fun vu s3 ⟨u, H3, I3, pu, eu, e3⟩ => ?_
  subst eu e3
  refine thn (hst.run pins s3 σ H3 (fun o H4 => o = some (-1) ∧ H4 = H3) I3 ⟨1, rfl, -1, rfl, rfl, rfl⟩) fun vs s4 ⟨o, H4, I4, ps, eo, e4⟩ => ?_
  subst eo e4
  cases pl
  cases pu
  cases ps with
  | int i tk =>
  have I5 : Inv X pins σ H4 { s4 with heap := s4.heap.push { cls := .type "slice", data := .fields #[.none, .none, .int (-1) tk] } } := I4.kept (t' := s4.toks) fun b ob q => Heap.get?_push_of_some _ q
  show wpAny (model X.prog X.w) X.A (subscriptTail e (.Slice none none (some (.UnaryOp .USub (.Constant (.int 1) k p1) p2)) p3) (.str z t) (.ref s4.heap.objs.size)) (EP X pins σ Q) X.xe { s4 with heap := s4.heap.push { cls := .type "slice", data := .fields #[.none, .none, .int (-1) tk] } }
  refine tail_any (ops := [.ref s4.heap.objs.size, .str z t]) (typeIs_str _ _ _) F.slot_str_getitem.lookup ?_ (by with_unfolding_all rfl)
  refine wpAny_getItem_str_slice (l := none) (u := none) (st := some (-1, tk)) (Heap.IsSliceOf.new _ _ _ _) rfl ?_
  have hl : (⟨z.cps.toList.reverse.toArray⟩ : Str).length ≤ sizeLine := by
    show (z.cps.toList.reverse.toArray).size ≤ _
    rw [List.size_toArray, List.length_reverse, Array.length_toList]
    exact hz
  show Made.post (if ((-1 : Int) == 1 && (Builtin.Str.strSliceIndices none none (-1) z.length).length == z.length) = true then Made.val (.str z t)
    else Made.str ⟨((Builtin.Str.strSliceIndices none none (-1) z.length).filterMap (z.cps[·]?)).toArray⟩) (EP X pins σ Q) _
  rw [if_neg (by rw [show ((-1 : Int) == 1) = false from rfl]; exact Bool.false_ne_true), rev_pick]
  exact ⟨hl, .str ⟨z.cps.toList.reverse.toArray⟩, H4, I5.tok _, ⟨_, rfl⟩, q⟩
end
theorem e_tRevS {te : TE} {σ : L2.St} {H : Hp} {Q : VK} (q : te σ H fun x H1 => ∃ z : Str, x = .str z ∧ z.length ≤ sizeLine ∧ Q (.str ⟨z.cps.toList.reverse.toArray⟩) H1) : tRevS te σ H Q := q
end Vf

namespace Vf
open PySem L2 PySem.Spec PyProof.Rows He
/-! a text times an int -/
theorem fold_reps (a : Array Nat) : ∀ (n : Nat) (acc : Array Nat), ((List.replicate n a).foldl (· ++ ·) acc).toList = acc.toList ++ (List.replicate n a.toList).flatten
  | 0, acc => by simp
  | n + 1, acc => by
    rw [List.replicate_succ, List.foldl_cons, fold_reps a n, List.replicate_succ, List.flatten_cons, Array.toList_append, List.append_assoc]
def rRepS : R2 := fun x y H Q => ∃ (a : Str) (k : Int), x = .str a ∧ y = .int k ∧ 0 ≤ k ∧ k ≤ 1000 ∧ a.length ≤ 1000 ∧ ∀ w : Str, w.cps.toList = (List.replicate k.toNat a.cps.toList).flatten → Q (.str w) H
theorem op_repS {X : Cx} : OpR X (binaryOp .Mult) rRepS := by
  intro pins s σ H x y v u Q I rx ry h
  obtain ⟨a, k, rfl, rfl, h0, h1, h2, q⟩ := h
  obtain ⟨t, rfl⟩ := rx
  obtain ⟨t2, rfl⟩ := ry
  have hm : a.length * k.toNat ≤ 1000 * 1000 := Nat.mul_le_mul h2 (by omega)
  have hs : (1000 * 1000 : Nat) ≤ sizeLine := by decide
  have h9 : ((2 : Int) ^ 63 - 1) / k ≥ a.length ∨ k < 1 := by
    by_cases hk : k < 1
    · exact .inr hk
    · refine .inl ?_
      refine (Int.le_ediv_iff_mul_le (by omega)).mpr ?_
      have : (a.length : Int) * k = ((a.length * k.toNat : Nat) : Int) := by rw [Int.natCast_mul, Int.toNat_of_nonneg h0]
      rw [this]
      omega
  refine PySem.P.mul_str (by
    have a1 : ¬ k < -(2 ^ 63 : Int) := by omega
    have a2 : ¬ k ≥ 2 ^ 63 := by omega
    rw [decide_eq_false a1, decide_eq_false a2]; rfl) (fun h3 _ => ?_) (fun _ _ => ?_) ?_
  · rcases h9 with h | h
    · omega
    · omega
  · unfold Builtin.Str.tooLong
    exact decide_eq_false (by omega)
  · by_cases hk : k < 1
    · rw [if_pos hk]
      refine ⟨by decide, .str Str.empty, H, I.tok _, ⟨_, rfl⟩, q _ ?_⟩
      rw [show k.toNat = 0 by omega]
      rfl
    · rw [if_neg hk]
      by_cases h3 : (k == 1 || a.length == 0) = true
      · rw [if_pos h3]
        refine ⟨.str a, H, I, ⟨_, rfl⟩, q _ ?_⟩
        rcases Bool.or_eq_true_iff.mp h3 with h | h
        · have e : k = 1 := by simpa using h
          rw [e]
          show a.cps.toList = a.cps.toList ++ []
          rw [List.append_nil]
        · have e : a.length = 0 := by simpa using h
          have e2 : a.cps.toList = [] := List.eq_nil_of_length_eq_zero (by rw [Array.length_toList]; exact e)
          rw [e2]
          symm
          refine List.flatten_eq_nil_iff.mpr fun l hl => ?_
          exact (List.mem_replicate.mp hl).2
      · rw [if_neg h3]
        have e := fold_reps a.cps k.toNat #[]
        have e : ((List.replicate k.toNat a.cps).foldl (· ++ ·) #[]).toList = (List.replicate k.toNat a.cps.toList).flatten := e
        refine ⟨?_, .str _, H, I.tok _, ⟨_, rfl⟩, q _ e⟩
        show ((List.replicate k.toNat a.cps).foldl (· ++ ·) #[]).size ≤ _
        rw [← Array.length_toList, e, List.length_flatten, List.map_replicate, List.sum_replicate_nat, Array.length_toList]
        have : k.toNat * a.cps.size = a.length * k.toNat := Nat.mul_comm ..
        omega
theorem e_repS {a : Str} {k : Int} {H : Hp} {Q : VK} (h0 : 0 ≤ k) (h1 : k ≤ 1000) (h2 : a.length ≤ 1000) (q : ∀ w : Str, w.cps.toList = (List.replicate k.toNat a.cps.toList).flatten → w.length = k.toNat * a.length → Q (.str w) H) : rRepS (.str a) (.int k) H Q :=
  ⟨a, k, rfl, rfl, h0, h1, h2, fun w e => q w e (by
    show w.cps.size = _
    rw [← Array.length_toList, e, List.length_flatten, List.map_replicate, List.sum_replicate_nat, Array.length_toList]
    rfl)⟩
end Vf

namespace Vk42
open PySem PySem.Spec PyProof.Rows L2 Vf
def topS (i : Nat) : Stmt := PySem.Challenge.pw_folderkin_k42_any_text_as_patterns.main.body.getD i (.Pass ⟨0, 0, 0, 0⟩)
abbrev s_FolderkinError___init__ : Stmt := inClass (topS 1) 0
abbrev N_FolderkinError___init__ : List Str := ["self", "place"]
theorem sc_FolderkinError___init__ : FnScope N_FolderkinError___init__ ["self", "place"] (defScope s_FolderkinError___init__) := ⟨rfl, rfl, rfl, by decide +kernel, rfl, by decide +kernel, by decide +kernel⟩
abbrev s_Pattern___init__ : Stmt := inClass (topS 10) 0
abbrev N_Pattern___init__ : List Str := ["self", "atoms", "negated"]
theorem sc_Pattern___init__ : FnScope N_Pattern___init__ ["self", "atoms", "negated"] (defScope s_Pattern___init__) := ⟨rfl, rfl, rfl, by decide +kernel, rfl, by decide +kernel, by decide +kernel⟩
abbrev s_Pattern___eq__ : Stmt := inClass (topS 10) 1
abbrev N_Pattern___eq__ : List Str := ["self", "other"]
theorem sc_Pattern___eq__ : FnScope N_Pattern___eq__ ["self", "other"] (defScope s_Pattern___eq__) := ⟨rfl, rfl, rfl, by decide +kernel, rfl, by decide +kernel, by decide +kernel⟩
abbrev s_format_patterns : Stmt := topS 11
abbrev N_format_patterns : List Str := ["patterns", "pattern"]
theorem sc_format_patterns : FnScope N_format_patterns ["patterns"] (defScope s_format_patterns) := ⟨rfl, rfl, rfl, by decide +kernel, rfl, by decide +kernel, by decide +kernel⟩
abbrev s_format_pattern : Stmt := topS 12
abbrev N_format_pattern : List Str := ["pattern", "sign", "chars", "repeats"]
theorem sc_format_pattern : FnScope N_format_pattern ["pattern"] (defScope s_format_pattern) := ⟨rfl, rfl, rfl, by decide +kernel, rfl, by decide +kernel, by decide +kernel⟩
abbrev s_format_atom : Stmt := topS 13
abbrev N_format_atom : List Str := ["chars", "repeats", "char"]
theorem sc_format_atom : FnScope N_format_atom ["chars", "repeats"] (defScope s_format_atom) := ⟨rfl, rfl, rfl, by decide +kernel, rfl, by decide +kernel, by decide +kernel⟩
abbrev s_format_items : Stmt := topS 14
abbrev N_format_items : List Str := ["chars", "parts", "run", "char"]
theorem sc_format_items : FnScope N_format_items ["chars"] (defScope s_format_items) := ⟨rfl, rfl, rfl, by decide +kernel, rfl, by decide +kernel, by decide +kernel⟩
abbrev s_format_run : Stmt := topS 15
abbrev N_format_run : List Str := ["run"]
theorem sc_format_run : FnScope N_format_run ["run"] (defScope s_format_run) := ⟨rfl, rfl, rfl, by decide +kernel, rfl, by decide +kernel, by decide +kernel⟩
abbrev s_parse_patterns : Stmt := topS 16
abbrev N_parse_patterns : List Str := ["text", "patterns", "at", "line"]
theorem sc_parse_patterns : FnScope N_parse_patterns ["text"] (defScope s_parse_patterns) := ⟨rfl, rfl, rfl, by decide +kernel, rfl, by decide +kernel, by decide +kernel⟩
abbrev s_read_pattern : Stmt := topS 17
abbrev N_read_pattern : List Str := ["text", "at", "end", "negated", "atoms", "atom", "behind"]
theorem sc_read_pattern : FnScope N_read_pattern ["text", "at", "end"] (defScope s_read_pattern) := ⟨rfl, rfl, rfl, by decide +kernel, rfl, by decide +kernel, by decide +kernel⟩
abbrev s_read_atom : Stmt := topS 18
abbrev N_read_atom : List Str := ["text", "at", "end", "char"]
theorem sc_read_atom : FnScope N_read_atom ["text", "at", "end"] (defScope s_read_atom) := ⟨rfl, rfl, rfl, by decide +kernel, rfl, by decide +kernel, by decide +kernel⟩
abbrev s_read_set : Stmt := topS 19
abbrev N_read_set : List Str := ["text", "at", "end", "close", "others", "items", "chars", "char"]
theorem sc_read_set : FnScope N_read_set ["text", "at", "end"] (defScope s_read_set) := ⟨rfl, rfl, rfl, by decide +kernel, rfl, by decide +kernel, by decide +kernel⟩
abbrev s_read_items : Stmt := topS 20
abbrev N_read_items : List Str := ["text", "at", "close", "found", "low", "high", "char"]
theorem sc_read_items : FnScope N_read_items ["text", "at", "close"] (defScope s_read_items) := ⟨rfl, rfl, rfl, by decide +kernel, rfl, by decide +kernel, by decide +kernel⟩
abbrev s_is_item : Stmt := topS 21
abbrev N_is_item : List Str := ["char"]
theorem sc_is_item : FnScope N_is_item ["char"] (defScope s_is_item) := ⟨rfl, rfl, rfl, by decide +kernel, rfl, by decide +kernel, by decide +kernel⟩
abbrev s_law_draw : Stmt := topS 23
abbrev N_law_draw : List Str := ["state", "script", "size", "at", "cell", "first", "digit"]
theorem sc_law_draw : FnScope N_law_draw ["state", "script", "size"] (defScope s_law_draw) := ⟨rfl, rfl, rfl, by decide +kernel, rfl, by decide +kernel, by decide +kernel⟩
abbrev s_law_all : Stmt := topS 24
abbrev N_law_all : List Str := []
theorem sc_law_all : FnScope N_law_all [] (defScope s_law_all) := ⟨rfl, rfl, rfl, by decide +kernel, rfl, by decide +kernel, by decide +kernel⟩
abbrev s_law_told : Stmt := topS 25
abbrev N_law_told : List Str := ["actual", "due"]
theorem sc_law_told : FnScope N_law_told ["actual", "due"] (defScope s_law_told) := ⟨rfl, rfl, rfl, by decide +kernel, rfl, by decide +kernel, by decide +kernel⟩
abbrev s_law_same : Stmt := topS 26
abbrev N_law_same : List Str := ["patterns", "rows", "k", "one"]
theorem sc_law_same : FnScope N_law_same ["patterns", "rows"] (defScope s_law_same) := ⟨rfl, rfl, rfl, by decide +kernel, rfl, by decide +kernel, by decide +kernel⟩
abbrev s_law_set : Stmt := topS 27
abbrev N_law_set : List Str := ["line", "start", "body", "stop", "first", "negated", "chosen", "at", "turn", "low", "high", "char"]
theorem sc_law_set : FnScope N_law_set ["line", "start"] (defScope s_law_set) := ⟨rfl, rfl, rfl, by decide +kernel, rfl, by decide +kernel, by decide +kernel⟩
abbrev s_law_read : Stmt := topS 28
abbrev N_law_read : List Str := ["line", "at", "plain", "char"]
theorem sc_law_read : FnScope N_law_read ["line", "at"] (defScope s_law_read) := ⟨rfl, rfl, rfl, by decide +kernel, rfl, by decide +kernel, by decide +kernel⟩
abbrev s_law_line : Stmt := topS 29
abbrev N_law_line : List Str := ["line", "atoms", "negated", "at", "turn", "told"]
theorem sc_law_line : FnScope N_law_line ["line"] (defScope s_law_line) := ⟨rfl, rfl, rfl, by decide +kernel, rfl, by decide +kernel, by decide +kernel⟩
abbrev s_law_due : Stmt := topS 30
abbrev N_law_due : List Str := ["text", "rows", "start", "line", "told"]
theorem sc_law_due : FnScope N_law_due ["text"] (defScope s_law_due) := ⟨rfl, rfl, rfl, by decide +kernel, rfl, by decide +kernel, by decide +kernel⟩
abbrev s_law_text : Stmt := topS 31
abbrev N_law_text : List Str := ["state", "script", "pieces", "text", "k", "kind"]
theorem sc_law_text : FnScope N_law_text ["state", "script"] (defScope s_law_text) := ⟨rfl, rfl, rfl, by decide +kernel, rfl, by decide +kernel, by decide +kernel⟩
abbrev s_law_told_of : Stmt := topS 32
abbrev N_law_told_of : List Str := ["text", "error"]
theorem sc_law_told_of : FnScope N_law_told_of ["text"] (defScope s_law_told_of) := ⟨rfl, rfl, rfl, by decide +kernel, rfl, by decide +kernel, by decide +kernel⟩
abbrev s_law : Stmt := topS 33
abbrev N_law : List Str := ["script", "state", "text", "due", "found"]
theorem sc_law : FnScope N_law ["script"] (defScope s_law) := ⟨rfl, rfl, rfl, by decide +kernel, rfl, by decide +kernel, by decide +kernel⟩
structure Txt (K : PySem.W.Frag) (mg : Str → Option Value) : Prop where
  f_ValueError : mg "ValueError" = none
  f_bool : mg "bool" = none
  f_int : mg "int" = none
  f_isinstance : mg "isinstance" = none
  f_len : mg "len" = none
  f_list : mg "list" = none
  f_range : mg "range" = none
  f_tuple : mg "tuple" = none
  c_CHARACTERS : ∃ u, mg "CHARACTERS" = some u ∧ RelV (.str "-./0123456789ABCDEFGHIJKLMNOPQRSTUVWXYZ_abcdefghijklmnopqrstuvwxyz~") u
  c_MOST_ATOMS : ∃ u, mg "MOST_ATOMS" = some u ∧ RelV (.int 40) u
  c_MOST_PATTERNS : ∃ u, mg "MOST_PATTERNS" = some u ∧ RelV (.int 20) u
  c_NO_SLASH : ∃ u, mg "NO_SLASH" = some u ∧ RelV (.str "-.0123456789ABCDEFGHIJKLMNOPQRSTUVWXYZ_abcdefghijklmnopqrstuvwxyz~") u
  c__LEAST_RUN : ∃ u, mg "_LEAST_RUN" = some u ∧ RelV (.int 3) u
  c__MOST_LISTED : ∃ u, mg "_MOST_LISTED" = some u ∧ RelV (.int 33) u
  er_InvalidPattern : ErrAll K mg "InvalidPattern" "FolderkinError"
  cl_Pattern : Cls K (He.ga K "Pattern")
  g_Pattern : mg "Pattern" = some (.ref (He.ga K "Pattern"))
  no_Pattern_atoms : NoAttr K (He.ga K "Pattern") "atoms"
  no_Pattern_negated : NoAttr K (He.ga K "Pattern") "negated"
  ct_Pattern : ClsT K "Pattern"
theorem e_raiseErr {C : Addr} {W : WX} {ta : TA} {D : Ends} {σ : L2.St} {H : Hp} (q : ta σ H fun vs H1 => ∃ v, vs = [v] ∧ ∀ d, H1 d = none → W (.ref C) (some d) σ (upd H1 d (.xd [(("place" : Str), v)]))) : tRaiseErr C W ta D σ H := q
theorem e_callS {sp : Sp} {E : L2.St → XK} {t : TA} {σ : L2.St} {H : Hp} {Q : VK} (q : t σ H fun vs H1 => sp vs H1 Q (E σ)) : tCallS sp E t σ H Q := q
theorem e_plcErr {C a : Addr} {cls : Value} {d : Option Addr} {te : TE} {σ : L2.St} {H : Hp} {Q : VK} (q : te σ H fun x H1 => x = .ref a ∧ cls = .ref C ∧ ∃ (dd : Addr) (v : V), d = some dd ∧ H1 dd = some (.xd [(("place" : Str), v)]) ∧ Q v H1) : tPlcErr C a cls d te σ H Q := q
theorem e_tMethX {C : Addr} {m : Str} {sp : Sp} {EE : L2.St → XK} {ta : TE} {t : TA} {σ : L2.St} {H : Hp} {Q : VK} (q : ta σ H fun x H1 => ∃ a dx fs, x = .ref a ∧ H1 a = some (.ins C dx fs) ∧ fs.lookup m = none ∧ t σ H1 fun vs H2 => sp (x :: vs) H2 Q (EE σ)) : tMethX C m sp EE ta t σ H Q := q
theorem e_dnewK {σ : L2.St} {H : Hp} {Q : VK} (q : ∀ p, H p = none → Q (.ref p) (upd H p (.dK []))) : tDNewK σ H Q := q
theorem e_tWhile {tc : TT} {tb : TS} {D : Ends} {σ : L2.St} {H : Hp} (q : ∃ W : Nat → L2.St → Hp → Prop, (∃ m, W m σ H) ∧ ∀ m σ H, W m σ H → tc σ H fun b H1 => if b = true then ∃ N : L2.St → Hp → Prop, (∀ σ' H', N σ' H' → ∃ m', m' < m ∧ W m' σ' H') ∧ tb { D with nx := N, ct := N, bk := D.nx } σ H1 else D.nx σ H1) : tWhile tc tb D σ H := q
theorem e_tDIn {td ty : TE} {σ : L2.St} {H : Hp} {Q : VK} (q : ty σ H fun y H1 => td σ H1 fun x H2 => ∃ a o, x = .ref a ∧ DGet H2 a y o ∧ Q (.bl o.isSome) H2) : tDIn ty td σ H Q := q
theorem e_tDNotIn {ty td : TE} {σ : L2.St} {H : Hp} {Q : VK} (q : ty σ H fun y H1 => td σ H1 fun x H2 => ∃ a o, x = .ref a ∧ DGet H2 a y o ∧ Q (.bl (!o.isSome)) H2) : tDNotIn ty td σ H Q := q
theorem e_tDGet {td ty : TE} {σ : L2.St} {H : Hp} {Q : VK} (q : td σ H fun x H1 => ty σ H1 fun y H2 => ∃ a v, x = .ref a ∧ DGet H2 a y (some v) ∧ Q v H2) : tDGet td ty σ H Q := q
theorem e_sDPut {td ty tv : TE} {D : Ends} {σ : L2.St} {H : Hp} (q : tv σ H fun v H1 => td σ H1 fun x H2 => ty σ H2 fun y H3 => ∃ a H4, x = .ref a ∧ DPut H3 a y v H4 ∧ D.nx σ H4) : sDPut td ty tv D σ H := q
theorem same_tup {K : PySem.W.Frag} {H H' : Hp} {a : Addr} {xs : List V} (e : Same H H') (h : SqT K H a xs) : SqT K H' a xs := by
  rcases h with (h | ⟨o, h⟩) | h
  · exact .inl (.inl (e _ _ h))
  · exact .inl (.inr ⟨o, e _ _ h⟩)
  · exact .inr h
theorem lc_filt {K : PySem.W.Frag} {g : TG} {tt : TT} {te : TE} {vs : List Nat} {σ : L2.St} {Da : Addr} {H0 : Hp} {Q : VK} {lo : Int} {n : Nat} (hD : H0 Da = none) (hn : n ≤ 1000000) (p : Nat → Bool) (f : Nat → V)
    (hs : ∀ (i : Nat) (H2 : Hp) (C : VK) (E : Hp → Prop), i < n → Same H0 H2 → (p i = true → ∀ H3, Same H2 H3 → C (f i) H3) → (p i = false → ∀ H3, Same H2 H3 → E H3) →
      g (.int (lo + (i : Nat))) (wipe σ vs) H2 fun σ2 H2 => wipe σ2 vs = wipe σ vs ∧ tt σ2 H2 fun b H3 => if b = true then te σ2 H3 C else E H3)
    (hd : ∀ (H : Hp), Same H0 H → H Da = some (.lst (((List.range n).filter p).map f)) → Q (.ref Da) H) : LcB (Itr lo n) g tt te vs σ Da H0 Q := by
  refine lc_rng (fun i H2 => Same H0 H2 ∧ H2 Da = some (.lst (((List.range i).filter p).map f))) ⟨same_new hD, upd_same⟩ (fun i H2 hi q => ?_) (fun H2 q => hd H2 q.1 q.2)
  obtain ⟨s4, e4⟩ := q
  refine hs i H2 _ _ hi s4 (fun hp H3 s5 => ?_) (fun hp H3 s5 => ?_)
  · refine ⟨_, s5 _ _ e4, Nat.lt_of_le_of_lt (Nat.le_trans (by rw [List.length_map]; exact List.length_filter_le ..) (by rw [List.length_range]; omega : _ ≤ 1000000)) (by decide), Same.mut (s4.trans s5) hD, ?_⟩
    rw [upd_same, List.range_succ, List.filter_append, List.filter_cons_of_pos hp, List.map_append]
    rfl
  · refine ⟨s4.trans s5, ?_⟩
    rw [s5 _ _ e4, List.range_succ, List.filter_append, List.filter_cons_of_neg (by rw [hp]; exact Bool.false_ne_true), List.filter_nil, List.append_nil]
theorem e_tFld {K : PySem.W.Frag} {ta : TE} {f : Str} {σ : L2.St} {H : Hp} {Q : VK} (q : ta σ H fun x H1 => ∃ a C dx fs v, x = .ref a ∧ H1 a = some (.ins C dx fs) ∧ Cls K C ∧ NoAttr K C f ∧ fs.lookup f = some v ∧ Q v H1) : tFld K ta f σ H Q := q
theorem e_sFld {K : PySem.W.Frag} {ta tv : TE} {f : Str} {D : Ends} {σ : L2.St} {H : Hp} (q : tv σ H fun y H1 => ta σ H1 fun x H2 => ∃ a C dx fs, x = .ref a ∧ H2 a = some (.ins C dx fs) ∧ Cls K C ∧ NoAttr K C f ∧ fs.length < 1000 ∧ D.nx σ (upd H2 a (.ins C dx (putF f y fs)))) : sFld K ta tv f D σ H := q
abbrev cPat (K : PySem.W.Frag) : Addr := He.ga K "Pattern"
/-- a pattern: its atoms are the values vs -/
def Pat (K : PySem.W.Frag) (H : Hp) (a : Addr) (vs : List V) (neg : Bool) : Prop := ∃ (dx t : Addr) (fs : List (Str × V)), H a = some (.ins (cPat K) dx fs) ∧ fs.lookup ("atoms" : Str) = some (V.ref t) ∧ fs.lookup ("negated" : Str) = some (V.bl neg) ∧ H t = some (.tup vs)
def sp_Pattern___init__ (K : PySem.W.Frag) : Sp := sp3 fun x y z H Q => ∃ (a p dx : Addr) (vs : List V) (neg : Bool), x = .ref a ∧ y = .ref p ∧ z = .bl neg ∧ H a = some (.ins (cPat K) dx []) ∧ (SqL K H p vs ∨ H p = some (.tup vs)) ∧
  ∀ H' : Hp, (∀ b, b ≠ a → ∀ o, H b = some o → H' b = some o) → Pat K H' a vs neg → Q .non H'
abbrev Atm := Str × Bool
def rep (as : List Atm) (i : Nat) : Bool := ((as[i]?).map (·.2)).getD false
/-- the refs qs stand for the atoms as -/
abbrev Ats (K : PySem.W.Frag) (H : Hp) (qs : List Addr) (as : List Atm) : Prop := Paired (fun q (c : Atm) => SqT K H q [.str c.1, .bl c.2]) qs as
def skp (as : List Atm) (rs : List Int) (k : Nat) : Bool := decide (((k : Nat) : Int) ∈ rs) || (decide (1 ≤ k) && (decide (((k : Nat) : Int) - 1 ∈ rs) && rep as (k - 1)))
theorem sq_upd {K : PySem.W.Frag} {H : Hp} {p a : Addr} {xs : List V} {o : HO} (h : SqT K H p xs) (n : p ≠ a) : SqT K (upd H a o) p xs := by
  rcases h with (h | ⟨c9, h⟩) | h
  · exact .inl (.inl (by rw [upd_ne n]; exact h))
  · exact .inl (.inr ⟨c9, by rw [upd_ne n]; exact h⟩)
  · exact .inr h
def mks (n : Nat) (m : Nat → Bool) : List V := (List.range (n + 1)).map fun k => V.bl (m k)
theorem mks_len (n : Nat) (m : Nat → Bool) : (mks n m).length = n + 1 := by unfold mks; simp
theorem mks_set {n : Nat} {m : Nat → Bool} {i : Nat} (h : i ≤ n) : (mks n m).set i (.bl true) = mks n fun k => decide (k = i) || m k := by
  refine List.ext_getElem? fun k => ?_
  rw [List.getElem?_set]
  unfold mks
  by_cases hk : k < n + 1
  · have r1 : ((List.range (n + 1)).map fun k => V.bl (decide (k = i) || m k))[k]? = some (V.bl (decide (k = i) || m k)) := by rw [List.getElem?_map, List.getElem?_range hk]; rfl
    have r2 : ((List.range (n + 1)).map fun k => V.bl (m k))[k]? = some (V.bl (m k)) := by rw [List.getElem?_map, List.getElem?_range hk]; rfl
    rw [r1, r2]
    by_cases e : i = k
    · rw [if_pos e, if_pos (by simp; omega), decide_eq_true e.symm]; rfl
    · rw [if_neg e, decide_eq_false fun q => e q.symm]; rfl
  · rw [List.getElem?_eq_none (l := (List.range (n + 1)).map fun k => V.bl (decide (k = i) || m k)) (by simp; omega)]
    by_cases e : i = k
    · omega
    · rw [if_neg e, List.getElem?_eq_none (by simp; omega)]
theorem rep_false (n : Nat) : (List.replicate n [V.bl false]).flatten = (List.range n).map fun _ => V.bl false := by
  induction n with
  | zero => rfl
  | succ n ih =>
    rw [List.replicate_succ', List.flatten_append, ih, List.range_succ, List.map_append]
    rfl
theorem skp_iff {as : List Atm} {rs : List Int} {k : Nat} : skp as rs k = true ↔ (((k : Nat) : Int) ∈ rs ∨ (1 ≤ k ∧ ((k : Nat) : Int) - 1 ∈ rs ∧ rep as (k - 1) = true)) := by
  unfold skp
  rw [Bool.or_eq_true, Bool.and_eq_true, Bool.and_eq_true, decide_eq_true_eq, decide_eq_true_eq, decide_eq_true_eq]
theorem skp_yes {as : List Atm} {pre : List Int} {j : Nat} (h : rep as j = true) : (fun k => decide (k = j + 1) || (decide (k = j) || skp as pre k)) = skp as (pre ++ [((j : Nat) : Int)]) := by
  funext k
  refine Bool.eq_iff_iff.mpr ?_
  rw [Bool.or_eq_true, Bool.or_eq_true, decide_eq_true_eq, decide_eq_true_eq, skp_iff, skp_iff, List.mem_append, List.mem_append, List.mem_singleton, List.mem_singleton]
  constructor
  · rintro (e | e | e | ⟨a, b, c⟩)
    · exact .inr ⟨by omega, .inr (by omega), by rw [e, Nat.add_sub_cancel]; exact h⟩
    · exact .inl (.inr (by omega))
    · exact .inl (.inl e)
    · exact .inr ⟨a, .inl b, c⟩
  · rintro ((e | e) | ⟨a, b | b, c⟩)
    · exact .inr (.inr (.inl e))
    · exact .inr (.inl (by omega))
    · exact .inr (.inr (.inr ⟨a, b, c⟩))
    · exact .inl (by omega)
theorem skp_no {as : List Atm} {pre : List Int} {j : Nat} (h : rep as j = false) : (fun k => decide (k = j) || skp as pre k) = skp as (pre ++ [((j : Nat) : Int)]) := by
  funext k
  refine Bool.eq_iff_iff.mpr ?_
  rw [Bool.or_eq_true, decide_eq_true_eq, skp_iff, skp_iff, List.mem_append, List.mem_append, List.mem_singleton, List.mem_singleton]
  constructor
  · rintro (e | e | ⟨a, b, c⟩)
    · exact .inl (.inr (by omega))
    · exact .inl (.inl e)
    · exact .inr ⟨a, .inl b, c⟩
  · rintro ((e | e) | ⟨a, b | b, c⟩)
    · exact .inr (.inl e)
    · exact .inl (by omega)
    · exact .inr (.inr ⟨a, b, c⟩)
    · have e2 : k - 1 = j := by omega
      rw [e2, h] at c
      cases c
theorem prd_get {α β : Type} {R : α → β → Prop} : ∀ {xs : List α} {ys : List β}, Paired R xs ys → ∀ (i : Nat), i < ys.length → ∃ x y, xs[i]? = some x ∧ ys[i]? = some y ∧ R x y
  | _, _, .nil, i, h => by simp at h
  | _, _, .cons a b, 0, h => ⟨_, _, rfl, rfl, a⟩
  | _, _, .cons a b, i + 1, h => by
    obtain ⟨x, y, h1, h2, h3⟩ := prd_get b i (by simpa using h)
    exact ⟨x, y, by simpa using h1, by simpa using h2, h3⟩
def plc (n : Nat) (m : Nat → Bool) : List Int := ((List.range (n + 1)).filter m).map fun k => ((k : Nat) : Int)
def sp_with_skipped (K : PySem.W.Frag) : Sp := sp2 fun x y H Q => ∃ (a p : Addr) (qs : List Addr) (as : List Atm) (neg : Bool) (rs : List Int), x = .ref a ∧ y = .ref p ∧ Pat K H a (qs.map V.ref) neg ∧ Ats K H qs as ∧ as.length ≤ 1000 ∧
  SqL K H p (rs.map V.int) ∧ (∀ k ∈ rs, 0 ≤ k ∧ k ≤ as.length) ∧ ∀ (r : Addr) (H' : Hp), Same H H' → H' r = some (.tup ((plc as.length (skp as rs)).map V.int)) → Q (.ref r) H'
def sp_start_places (K : PySem.W.Frag) : Sp := sp1 fun x H Q => ∃ (a : Addr) (qs : List Addr) (as : List Atm) (neg : Bool), x = .ref a ∧ Pat K H a (qs.map V.ref) neg ∧ Ats K H qs as ∧ as.length ≤ 1000 ∧
  ∀ (r : Addr) (H' : Hp), Same H H' → H' r = some (.tup ((plc as.length (skp as [0])).map V.int)) → Q (.ref r) H'
theorem Pat.same {K : PySem.W.Frag} {H H' : Hp} {a : Addr} {vs : List V} {neg : Bool} (h : Pat K H a vs neg) (e : Same H H') : Pat K H' a vs neg := by
  obtain ⟨dx, t, fs, h1, h2, h3, h4⟩ := h
  exact ⟨dx, t, fs, e _ _ h1, h2, h3, e _ _ h4⟩
theorem ats_same {K : PySem.W.Frag} {H H' : Hp} {as : List Atm} : ∀ {qs : List Addr}, Same H H' → Ats K H qs as → Ats K H' qs as := by
  intro qs e h
  induction h with
  | nil => exact .nil
  | cons a b ih => exact .cons (same_tup e a) ih
def PatA (K : PySem.W.Frag) (H : Hp) (a : Addr) (as : List Atm) (neg : Bool) : Prop := ∃ qs : List Addr, Pat K H a (qs.map V.ref) neg ∧ Ats K H qs as
def hit (as : List Atm) (u : Nat) (m : Int) : List Int := match as[m.toNat]? with
  | some c => if u ∈ c.1.cps.toList then [if c.2 = true then m else m + 1] else []
  | none => []
theorem hit_rg {as : List Atm} {u : Nat} {m k : Int} (h0 : 0 ≤ m) (h : k ∈ hit as u m) : 0 ≤ k ∧ k ≤ as.length := by
  unfold hit at h
  cases e : as[m.toNat]? with
  | none => rw [e] at h; cases h
  | some c =>
    rw [e] at h
    have hl := (List.getElem?_eq_some_iff.mp e).1
    dsimp only at h
    split at h
    · have h := List.mem_singleton.mp h
      rw [h]
      split <;> omega
    · cases h
theorem hit_len (as : List Atm) (u : Nat) : ∀ ms : List Int, (ms.flatMap (hit as u)).length ≤ ms.length
  | [] => Nat.le_refl _
  | m :: r => by
    have ih := hit_len as u r
    have h1 : (hit as u m).length ≤ 1 := by
      unfold hit
      split
      · split <;> simp
      · simp
    rw [List.flatMap_cons, List.length_append, List.length_cons]
    omega
def sp_next_places (K : PySem.W.Frag) : Sp := sp3 fun x y z H Q => ∃ (a p : Addr) (qs : List Addr) (as : List Atm) (neg : Bool) (ms : List Int) (u : Nat), x = .ref a ∧ y = .ref p ∧ z = .str ⟨#[u]⟩ ∧ Pat K H a (qs.map V.ref) neg ∧ Ats K H qs as ∧ as.length ≤ 1000 ∧
  SqT K H p (ms.map V.int) ∧ (∀ m ∈ ms, 0 ≤ m ∧ m ≤ as.length) ∧ ms.length ≤ 2000 ∧ ∀ (r : Addr) (H' : Hp), Same H H' → H' r = some (.tup ((plc as.length (skp as (ms.flatMap (hit as u)))).map V.int)) → Q (.ref r) H'
def stp (as : List Atm) (S : List Int) (u : Nat) : List Int := plc as.length (skp as (S.flatMap (hit as u)))
def st0 (as : List Atm) : List Int := plc as.length (skp as [0])
def mat (as : List Atm) (z : Str) : Bool := decide (((as.length : Nat) : Int) ∈ z.cps.toList.foldl (stp as) (st0 as))
theorem plc_rg {n : Nat} {m : Nat → Bool} {k : Int} (h : k ∈ plc n m) : 0 ≤ k ∧ k ≤ n := by
  obtain ⟨i, hi, rfl⟩ := List.mem_map.mp h
  have := List.mem_range.mp (List.mem_filter.mp hi).1
  omega
theorem plc_len (n : Nat) (m : Nat → Bool) : (plc n m).length ≤ n + 1 := by
  unfold plc
  rw [List.length_map]
  exact Nat.le_trans (List.length_filter_le ..) (by rw [List.length_range]; exact Nat.le_refl _)
def sp_matches (K : PySem.W.Frag) : Sp := sp2 fun x y H Q => ∃ (a : Addr) (qs : List Addr) (as : List Atm) (neg : Bool) (z : Str), x = .ref a ∧ y = .str z ∧ Pat K H a (qs.map V.ref) neg ∧ Ats K H qs as ∧ as.length ≤ 1000 ∧ z.length ≤ 1000 ∧
  ∀ H' : Hp, Same H H' → Q (.bl (mat as z)) H'
theorem inV_ints (x : Int) (ys : List Int) : inV (.int x) (ys.map V.int) = decide (x ∈ ys) := by
  unfold inV
  refine Bool.eq_iff_iff.mpr ?_
  rw [List.any_eq_true, decide_eq_true_eq]
  constructor
  · rintro ⟨v, hv, e⟩
    obtain ⟨y, hy, rfl⟩ := List.mem_map.mp hv
    have e2 : y = x := by simpa [eqV] using e
    rw [← e2]; exact hy
  · intro h
    exact ⟨.int x, List.mem_map.mpr ⟨x, h, rfl⟩, by simp [eqV]⟩
theorem flat_ints (ys : List Int) : (ys.map V.int).all flatV = true := List.all_eq_true.mpr fun v hv => by
  obtain ⟨y, _, rfl⟩ := List.mem_map.mp hv
  rfl
theorem mk_same {H2 H1 : Hp} {x dx : Addr} {o1 o2 : HO} (hx : H2 x = none) (hdx : H2 dx = none) (k : ∀ b, b ≠ x → ∀ o, (upd (upd H2 dx o1) x o2) b = some o → H1 b = some o) : Same H2 H1 := fun b o e => k b (ne_of_none e hx) o (by rw [upd_ne (ne_of_none e hx), upd_ne (ne_of_none e hdx)]; exact e)
theorem mk_pat {K : PySem.W.Frag} {H2 : Hp} {x dx p : Addr} {vs : List V} {neg : Bool} {R : Hp → Prop} {E : XK} (hx : H2 x = none) (hdx : H2 dx = none) (nx : dx ≠ x) (hp : SqL K H2 p vs ∨ H2 p = some (.tup vs))
    (q : ∀ H3, Same H2 H3 → Pat K H3 x vs neg → R H3) : sp_Pattern___init__ K [.ref x, .ref p, .bl neg] (upd (upd H2 dx (.own x)) x (.ins (cPat K) dx [])) (fun v H3 => v = .non ∧ R H3) E := by
  have hx' : (upd H2 dx (.own x)) x = none := by rw [upd_ne (Ne.symm nx)]; exact hx
  have s := (same_new (o := .own x) hdx).trans (same_new (o := .ins (cPat K) dx []) hx')
  refine ⟨_, _, _, rfl, x, p, dx, vs, neg, rfl, rfl, rfl, upd_same, ?_, fun H1 k1 hP => ⟨rfl, q H1 (mk_same hx hdx k1) hP⟩⟩
  rcases hp with hp | hp
  · exact .inl (s.seq hp)
  · exact .inr (s _ _ hp)
theorem fld_atoms {K : PySem.W.Frag} {H : Hp} {a : Addr} {vs : List V} {neg : Bool} {R : V → Prop} (c1 : Cls K (cPat K)) (c2 : NoAttr K (cPat K) "atoms") (h : Pat K H a vs neg) (q : ∀ t, H t = some (.tup vs) → R (.ref t)) : ∃ a' C dx fs v, V.ref a = .ref a' ∧ H a' = some (.ins C dx fs) ∧ Cls K C ∧ NoAttr K C "atoms" ∧ fs.lookup ("atoms" : Str) = some v ∧ R v := by
  obtain ⟨dx, t, fs, h1, h2, h3, h4⟩ := h
  exact ⟨a, _, dx, fs, _, rfl, h1, c1, c2, h2, q t h4⟩
theorem fld_neg {K : PySem.W.Frag} {H : Hp} {a : Addr} {vs : List V} {neg : Bool} {R : V → Prop} (c1 : Cls K (cPat K)) (c2 : NoAttr K (cPat K) "negated") (h : Pat K H a vs neg) (q : R (.bl neg)) : ∃ a' C dx fs v, V.ref a = .ref a' ∧ H a' = some (.ins C dx fs) ∧ Cls K C ∧ NoAttr K C "negated" ∧ fs.lookup ("negated" : Str) = some v ∧ R v := by
  obtain ⟨dx, t, fs, h1, h2, h3, h4⟩ := h
  exact ⟨a, _, dx, fs, _, rfl, h1, c1, c2, h3, q⟩
theorem ats_imp {K : PySem.W.Frag} {H H' : Hp} {as : List Atm} (f : ∀ {x : Addr} {xs : List V}, SqT K H x xs → SqT K H' x xs) : ∀ {qs : List Addr}, Ats K H qs as → Ats K H' qs as := by
  intro qs h
  induction h with
  | nil => exact .nil
  | cons a b ih => exact .cons (f a) ih
theorem tup_updL {K : PySem.W.Frag} {H : Hp} {g x : Addr} {ys xs : List V} {o : HO} (e : H g = some (.lst ys)) (h : SqT K H x xs) : SqT K (upd H g o) x xs := by
  rcases h with (h | ⟨o, h⟩) | h
  · exact .inl (.inl (by rw [upd_ne (fun z => by rw [z, e] at h; cases h)]; exact h))
  · exact .inl (.inr ⟨o, by rw [upd_ne (fun z => by rw [z, e] at h; cases h)]; exact h⟩)
  · exact .inr h
theorem pat_updL {K : PySem.W.Frag} {H : Hp} {g a : Addr} {ys vs : List V} {neg : Bool} {o : HO} (e : H g = some (.lst ys)) (h : Pat K H a vs neg) : Pat K (upd H g o) a vs neg := by
  obtain ⟨dx, t, fs, h1, h2, h3, h4⟩ := h
  exact ⟨dx, t, fs, by rw [upd_ne (fun z => by rw [z, e] at h1; cases h1)]; exact h1, h2, h3, by rw [upd_ne (fun z => by rw [z, e] at h4; cases h4)]; exact h4⟩
theorem PatA.same {K : PySem.W.Frag} {H H' : Hp} {a : Addr} {as : List Atm} {neg : Bool} (h : PatA K H a as neg) (e : Same H H') : PatA K H' a as neg := by
  obtain ⟨qs, h1, h2⟩ := h
  exact ⟨qs, h1.same e, ats_same e h2⟩
def sp_Pattern___eq__ (K : PySem.W.Frag) : Sp := sp2 fun x y H Q => ∃ (a : Addr) (as : List Atm) (neg : Bool), x = .ref a ∧ PatA K H a as neg ∧
  ((∃ (b : Addr) (bs : List Atm) (neg2 : Bool), y = .ref b ∧ PatA K H b bs neg2 ∧ Q (.bl (decide (as = bs) && (neg == neg2))) H) ∨ (∃ (t : Addr) (ys : List V), y = .ref t ∧ H t = some (.tup ys) ∧ Q (.bl false) H))
/-! atoms as data -/
abbrev Da (as : List Atm) : List PyData := as.map fun c => .tuple [.str c.1, .bool c.2]
theorem da_all {K : PySem.W.Frag} {H : Hp} : ∀ {qs : List Addr} {as : List Atm}, Ats K H qs as → DpAll K H (qs.map V.ref) (Da as)
  | _, _, .nil => .nil
  | _, _, .cons (b := c) a b => .cons (.tup (xs := [.str c.1, .bl c.2]) a (.cons (.str _) (.cons (.bl _) .nil))) (da_all b)
theorem da_eqv : ∀ v w : List Atm, PyData.eqvAll (Da v) (Da w) = decide (v = w)
  | [], [] => by
    simp [PyData.eqvAll]
  | [], _ :: _ => by
    simp [PyData.eqvAll]
  | _ :: _, [] => by
    simp [PyData.eqvAll]
  | c :: v, d :: w => by
    have ih := da_eqv v w
    show ((PyData.eqv (.str c.1) (.str d.1) && (PyData.eqv (.bool c.2) (.bool d.2) && true)) && PyData.eqvAll (Da v) (Da w)) = _
    rw [ih]
    show (((c.1 == d.1) && ((c.2 == d.2) && true)) && decide (v = w)) = _
    obtain ⟨c1, c2⟩ := c
    obtain ⟨d1, d2⟩ := d
    by_cases h1 : c1 = d1 <;> by_cases h2 : c2 = d2 <;> by_cases h3 : v = w <;> simp [h1, h2, h3]
theorem da_can : ∀ v : List Atm, PyData.plainAll (Da v) = true
  | [] => rfl
  | c :: v => by
    show (PyData.plainAll [.str c.1, .bool c.2] && PyData.plainAll (Da v)) = true
    rw [da_can v]; rfl
theorem da_depth : ∀ v : List Atm, PyData.depthAll (Da v) ≤ 1
  | [] => by
    show 0 ≤ 1
    omega
  | c :: v => by
    have ih := da_depth v
    show max (PyData.depthAll [.str c.1, .bool c.2] + 1) (PyData.depthAll (Da v)) ≤ 1
    have e : PyData.depthAll [.str c.1, .bool c.2] = 0 := rfl
    rw [e]
    omega
/-- a row of atoms, a list's or a tuple's -/
def AtL (K : PySem.W.Frag) (H : Hp) (a : Addr) (as : List Atm) : Prop := ∃ qs : List Addr, SqL K H a (qs.map V.ref) ∧ Ats K H qs as
def AtT (K : PySem.W.Frag) (H : Hp) (a : Addr) (as : List Atm) : Prop := ∃ qs : List Addr, SqT K H a (qs.map V.ref) ∧ Ats K H qs as
theorem AtL.same {K : PySem.W.Frag} {H H' : Hp} {a : Addr} {as : List Atm} (h : AtL K H a as) (e : Same H H') : AtL K H' a as := by
  obtain ⟨qs, h1, h2⟩ := h
  exact ⟨qs, e.seq h1, ats_same e h2⟩
theorem AtT.same {K : PySem.W.Frag} {H H' : Hp} {a : Addr} {as : List Atm} (h : AtT K H a as) (e : Same H H') : AtT K H' a as := by
  obtain ⟨qs, h1, h2⟩ := h
  exact ⟨qs, same_tup e h1, ats_same e h2⟩
theorem dd (v : List Atm) : PyData.depthAll (Da v) + 1 ≤ 60 := Nat.le_trans (Nat.succ_le_succ (da_depth v)) (by decide)
theorem e_eqAT {K : PySem.W.Frag} {H : Hp} {Q : VK} {a b : Addr} {v w : List Atm} (h1 : AtT K H a v) (h2 : AtT K H b w) (q : Q (.bl (decide (v = w))) H) : rEqP K (.ref a) (.ref b) H Q := by
  obtain ⟨ps, s1, p1⟩ := h1
  obtain ⟨qs, s2, p2⟩ := h2
  refine ⟨_, _, .tup s1 (da_all p1), .tup s2 (da_all p2), da_can v, da_can w, dd v, ?_⟩
  rw [show PyData.eqv (.tuple (Da v)) (.tuple (Da w)) = PyData.eqvAll (Da v) (Da w) from rfl, da_eqv]
  exact q
theorem e_neAT {K : PySem.W.Frag} {H : Hp} {Q : VK} {a b : Addr} {v w : List Atm} (h1 : AtT K H a v) (h2 : AtT K H b w) (q : Q (.bl (!decide (v = w))) H) : rNeP K (.ref a) (.ref b) H Q := by
  obtain ⟨ps, s1, p1⟩ := h1
  obtain ⟨qs, s2, p2⟩ := h2
  refine ⟨_, _, .tup s1 (da_all p1), .tup s2 (da_all p2), da_can v, da_can w, dd v, ?_⟩
  rw [show PyData.eqv (.tuple (Da v)) (.tuple (Da w)) = PyData.eqvAll (Da v) (Da w) from rfl, da_eqv]
  exact q
theorem e_eqAL {K : PySem.W.Frag} {H : Hp} {Q : VK} {a b : Addr} {v w : List Atm} (h1 : AtL K H a v) (h2 : AtL K H b w) (q : Q (.bl (decide (v = w))) H) : rEqP K (.ref a) (.ref b) H Q := by
  obtain ⟨ps, s1, p1⟩ := h1
  obtain ⟨qs, s2, p2⟩ := h2
  refine ⟨_, _, .lst s1 (da_all p1), .lst s2 (da_all p2), da_can v, da_can w, dd v, ?_⟩
  rw [show PyData.eqv (.list (Da v)) (.list (Da w)) = PyData.eqvAll (Da v) (Da w) from rfl, da_eqv]
  exact q
theorem e_eqPP {K : PySem.W.Frag} {H : Hp} {a b : Addr} {as bs : List Atm} {n1 n2 : Bool} {Q : VK} {E : XK} (h1 : PatA K H a as n1) (h2 : PatA K H b bs n2) (q : Q (.bl (decide (as = bs) && (n1 == n2))) H) : rEqO K (He.ga K "Pattern") (sp_Pattern___eq__ K) E (.ref a) (.ref b) H Q := by
  obtain ⟨qs, ⟨dx, t, fs, ha, f1, f2, ht⟩, hA⟩ := id h1
  obtain ⟨rs, ⟨dy, u, gs, hb, g1, g2, hu⟩, hB⟩ := id h2
  exact ⟨a, b, dx, fs, rfl, rfl, ha, .inl ⟨dy, gs, hb⟩, _, _, rfl, a, as, n1, rfl, h1, .inl ⟨b, bs, n2, rfl, h2, _, rfl, q⟩⟩
theorem e_eqPT {K : PySem.W.Frag} {H : Hp} {a b : Addr} {as : List Atm} {ys : List V} {n1 : Bool} {Q : VK} {E : XK} (ct : ClsT K "Pattern") (h1 : PatA K H a as n1) (h2 : H b = some (.tup ys)) (q : Q (.bl false) H) : rEqO K (He.ga K "Pattern") (sp_Pattern___eq__ K) E (.ref a) (.ref b) H Q := by
  obtain ⟨qs, ⟨dx, t, fs, ha, f1, f2, ht⟩, hA⟩ := id h1
  exact ⟨a, b, dx, fs, rfl, rfl, ha, .inr ⟨ct.nf, ys, SqT.of h2⟩, _, _, rfl, a, as, n1, rfl, h1, .inr ⟨b, ys, rfl, h2, _, rfl, q⟩⟩
theorem prd_drop {α β : Type} {R : α → β → Prop} : ∀ {xs : List α} {ys : List β} (n : Nat), Paired R xs ys → Paired R (xs.drop n) (ys.drop n)
  | _, _, 0, h => by simpa using h
  | _, _, n + 1, .nil => by simpa using Paired.nil
  | _, _, n + 1, .cons a b => prd_drop n b
theorem prd_take {α β : Type} {R : α → β → Prop} : ∀ {xs : List α} {ys : List β} (n : Nat), Paired R xs ys → Paired R (xs.take n) (ys.take n)
  | _, _, 0, h => by simpa using Paired.nil
  | _, _, n + 1, .nil => by simpa using Paired.nil
  | _, _, n + 1, .cons a b => by
    rw [List.take_succ_cons, List.take_succ_cons]
    exact .cons a (prd_take n b)
abbrev CH : List Nat := ("-./0123456789ABCDEFGHIJKLMNOPQRSTUVWXYZ_abcdefghijklmnopqrstuvwxyz~" : Str).cps.toList
def sp_law_all (K : PySem.W.Frag) : Sp := sp0 fun H Q => Q (.str "-./0123456789ABCDEFGHIJKLMNOPQRSTUVWXYZ_abcdefghijklmnopqrstuvwxyz~") H
def sp_law_told (K : PySem.W.Frag) : Sp := sp2 fun a b H Q => ∃ x y : Bool, a = .bl x ∧ b = .bl y ∧ Q (.bl (x == y)) H
theorem kp_tup {K : PySem.W.Frag} {st sc r : Addr} {ns : List Int} {H H' : Hp} {xs : List V} (d : Dr K st sc ns H) (k : Kp st H H') (h : SqT K H r xs) : SqT K H' r xs := by
  obtain ⟨a, b, _, _, e⟩ := d.s
  rcases h with (h | ⟨o, h⟩) | h
  · exact .inl (.inl (k _ _ (fun z => by rw [z, e] at h; cases h) h))
  · exact .inl (.inr ⟨o, k _ _ (fun z => by rw [z, e] at h; cases h) h⟩)
  · exact .inr h
theorem kp_ats {K : PySem.W.Frag} {st sc : Addr} {ns : List Int} {H H' : Hp} {as : List Atm} (d : Dr K st sc ns H) (k : Kp st H H') : ∀ {qs : List Addr}, Ats K H qs as → Ats K H' qs as := by
  intro qs h
  induction h with
  | nil => exact .nil
  | cons a b ih => exact .cons (kp_tup d k a) ih
theorem prd_snoc {α β : Type} {R : α → β → Prop} : ∀ {xs : List α} {ys : List β} {x : α} {y : β}, Paired R xs ys → R x y → Paired R (xs ++ [x]) (ys ++ [y])
  | _, _, _, _, .nil, h => .cons h .nil
  | _, _, _, _, .cons a b, h => .cons a (prd_snoc b h)
theorem small {n m : Nat} (h : n ≤ m) (hm : m ≤ 1000000) : n < sizeLine := Nat.lt_of_le_of_lt (Nat.le_trans h hm) (by decide)
theorem at_lastR {qs : List Addr} {w : Addr} {n : Nat} (h : qs[n]? = some w) (hl : qs.length = n + 1) : atI (qs.map V.ref) (-1) = some (.ref w) := by
  have e2 := (List.getElem?_eq_some_iff.mp h).2
  have e1 : qs = qs.take n ++ w :: qs.drop (n + 1) := by rw [← e2, List.getElem_cons_drop, List.take_append_drop]
  rw [List.drop_eq_nil_of_le (by omega)] at e1
  rw [e1, List.map_append]
  exact atI_last _ _
def AtK (K : PySem.W.Frag) (st : Addr) (H : Hp) (r : Addr) (as : List Atm) : Prop := ∃ qs : List Addr, ∀ H2, Kp st H H2 → SqL K H2 r (qs.map V.ref) ∧ Ats K H2 qs as
theorem AtK.kp {K : PySem.W.Frag} {st r : Addr} {H H' : Hp} {as : List Atm} (h : AtK K st H r as) (k : Kp st H H') : AtK K st H' r as := by
  obtain ⟨qs, h⟩ := h
  exact ⟨qs, fun H2 k2 => h H2 (k.trans k2)⟩
theorem AtK.atl {K : PySem.W.Frag} {st r : Addr} {H : Hp} {as : List Atm} (h : AtK K st H r as) : AtL K H r as := by
  obtain ⟨qs, h⟩ := h
  obtain ⟨h1, h2⟩ := h H (Kp.refl _ _)
  exact ⟨qs, h1, h2⟩
theorem rep_app {as : List Atm} {c : Atm} {k : Nat} : rep (as ++ [c]) k = if k < as.length then rep as k else if k = as.length then c.2 else false := by
  unfold rep
  by_cases h : k < as.length
  · rw [if_pos h, List.getElem?_append_left h]
  · rw [if_neg h, List.getElem?_append_right (by omega)]
    by_cases h2 : k = as.length
    · rw [if_pos h2, h2, Nat.sub_self]; rfl
    · rw [if_neg h2, List.getElem?_eq_none (by simp; omega)]; rfl
theorem rep_over {as : List Atm} {k : Nat} (h : as.length ≤ k) : rep as k = false := by
  unfold rep
  rw [List.getElem?_eq_none h]; rfl
theorem two_app {as : List Atm} {c : Atm} (h : ∀ k, rep as k = true → rep as (k + 1) = false) (h2 : ∀ n, as.length = n + 1 → rep as n = true → c.2 = false) : ∀ k, rep (as ++ [c]) k = true → rep (as ++ [c]) (k + 1) = false := by
  intro k hk
  rw [rep_app] at hk ⊢
  by_cases h3 : k + 1 < as.length
  · rw [if_pos (by omega)] at hk
    rw [if_pos h3]; exact h k hk
  · rw [if_neg h3]
    by_cases h4 : k + 1 = as.length
    · rw [if_pos h4]
      rw [if_pos (by omega)] at hk
      exact h2 k h4.symm hk
    · rw [if_neg h4]
theorem at_ofN {l : List Nat} {z : Int} {j c : Nat} (e : z = (j : Int)) (h : l[j]? = some c) : atI l z = some c := by
  rw [e]
  exact atI_nat h
theorem pick_str {l : List Str} {d : Int} (h0 : 0 ≤ d) (h1 : d < l.length) : ∃ z, z ∈ l ∧ atI (l.map V.str) d = some (.str z) := by
  obtain ⟨j, hj⟩ : ∃ j : Nat, d = (j : Int) := ⟨d.toNat, by omega⟩
  have h2 : j < l.length := by omega
  exact ⟨l[j], List.getElem_mem h2, at_of (j := j) hj (by rw [List.getElem?_map, List.getElem?_eq_getElem h2]; rfl)⟩
theorem cut_pos {z : Str} {lo hi : Int} (h0 : 0 ≤ lo) (h1 : lo < z.length) (h2 : lo < hi) : 1 ≤ (cutS z (some lo) (some hi)).length := by
  show 1 ≤ (((z.cps.toList.drop (HT.sIx z.length 0 (some lo))).take (HT.sIx z.length z.length (some hi) - HT.sIx z.length 0 (some lo))).toArray).size
  rw [List.size_toArray, List.length_take, List.length_drop, Array.length_toList]
  obtain ⟨a, rfl⟩ : ∃ a : Nat, lo = (a : Int) := ⟨lo.toNat, by omega⟩
  obtain ⟨b, rfl⟩ : ∃ b : Nat, hi = (b : Int) := ⟨hi.toNat, by omega⟩
  rw [HT.sIx_nat, HT.sIx_nat]
  have e : z.cps.size = z.length := rfl
  rw [e]
  omega
theorem cut_top {z : Str} {n : Nat} : (cutS z none (some (n : Int))).length ≤ n := by
  show (((z.cps.toList.drop (HT.sIx z.length 0 none)).take (HT.sIx z.length z.length (some (n : Int)) - HT.sIx z.length 0 none)).toArray).size ≤ n
  rw [List.size_toArray, List.length_take, HT.sIx_nat, HT.sIx_none]
  omega
theorem join_len : ∀ ys : List Str, (PySem.Str.join ("" : Str) ys).length = (ys.map (fun x => x.length)).sum
  | [] => rfl
  | [x] => by
    show x.length = x.length + 0
    omega
  | x :: y :: r => by
    have ih := join_len (y :: r)
    show ((x ++ ("" : Str)) ++ PySem.Str.join ("" : Str) (y :: r)).length = x.length + ((y :: r).map (fun x => x.length)).sum
    rw [len_app, len_app, ih]
    rfl
theorem sum_ones : ∀ ys : List Str, (∀ y ∈ ys, y.length = 1) → (ys.map (fun x => x.length)).sum = ys.length
  | [], _ => rfl
  | x :: r, h => by
    have ih := sum_ones r fun y hy => h y (List.mem_cons_of_mem _ hy)
    have h1 := h x (List.mem_cons_self ..)
    show x.length + (r.map (fun x => x.length)).sum = r.length + 1
    omega
abbrev ones (l : List Nat) : List Str := l.map fun x => ⟨#[x]⟩
theorem ones_len (l : List Nat) : ((ones l).map (fun x => x.length)).sum = l.length := by
  rw [sum_ones _ fun y hy => by obtain ⟨x, _, rfl⟩ := List.mem_map.mp hy; rfl, List.length_map]
theorem ones_join (l : List Nat) : (Txt.join ("" : Str) (ones l)).length = l.length := by rw [TL.join_eq, join_len, ones_len]
theorem pre_le {α : Type} {l pre post : List α} {x : α} (e : l = pre ++ x :: post) : (pre ++ [x]).length ≤ l.length := by
  rw [e, List.length_append, List.length_append]
  simp
def pl0 : List Nat := CH.filter fun x : Nat => !decide ((⟨#[x]⟩ : Str) = ("/" : Str))
theorem pl0_len : pl0.length = 66 := by decide +kernel
/-- k % period == rest, or not -/
def per (p r : Int) (o : Bool) (i : Nat) : Bool := (decide ((0 + (i : Int)) % p = r)) != o
theorem per_some {p r : Int} {o : Bool} (h2 : 2 ≤ p) (h7 : p ≤ 7) (r0 : 0 ≤ r) (r1 : r < p) : ∃ i, i < 67 ∧ per p r o i = true := by
  obtain ⟨j, rfl⟩ : ∃ j : Nat, r = (j : Int) := ⟨r.toNat, by omega⟩
  cases o with
  | false =>
    refine ⟨j, by omega, ?_⟩
    unfold per
    rw [Int.zero_add, Int.emod_eq_of_lt (by omega) r1, decide_eq_true rfl]
    rfl
  | true =>
    by_cases h : j = 0
    · refine ⟨1, by omega, ?_⟩
      unfold per
      rw [Int.zero_add, show ((1 : Nat) : Int) % p = 1 from Int.emod_eq_of_lt (by decide) (by omega), decide_eq_false (by omega)]
      rfl
    · refine ⟨0, by omega, ?_⟩
      unfold per
      rw [Int.zero_add, show ((0 : Nat) : Int) % p = 0 from Int.zero_emod p, decide_eq_false (by omega)]
      rfl
theorem lc_rngP {K : PySem.W.Frag} {g : TG} {tt : TT} {te : TE} {vs : List Nat} {σ : L2.St} {Da : Addr} {H0 : Hp} {Q : VK} {lo : Int} {n : Nat} (hD : H0 Da = none) (hn : n ≤ 1000000) (p : Nat → Bool) (f : Nat → V)
    (hs : ∀ (i : Nat) (H2 : Hp) (C : VK) (E : Hp → Prop), i < n → Same H0 H2 → (p i = true → ∀ H3, Same H2 H3 → C (f i) H3) → (p i = false → ∀ H3, Same H2 H3 → E H3) →
      g (.int (lo + (i : Nat))) (wipe σ vs) H2 fun σ2 H2 => wipe σ2 vs = wipe σ vs ∧ tt σ2 H2 fun b H3 => if b = true then te σ2 H3 C else E H3)
    (hd : ∀ (H : Hp), Same H0 H → H Da = some (.lst (((List.range n).filter p).map f)) → Q (.ref Da) H) : LcB (Itr lo n) g tt te vs σ Da H0 Q := lc_filt (K := K) hD hn p f hs hd
theorem for_ats {K : PySem.W.Frag} {g : TG} {t : TS} {D : Ends} {σ : L2.St} {H : Hp} {a : Addr} {as : List Atm} (Pv : List Atm → L2.St → Hp → Prop) (h0 : Pv [] σ H) (qs : List Addr) (hq : qs.length = as.length) (hl : ∀ pre σ H, Pv pre σ H → SqL K H a (qs.map V.ref) ∧ Ats K H qs as)
    (hs : ∀ (pre : List Atm) (c : Atm) (post : List Atm) (T : Addr) σ H, as = pre ++ c :: post → Pv pre σ H → SqT K H T [.str c.1, .bl c.2] → g (.ref T) σ H fun σ2 H2 => t { D with nx := Pv (pre ++ [c]), ct := Pv (pre ++ [c]), bk := D.nx } σ2 H2)
    (hd : ∀ σ H, Pv as σ H → D.nx σ H) : ForB (Itl K a) g t D σ H := by
  refine for_list (xs := qs.map V.ref) (fun i => Pv (as.take i)) (by simpa using h0) (fun i σ H _ p => (hl _ σ H p).1) (fun i x σ H hx p => ?_) (fun σ H p => ?_)
  · rw [List.getElem?_map] at hx
    obtain ⟨T, hT, rfl⟩ := Option.map_eq_some_iff.mp hx
    obtain ⟨T2, c, hT2, hc, q⟩ := prd_get (hl _ σ H p).2 i (by have := (List.getElem?_eq_some_iff.mp hT).1; omega)
    rw [hT] at hT2
    cases hT2
    have e2 := (List.getElem?_eq_some_iff.mp hc).2
    have e1 : as = as.take i ++ c :: as.drop (i + 1) := by rw [← e2, List.getElem_cons_drop, List.take_append_drop]
    rw [List.take_add_one, hc]
    exact hs _ c _ T σ H e1 p q
  · rw [List.length_map, hq, List.take_length] at p
    exact hd σ H p
/-- characters in order, without doubles -/
abbrev cp (z : Str) : List Nat := z.cps.toList
def okS (z : Str) : Prop := (cp z).Sublist CH ∧ cp z ≠ []
def NS : List Nat := CH.filter fun c => decide (c ≠ 47)
def goodC (c : Atm) : Prop := okS c.1 ∧ (c.2 = true → cp c.1 = NS ∨ cp c.1 = CH)
def sp_law_atom (K : PySem.W.Frag) : Sp := sp3 fun a b x H Q => ∃ (st sc : Addr) (ns : List Int) (f : Bool), a = .ref st ∧ b = .ref sc ∧ x = .bl f ∧ Dr K st sc ns H ∧
  ∀ (r : Addr) (c : Atm) (H' : Hp), goodC c → (f = true → c.2 = false) → Kp st H H' → Dr K st sc ns H' → SqT K H' r [.str c.1, .bl c.2] → Q (.ref r) H'
def noTwo (as : List Atm) : Prop := ∀ k, rep as k = true → rep as (k + 1) = false
/-- a list of atoms that stands in the heap -/
def AtP (K : PySem.W.Frag) (H : Hp) (r : Addr) (as : List Atm) : Prop := ∃ qs : List Addr, H r = some (.lst (qs.map V.ref)) ∧ Ats K H qs as
theorem AtP.ne {K : PySem.W.Frag} {st sc r : Addr} {ns : List Int} {H : Hp} {as : List Atm} (d : Dr K st sc ns H) (h : AtP K H r as) : r ≠ st := by
  obtain ⟨a, b, _, _, e⟩ := d.s
  obtain ⟨qs, h, _⟩ := h
  intro z
  rw [z, e] at h
  cases qs with
  | nil => simp at h
  | cons q qs => simp at h
theorem AtP.kp {K : PySem.W.Frag} {st sc r : Addr} {ns : List Int} {H H' : Hp} {as : List Atm} (d : Dr K st sc ns H) (h : AtP K H r as) (k : Kp st H H') : AtP K H' r as := by
  have n := h.ne d
  obtain ⟨qs, h1, h2⟩ := h
  exact ⟨qs, k _ _ n h1, kp_ats d k h2⟩
theorem AtP.atk {K : PySem.W.Frag} {st sc r : Addr} {ns : List Int} {H : Hp} {as : List Atm} (d : Dr K st sc ns H) (h : AtP K H r as) : AtK K st H r as := by
  have n := h.ne d
  obtain ⟨qs, h1, h2⟩ := h
  exact ⟨qs, fun H2 k2 => ⟨SqL.of (k2 _ _ n h1), kp_ats d k2 h2⟩⟩
theorem AtP.atl {K : PySem.W.Frag} {r : Addr} {H : Hp} {as : List Atm} (h : AtP K H r as) : AtL K H r as := by
  obtain ⟨qs, h1, h2⟩ := h
  exact ⟨qs, SqL.of h1, h2⟩
theorem AtP.updL {K : PySem.W.Frag} {r D : Addr} {H : Hp} {as : List Atm} {ys : List V} {o : HO} (h : AtP K H r as) (e : H D = some (.lst ys)) (n : r ≠ D) : AtP K (upd H D o) r as := by
  obtain ⟨qs, h1, h2⟩ := h
  exact ⟨qs, by rw [upd_ne n]; exact h1, ats_imp (tup_updL e) h2⟩
def sp_law_atoms (K : PySem.W.Frag) : Sp := sp3 fun a b x H Q => ∃ (st sc : Addr) (ns : List Int) (n : Int), a = .ref st ∧ b = .ref sc ∧ x = .int n ∧ 0 < n ∧ n ≤ 40 ∧ Dr K st sc ns H ∧
  ∀ (r : Addr) (as : List Atm) (H' : Hp), (∀ c ∈ as, goodC c) → noTwo as → 1 ≤ as.length → as.length ≤ 40 → Kp st H H' → Dr K st sc ns H' → H r = none → AtP K H' r as → Q (.ref r) H'
/-! ### texts as lists of code points -/
def tx (l : List Nat) : Str := ⟨l.toArray⟩
theorem cp_tx (l : List Nat) : cp (tx l) = l := by unfold tx; simp
theorem str_ext {a b : Str} (h : cp a = cp b) : a = b := by
  cases a
  cases b
  exact congrArg _ (Array.ext' h)
theorem tx_cp (z : Str) : tx (cp z) = z := str_ext (cp_tx _)
theorem cp_len (z : Str) : (cp z).length = z.length := Array.length_toList
theorem cp_app (a b : Str) : cp (a ++ b) = cp a ++ cp b := by
  show (a.cps ++ b.cps).toList = _
  simp
theorem cp_one (c : Nat) : cp (⟨#[c]⟩ : Str) = [c] := rfl
theorem cp_join0 : ∀ ys : List Str, cp (Txt.join ("" : Str) ys) = (ys.map cp).flatten
  | [] => by rw [TL.join_eq]; rfl
  | [x] => by
    rw [TL.join_eq]
    show cp x = _
    simp
  | x :: y :: r => by
    have ih := cp_join0 (y :: r)
    rw [TL.join_eq] at ih ⊢
    show cp (x ++ ("" : Str) ++ Str.join ("" : Str) (y :: r)) = _
    rw [cp_app, cp_app, ih]
    show cp x ++ [] ++ _ = _
    simp
theorem cp_ones (l : List Nat) : cp (Txt.join ("" : Str) (ones l)) = l := by
  rw [cp_join0]
  unfold ones
  rw [List.map_map]
  induction l with
  | nil => rfl
  | cons a l ih => rw [List.map_cons, List.flatten_cons, ih]; rfl
theorem cp_cut (z : Str) (lo hi : Nat) (h : lo ≤ (cp z).length) : cp (cutS z (some (lo : Int)) (some (hi : Int))) = ((cp z).drop lo).take (hi - lo) := by
  unfold cutS
  rw [HT.sIx_nat, HT.sIx_nat]
  have e : z.length = (cp z).length := (cp_len z).symm
  rw [e, Nat.min_eq_left h]
  show (((cp z).drop lo).take (min hi (cp z).length - lo)).toArray.toList = _
  rw [List.toList_toArray]
  by_cases h2 : hi ≤ (cp z).length
  · rw [Nat.min_eq_left h2]
  · rw [Nat.min_eq_right (by omega), List.take_of_length_le (by rw [List.length_drop]; exact Nat.le_refl _), List.take_of_length_le (by rw [List.length_drop]; omega)]
theorem okS_one {c : Nat} (h : c ∈ CH) : okS (⟨#[c]⟩ : Str) := ⟨List.singleton_sublist.mpr h, by rw [cp_one]; simp⟩
theorem pl0_NS : pl0 = NS := by decide +kernel
theorem okS_len {z : Str} (h : okS z) : 1 ≤ z.length ∧ z.length ≤ 67 := by
  rw [← cp_len]
  have h1 := h.1.length_le
  have h2 : CH.length = 67 := rfl
  refine ⟨?_, by omega⟩
  rcases Nat.eq_zero_or_pos (cp z).length with e | e
  · exact absurd (List.eq_nil_of_length_eq_zero e) h.2
  · exact e
theorem okS_cut {lo n : Int} (h0 : 0 ≤ lo) (h1 : lo < 67) (h2 : 0 ≤ n) : okS (cutS ("-./0123456789ABCDEFGHIJKLMNOPQRSTUVWXYZ_abcdefghijklmnopqrstuvwxyz~" : Str) (some lo) (some (lo + 1 + n))) := by
  obtain ⟨a, rfl⟩ := Int.eq_ofNat_of_zero_le h0
  obtain ⟨b, rfl⟩ := Int.eq_ofNat_of_zero_le h2
  have e : ((a : Int) + 1 + (b : Int)) = ((a + 1 + b : Nat) : Int) := by omega
  have hl : CH.length = 67 := rfl
  unfold okS
  rw [e, cp_cut _ _ _ (by show a ≤ CH.length; omega)]
  refine ⟨(List.take_sublist _ _).trans (List.drop_sublist _ _), fun z => ?_⟩
  have := congrArg List.length z
  rw [List.length_take, List.length_drop, List.length_nil] at this
  have e2 : (cp ("-./0123456789ABCDEFGHIJKLMNOPQRSTUVWXYZ_abcdefghijklmnopqrstuvwxyz~" : Str)).length = 67 := rfl
  omega
theorem tx_len (l : List Nat) : (tx l).length = l.length := by unfold tx; show l.toArray.size = _; simp
theorem tx_app (a b : List Nat) : tx a ++ tx b = tx (a ++ b) := str_ext (by rw [cp_app, cp_tx, cp_tx, cp_tx])
theorem tx_one (c : Nat) : (⟨#[c]⟩ : Str) = tx [c] := rfl
theorem sz_le {n : Nat} (h : n ≤ 1000000) : n ≤ sizeLine := Nat.le_trans h (by decide)
theorem cp_eq {z : Str} {l : List Nat} (h : cp z = l) : z = tx l := str_ext (by rw [h, cp_tx])
theorem one_len (c : Nat) : (⟨#[c]⟩ : Str).length = 1 := rfl
theorem sum_le3 {n : Nat} : ∀ {ps : List Str}, (∀ x ∈ ps, x.length ≤ n) → (ps.map (fun x => x.length)).sum ≤ n * ps.length
  | [], _ => Nat.zero_le _
  | x :: ps, h => by
    have h1 := h x (List.mem_cons_self ..)
    have h2 := sum_le3 (ps := ps) fun y hy => h y (List.mem_cons_of_mem _ hy)
    rw [List.map_cons, List.sum_cons, List.length_cons, Nat.mul_succ]
    omega
/-! ### how a set of characters is written -/
def fmtRun (r : List Nat) : List Nat := if r.length < 3 then r else [r.headD 0, 45, r.getLastD 0]
def itemsL : List Nat → List Nat → List Nat → List Nat
  | [], _, run => fmtRun run
  | c :: cs, S, run => if c ∈ S then itemsL cs S (run ++ [c]) else fmtRun run ++ itemsL cs S []
def fmtItems (S : List Nat) : List Nat := (if 45 ∈ S then [45] else []) ++ itemsL CH.tail S []
def fmtA (S : List Nat) (r : Bool) : List Nat :=
  if r = true then (if S = CH then [42, 42] else [42]) else if S = NS then [63] else if S.length = 1 then S else
  if 47 ∈ S ∨ S.length ≤ 33 then [91] ++ fmtItems S ++ [93] else [91, 33] ++ fmtItems (NS.filter fun c => decide (c ∉ S)) ++ [93]
theorem fmtRun_len (r : List Nat) : (fmtRun r).length ≤ 3 := by
  unfold fmtRun
  by_cases h : r.length < 3
  · rw [if_pos h]; omega
  · rw [if_neg h]; exact Nat.le_refl _
theorem items_len : ∀ (cs S run : List Nat), (itemsL cs S run).length ≤ 3 * cs.length + 3
  | [], S, run => by
    have := fmtRun_len run
    show (fmtRun run).length ≤ _
    simpa using this
  | c :: cs, S, run => by
    unfold itemsL
    by_cases h : c ∈ S
    · rw [if_pos h]
      have := items_len cs S (run ++ [c])
      rw [List.length_cons]
      omega
    · rw [if_neg h, List.length_append, List.length_cons]
      have := items_len cs S []
      have := fmtRun_len run
      omega
theorem fmtItems_len (S : List Nat) : (fmtItems S).length ≤ 300 := by
  unfold fmtItems
  rw [List.length_append]
  have h1 := items_len CH.tail S []
  have h2 : CH.tail.length = 66 := rfl
  have h3 : (if 45 ∈ S then [45] else ([] : List Nat)).length ≤ 1 := by split <;> decide
  omega
def sp_format_run (K : PySem.W.Frag) : Sp := sp1 fun x H Q => ∃ z : Str, x = .str z ∧ z.length ≤ 100 ∧ Q (.str (tx (fmtRun (cp z)))) H
def sp_format_items (K : PySem.W.Frag) : Sp := sp1 fun x H Q => ∃ z : Str, x = .str z ∧ z.length ≤ 100 ∧ ∀ H', Same H H' → Q (.str (tx (fmtItems (cp z)))) H'
def sp_format_atom (K : PySem.W.Frag) : Sp := sp2 fun x y H Q => ∃ (z : Str) (r : Bool), x = .str z ∧ y = .bl r ∧ z.length ≤ 100 ∧ ∀ H', Same H H' → Q (.str (tx (fmtA (cp z) r))) H'

/-- a row: its atoms, whether it is negated -/
def fmtRow (as : List Atm) : List Nat := (as.map fun c => fmtA (cp c.1) c.2).flatten
def fmtP (as : List Atm) (neg : Bool) : List Nat := (if neg = true then [33] else []) ++ fmtRow as
theorem fmtA_len (S : List Nat) (r : Bool) (h : S.length ≤ 100) : (fmtA S r).length ≤ 310 := by
  unfold fmtA
  have h1 := fmtItems_len S
  have h2 := fmtItems_len (NS.filter fun c => decide (c ∉ S))
  split
  · split <;> decide
  · split
    · decide
    · split
      · omega
      · split
        · rw [List.length_append, List.length_append]
          show 1 + _ + 1 ≤ 310
          omega
        · rw [List.length_append, List.length_append]
          show 2 + _ + 1 ≤ 310
          omega
theorem fmtRow_len : ∀ as : List Atm, (∀ c ∈ as, c.1.length ≤ 100) → (fmtRow as).length ≤ 310 * as.length
  | [], _ => Nat.zero_le _
  | c :: as, h => by
    have h1 := fmtA_len (cp c.1) c.2 (by rw [cp_len]; exact h c (List.mem_cons_self ..))
    have h2 := fmtRow_len as fun x hx => h x (List.mem_cons_of_mem _ hx)
    have e : fmtRow (c :: as) = fmtA (cp c.1) c.2 ++ fmtRow as := rfl
    rw [e, List.length_append, List.length_cons]
    omega
abbrev RowP := List Atm × Bool
def fmtAll : List RowP → List Nat
  | [] => []
  | [r] => fmtP r.1 r.2
  | r :: rs => fmtP r.1 r.2 ++ [10] ++ fmtAll rs
def sp_format_pattern (K : PySem.W.Frag) : Sp := sp1 fun x H Q => ∃ (a : Addr) (as : List Atm) (neg : Bool), x = .ref a ∧ PatA K H a as neg ∧ as.length ≤ 40 ∧ (∀ c ∈ as, c.1.length ≤ 100) ∧ ∀ H', Same H H' → Q (.str (tx (fmtP as neg))) H'
def sp_format_patterns (K : PySem.W.Frag) : Sp := sp1 fun x H Q => ∃ (a : Addr) (qs : List Addr) (rs : List RowP), x = .ref a ∧ SqL K H a (qs.map V.ref) ∧ Paired (fun q (r : RowP) => PatA K H q r.1 r.2) qs rs ∧ rs.length ≤ 20 ∧ (∀ r ∈ rs, r.1.length ≤ 40 ∧ ∀ c ∈ r.1, c.1.length ≤ 100) ∧ ∀ H', Same H H' → Q (.str (tx (fmtAll rs))) H'
theorem paired_length {α β : Type} {R : α → β → Prop} : ∀ {xs : List α} {ys : List β}, Paired R xs ys → xs.length = ys.length
  | _, _, .nil => rfl
  | _, _, .cons _ t => by rw [List.length_cons, List.length_cons, paired_length t]
theorem cp_joinN : ∀ {ys : List Str} {rs : List RowP}, ys.map cp = rs.map (fun r => fmtP r.1 r.2) → cp (Txt.join ("\n" : Str) ys) = fmtAll rs
  | [], [], _ => by rw [TL.join_eq]; rfl
  | [], r :: rs, h => by cases h
  | y :: ys, [], h => by cases h
  | [y], [r], h => by
    rw [TL.join_eq]
    exact (List.cons.inj h).1
  | [y], r :: r2 :: rs, h => by
    have := congrArg List.length h
    simp at this
  | y :: y2 :: ys, [r], h => by
    have := congrArg List.length h
    simp at this
  | y :: y2 :: ys, r :: r2 :: rs, h => by
    have ih := cp_joinN (ys := y2 :: ys) (rs := r2 :: rs) (List.cons.inj h).2
    rw [TL.join_eq] at ih ⊢
    show cp (y ++ ("\n" : Str) ++ Str.join ("\n" : Str) (y2 :: ys)) = _
    rw [cp_app, cp_app, ih, (List.cons.inj h).1]
    rfl
/-! ### the law's writer -/
def itemsX : List Nat → List Nat → List Nat → List Nat
  | [], _, _ => []
  | c :: cs, S, run => if c ∈ S then itemsX cs S (run ++ [c]) else fmtRun run ++ itemsX cs S []
theorem itemsX_eq {S : List Nat} (h : 32 ∉ S) : ∀ (cs run : List Nat), itemsX (cs ++ [32]) S run = itemsL cs S run
  | [], run => by
    show itemsX [32] S run = fmtRun run
    unfold itemsX
    rw [if_neg h]
    show fmtRun run ++ [] = _
    rw [List.append_nil]
  | c :: cs, run => by
    show itemsX (c :: (cs ++ [32])) S run = _
    unfold itemsX itemsL
    by_cases hc : c ∈ S
    · rw [if_pos hc, if_pos hc, itemsX_eq h]
    · rw [if_neg hc, if_neg hc, itemsX_eq h]
theorem NS_nd : NS.Nodup := by decide +kernel
theorem NS_of {S : List Nat} (h : S.Sublist CH) (n : 47 ∉ S) : S.Sublist NS := by
  have h1 := h.filter fun c => decide (c ≠ 47)
  have e : S.filter (fun c => decide (c ≠ 47)) = S := List.filter_eq_self.mpr fun c hc => decide_eq_true fun e => n (by rw [← e]; exact hc)
  rw [e] at h1
  exact h1
theorem others_eq (S : List Nat) : (CH.filter fun c => decide (c ∉ S) && decide (c ≠ 47)) = NS.filter fun c => decide (c ∉ S) := by
  unfold NS
  rw [List.filter_filter]
theorem NS_iff {S : List Nat} (h : S.Sublist CH) : ((NS.filter fun c => decide (c ∉ S)) = [] ∧ 47 ∉ S) ↔ S = NS := by
  constructor
  · rintro ⟨h1, h2⟩
    refine (NS_of h h2).eq_of_length_le (List.Nodup.length_le_of_subset NS_nd fun c hc => ?_)
    have := List.filter_eq_nil_iff.mp h1 c hc
    simpa using this
  · rintro rfl
    exact ⟨List.filter_eq_nil_iff.mpr fun c hc => by simp [hc], by decide +kernel⟩
theorem sp32 {z : Str} (h : okS z) : 32 ∉ cp z := fun m => absurd (h.1.subset m) (by decide +kernel)
def sp_law_items (K : PySem.W.Frag) : Sp := sp1 fun x H Q => ∃ z : Str, x = .str z ∧ 32 ∉ cp z ∧ z.length ≤ 100 ∧ Q (.str (tx (fmtItems (cp z)))) H
def sp_law_written (K : PySem.W.Frag) : Sp := sp1 fun x H Q => ∃ (a : Addr) (c : Atm), x = .ref a ∧ SqT K H a [.str c.1, .bl c.2] ∧ goodC c ∧ ∀ H', Same H H' → Q (.str (tx (fmtA (cp c.1) c.2))) H'
/-! ### text.find(one sign, from, to) -/
theorem rng_split {a n k : Nat} {pre post : List Nat} (h : List.range' a n = pre ++ k :: post) {i : Nat} (h1 : a ≤ i) (h2 : i < k) : i ∈ pre := by
  have hk : k ∈ List.range' a n := by rw [h]; simp
  have hi : i ∈ List.range' a n := by
    rw [List.mem_range'_1] at hk ⊢
    omega
  have hp := List.pairwise_lt_range' (s := a) (n := n)
  rw [h] at hp hi
  rcases List.mem_append.mp hi with m | m
  · exact m
  · rcases List.mem_cons.mp m with m | m
    · omega
    · have h3 := (List.pairwise_append.mp hp).2.1
      have := (List.pairwise_cons.mp h3).1 i m
      omega
theorem find_in (z : Str) (c a e : Nat) (he : e ≤ (cp z).length) :
    (Txt.findIn z ⟨#[c]⟩ a e = -1 ∧ ∀ i, a ≤ i → i < e → (cp z)[i]? ≠ some c) ∨ ∃ k : Nat, Txt.findIn z ⟨#[c]⟩ a e = k ∧ a ≤ k ∧ k < e ∧ (cp z)[k]? = some c ∧ ∀ i, a ≤ i → i < k → (cp z)[i]? ≠ some c := by
  have hl := cp_len z
  have e1 : PySem.fromIndex z.length (a : Int) = a := by
    unfold PySem.fromIndex
    rw [if_neg (by omega)]
    omega
  have e2 : PySem.toIndexW z.length (e : Int) = e := by
    unfold PySem.toIndexW
    rw [if_neg (by omega)]
    omega
  unfold Txt.findIn
  rw [e1, e2, PySem.StrLaws.occ_eq]
  have at1 : ∀ {i}, PySem.StrLaws.At z ⟨#[c]⟩ e i ↔ (i < e ∧ (cp z)[i]? = some c) := by
    intro i
    unfold PySem.StrLaws.At
    rw [← PySem.StrLaws.subAt_one]
    show (i + 1 ≤ e ∧ _) ↔ (i < e ∧ i + 1 ≤ z.length ∧ _)
    constructor
    · rintro ⟨h1, h2⟩
      exact ⟨by omega, by omega, h2⟩
    · rintro ⟨h1, h2, h3⟩
      exact ⟨by omega, h3⟩
  rcases PySem.StrLaws.occ_first z ⟨#[c]⟩ e 1 (Nat.le_refl _) (List.range' a (e + 1 - a)) a (fun i hi => by rw [List.mem_range'_1] at hi; omega) with ⟨h0, hn⟩ | ⟨pre, k, post, ee, h0, ha, hn⟩
  · refine .inl ⟨by rw [h0], fun i h1 h2 h3 => hn i ?_ (at1.mpr ⟨h2, h3⟩)⟩
    rw [List.mem_range'_1]
    omega
  · have hk : k ∈ List.range' a (e + 1 - a) := by rw [ee]; simp
    rw [List.mem_range'_1] at hk
    obtain ⟨k1, k2⟩ := at1.mp ha
    refine .inr ⟨k, ?_, by omega, k1, k2, fun i h1 h2 h3 => hn i (rng_split ee h1 h2) (at1.mpr ⟨by omega, h3⟩)⟩
    generalize (forIn (List.range' a (e + 1 - a)) ((#[] : Array Nat), a) (PySem.StrLaws.occBody z ⟨#[c]⟩ e 1)).run.fst = arr at h0 ⊢
    have h1 : arr.toList[0]? = some k := by simpa using h0
    cases hL : arr.toList with
    | nil => rw [hL] at h1; cases h1
    | cons b t => rw [hL] at h1; simp at h1; rw [h1]
/-! ### how a text is read -/
def itm (c : Nat) : Bool := decide (c ∈ CH) && decide (c ≠ 45)
def rngC (lo hi : Nat) : List Nat := CH.filter fun c => decide (lo ≤ c) && decide (c ≤ hi)
def pre1 (L : List Nat) : Except Nat (List Nat) → Except Nat (List Nat)
  | .ok M => .ok (L ++ M)
  | .error e => .error e
/-- what stands between the brackets, from a place on; the text goes on with ] -/
def rdI : List Nat → Nat → Except Nat (List Nat)
  | [], _ => .ok []
  | [low], a => if itm low = true then .ok [low] else .error a
  | low :: c :: rest, a =>
    if itm low = false then .error a else if c ≠ 45 then pre1 [low] (rdI (c :: rest) (a + 1)) else
    match rest with
    | [] => .error (a + 2)
    | high :: r => if itm high = true ∧ low < high then pre1 (rngC low high) (rdI r (a + 3)) else .error (a + 2)
def rdItems : List Nat → Nat → Except Nat (List Nat)
  | 45 :: r, a => pre1 [45] (rdI r (a + 1))
  | b, a => rdI b a
theorem pre1_ok {L M : List Nat} : pre1 L (.ok M) = .ok (L ++ M) := rfl
theorem pre1_pre1 (L M : List Nat) (r : Except Nat (List Nat)) : pre1 L (pre1 M r) = pre1 (L ++ M) r := by
  cases r with
  | ok X => show Except.ok (L ++ (M ++ X)) = .ok (L ++ M ++ X); rw [List.append_assoc]
  | error e => rfl
theorem pre1_nil (r : Except Nat (List Nat)) : pre1 [] r = r := by
  cases r <;> rfl
abbrev cIP (K : PySem.W.Frag) : Addr := He.ga K "InvalidPattern"
theorem rdI_bad {c a : Nat} (h : itm c = false) : ∀ R : List Nat, rdI (c :: R) a = .error a
  | [] => by unfold rdI; rw [if_neg (by rw [h]; decide)]
  | x :: R => by unfold rdI; rw [if_pos h]
theorem rdI_one {c a : Nat} (h : itm c = true) : ∀ {R : List Nat}, (∀ x R', R = x :: R' → x ≠ 45) → rdI (c :: R) a = pre1 [c] (rdI R (a + 1))
  | [], _ => by
    unfold rdI
    rw [if_pos h]
    rfl
  | x :: R, n => by
    have n := n x R rfl
    conv => lhs; unfold rdI
    rw [if_neg (by rw [h]; decide), if_pos n]
theorem rdI_end {c a : Nat} (h : itm c = true) : rdI [c, 45] a = .error (a + 2) := by
  unfold rdI
  rw [if_neg (by rw [h]; decide), if_neg (by decide)]
theorem rdI_rng {c a hh : Nat} {r : List Nat} (h : itm c = true) : rdI (c :: 45 :: hh :: r) a = if itm hh = true ∧ c < hh then pre1 (rngC c hh) (rdI r (a + 3)) else .error (a + 2) := by
  conv => lhs; unfold rdI
  rw [if_neg (by rw [h]; decide), if_neg (by decide)]
/-- a dict whose keys are these characters -/
def Ks (H : Hp) (d : Addr) (L : List Nat) : Prop := ∃ kvs : List (Key × V), H d = some (.dK kvs) ∧ (kvs.map (·.1)).Nodup ∧ (∀ k ∈ kvs.map (·.1), ∃ c ∈ CH, k = Sum.inr (⟨#[c]⟩ : Str)) ∧ (∀ c ∈ L, c ∈ CH) ∧ ∀ c : Nat, (valV kvs (Sum.inr (⟨#[c]⟩ : Str))).isSome = decide (c ∈ L)
theorem one_inj {a b : Nat} (h : (⟨#[a]⟩ : Str) = ⟨#[b]⟩) : a = b := by
  have := congrArg cp h
  exact (List.cons.inj this).1
theorem one_dec {a b : Nat} {s : Str} (h : cp s = [b]) : decide ((⟨#[a]⟩ : Str) = s) = decide (a = b) := by
  have e : s = ⟨#[b]⟩ := str_ext (by rw [h])
  rw [e]
  exact decide_eq_decide.mpr ⟨one_inj, fun h => by rw [h]⟩
theorem one_lt (a b : Nat) : decide (([a] : List Nat) < [b]) = decide (a < b) := by
  refine decide_eq_decide.mpr ?_
  rw [List.cons_lt_cons_iff]
  constructor
  · rintro (h | ⟨_, h⟩)
    · exact h
    · exact absurd h (by simp)
  · exact .inl
theorem Ks.new {H : Hp} {d : Addr} : Ks (upd H d (.dK [])) d [] := ⟨[], upd_same, List.nodup_nil, fun k h => (nomatch h), fun c h => (nomatch h), fun c => rfl⟩
theorem keys_putK {kvs : List (Key × V)} {k : Key} {v : V} : (k ∈ kvs.map (·.1) ∧ (putK kvs k v).map (·.1) = kvs.map (·.1)) ∨ (¬ k ∈ kvs.map (·.1) ∧ (putK kvs k v).map (·.1) = kvs.map (·.1) ++ [k]) := by
  unfold putK
  by_cases ha : (kvs.any fun kv => decide (kv.1 = k)) = true
  · refine .inl ⟨?_, ?_⟩
    · obtain ⟨x, hx, e⟩ := List.any_eq_true.mp ha
      exact List.mem_map.mpr ⟨x, hx, of_decide_eq_true e⟩
    · rw [if_pos ha, List.map_map]
      refine List.map_congr_left fun x _ => ?_
      show (if x.1 = k then (x.1, v) else x).1 = x.1
      split <;> rfl
  · refine .inr ⟨fun h => ?_, ?_⟩
    · obtain ⟨x, hx, e⟩ := List.mem_map.mp h
      exact ha (List.any_eq_true.mpr ⟨x, hx, decide_eq_true e⟩)
    · rw [if_neg ha, List.map_append]
      rfl
theorem Ks.len {H : Hp} {d : Addr} {L : List Nat} (h : Ks H d L) : ∃ kvs, H d = some (.dK kvs) ∧ kvs.length ≤ 67 := by
  obtain ⟨kvs, h1, h2, h3, h4, h5⟩ := h
  refine ⟨kvs, h1, ?_⟩
  have := List.Nodup.length_le_of_subset h2 (l₂ := CH.map fun c => (Sum.inr (⟨#[c]⟩ : Str) : Key)) fun k hk => by
    obtain ⟨c, hc, rfl⟩ := h3 k hk
    exact List.mem_map.mpr ⟨c, hc, rfl⟩
  rw [List.length_map, List.length_map] at this
  exact this
theorem Ks.put {H : Hp} {d : Addr} {L : List Nat} (h : Ks H d L) {c : Nat} (hc : c ∈ CH) (v : V) : ∃ o, DPut H d (.str ⟨#[c]⟩) v (upd H d o) ∧ Ks (upd H d o) d (L ++ [c]) := by
  obtain ⟨kvs', l1, l2⟩ := h.len
  obtain ⟨kvs, h1, h2, h3, h4, h5⟩ := h
  have e : kvs' = kvs := by rw [h1] at l1; cases l1; rfl
  subst e
  refine ⟨_, DPut.k (k := Sum.inr (⟨#[c]⟩ : Str)) h1 (small l2 (by decide)), _, upd_same, ?_, ?_, ?_, ?_⟩
  · rcases keys_putK (kvs := kvs') (k := Sum.inr (⟨#[c]⟩ : Str)) (v := v) with ⟨h, e⟩ | ⟨h, e⟩ <;> rw [e]
    · exact h2
    · refine List.nodup_append.mpr ⟨h2, List.nodup_cons.mpr ⟨by simp, List.nodup_nil⟩, ?_⟩
      intro a ha b hb e
      rw [List.mem_singleton.mp hb] at e
      exact h (e ▸ ha)
  · rcases keys_putK (kvs := kvs') (k := Sum.inr (⟨#[c]⟩ : Str)) (v := v) with ⟨h, e⟩ | ⟨h, e⟩ <;> rw [e]
    · exact h3
    · intro k hk
      rcases List.mem_append.mp hk with hk | hk
      · exact h3 k hk
      · exact ⟨c, hc, List.mem_singleton.mp hk⟩
  · intro x hx
    rcases List.mem_append.mp hx with hx | hx
    · exact h4 x hx
    · rw [List.mem_singleton.mp hx]; exact hc
  · intro x
    rw [valV_put]
    have hi := one_inj (a := x) (b := c)
    by_cases e : x = c
    · subst e
      rw [if_pos rfl]
      simp
    · rw [if_neg (fun q => e (hi (by simpa using q))), h5]
      refine decide_eq_decide.mpr ?_
      rw [List.mem_append, List.mem_singleton]
      exact ⟨.inl, fun h => h.elim id fun q => absurd q e⟩
theorem Ks.mono {H : Hp} {d : Addr} {L L' : List Nat} (h : Ks H d L) (e : ∀ c, c ∈ L' ↔ c ∈ L) : Ks H d L' := by
  obtain ⟨kvs, h1, h2, h3, h4, h5⟩ := h
  exact ⟨kvs, h1, h2, h3, fun c hc => h4 c ((e c).mp hc), fun c => by rw [h5]; exact decide_eq_decide.mpr (e c).symm⟩
theorem Ks.same {H H' : Hp} {d : Addr} {L : List Nat} (h : Ks H d L) (s : Same H H') : Ks H' d L := by
  obtain ⟨kvs, h1, h2⟩ := h
  exact ⟨kvs, s _ _ h1, h2⟩
theorem tk_drop {l : List Nat} {cl i : Nat} (hi : i < cl) {y : Nat} (hcl : l[cl]? = some y) : ∃ c, l[i]? = some c ∧ (l.take cl).drop i = c :: (l.take cl).drop (i + 1) := by
  have h1 := (List.getElem?_eq_some_iff.mp hcl).1
  refine ⟨l[i], List.getElem?_eq_getElem (by omega), ?_⟩
  have h2 : i < (l.take cl).length := by rw [List.length_take]; omega
  rw [List.drop_eq_getElem_cons h2, List.getElem_take]
theorem tk_end {l : List Nat} {cl : Nat} : (l.take cl).drop cl = [] := List.drop_eq_nil_of_le (by rw [List.length_take]; omega)
theorem itm_CH {c : Nat} (h : itm c = true) : c ∈ CH := by
  unfold itm at h
  exact of_decide_eq_true (Bool.and_eq_true_iff.mp h).1
theorem itm_ne {c : Nat} (h : itm c = true) : c ≠ 45 := by
  unfold itm at h
  exact of_decide_eq_true (Bool.and_eq_true_iff.mp h).2
def sp_is_item (K : PySem.W.Frag) : Sp := sp1 fun x H Q => ∃ c : Nat, x = .str ⟨#[c]⟩ ∧ Q (.bl (itm c)) H
def sp_read_items (K : PySem.W.Frag) : Sp := fun vs H Q E => ∃ x0 x1 x2, vs = [x0, x1, x2] ∧ ∃ (z : Str) (a cl : Nat), x0 = .str z ∧ x1 = .int a ∧ x2 = .int cl ∧ a ≤ cl ∧ (cp z)[cl]? = some 93 ∧ z.length ≤ 1000000 ∧
  (∀ (L : List Nat) (d : Addr) (H' : Hp), rdItems (((cp z).take cl).drop a) a = .ok L → Same H H' → Ks H' d L → Q (.ref d) H') ∧
  (∀ (e : Nat) (d : Addr) (H' : Hp), rdItems (((cp z).take cl).drop a) a = .error e → Same H H' → H' d = none → E (.ref (cIP K)) (some d) (upd H' d (.xd [(("place" : Str), .int e)])))
theorem tk_drop2 {l : List Nat} {e i : Nat} (hi : i < e) (he : e ≤ l.length) : ∃ c, l[i]? = some c ∧ (l.take e).drop i = c :: (l.take e).drop (i + 1) := by
  refine ⟨l[i], List.getElem?_eq_getElem (by omega), ?_⟩
  have h2 : i < (l.take e).length := by rw [List.length_take]; omega
  rw [List.drop_eq_getElem_cons h2, List.getElem_take]
theorem while_at {l : List Nat} {e k : Nat} (he : e ≤ l.length) (hk : k < e) (h9 : l[k]? = some 93) : ∀ (m a : Nat), a + m = k → (∀ i, a ≤ i → i < k → l[i]? ≠ some 93) →
    ((l.take e).drop a).takeWhile (fun c => decide (c ≠ 93)) = (l.take k).drop a ∧ ((l.take e).drop a).dropWhile (fun c => decide (c ≠ 93)) = 93 :: (l.take e).drop (k + 1)
  | 0, a, h, hn => by
    have h : a = k := by omega
    subst h
    obtain ⟨c, h1, h2⟩ := tk_drop2 hk he
    rw [h9] at h1
    cases h1
    rw [h2, tk_end]
    exact ⟨rfl, rfl⟩
  | m + 1, a, h, hn => by
    obtain ⟨c, h1, h2⟩ := tk_drop2 (i := a) (e := e) (by omega) he
    obtain ⟨c', h3, h4⟩ := tk_drop2 (l := l) (i := a) (e := k) (by omega) (by omega)
    rw [h1] at h3
    cases h3
    have hc : c ≠ 93 := fun q => hn a (Nat.le_refl _) (by omega) (by rw [h1, q])
    obtain ⟨i1, i2⟩ := while_at he hk h9 m (a + 1) (by omega) fun i p q => hn i (by omega) q
    rw [h2, h4, List.takeWhile_cons_of_pos (by simpa using hc), List.dropWhile_cons_of_pos (by simpa using hc), i1, i2]
    exact ⟨rfl, rfl⟩
theorem not_mem_at {l : List Nat} {e a c : Nat} (hn : ∀ i, a ≤ i → i < e → l[i]? ≠ some c) : c ∉ (l.take e).drop a := by
  intro h
  obtain ⟨i, hi⟩ := List.mem_iff_getElem?.mp h
  rw [List.getElem?_drop, List.getElem?_take] at hi
  by_cases q : a + i < e
  · rw [if_pos q] at hi
    exact hn _ (by omega) q hi
  · rw [if_neg q] at hi; cases hi
theorem Ks.get {H : Hp} {d : Addr} {L : List Nat} (h : Ks H d L) (c : Nat) : ∃ o, DGet H d (.str ⟨#[c]⟩) o ∧ o.isSome = decide (c ∈ L) := by
  obtain ⟨kvs, h1, h2, h3, h4, h5⟩ := h
  exact ⟨_, DGet.k (k := Sum.inr (⟨#[c]⟩ : Str)) h1, h5 c⟩
/-- a set in brackets: what stands behind [; the characters and what stands behind ] -/
def rdSet (R : List Nat) (a : Nat) : Except Nat ((List Nat × Bool) × List Nat) :=
  if 93 ∉ R then .error a else
  let b := R.takeWhile (fun c => decide (c ≠ 93))
  let rest := (R.dropWhile (fun c => decide (c ≠ 93))).tail
  if b.head? = some 33 then
    match rdItems b.tail (a + 2) with
    | .error e => .error e
    | .ok L => if (NS.filter fun c => decide (c ∉ L)) = [] then .error a else .ok ((NS.filter fun c => decide (c ∉ L), false), rest)
  else
    match rdItems b (a + 1) with
    | .error e => .error e
    | .ok L => if (CH.filter fun c => decide (c ∈ L)) = [] then .error a else .ok ((CH.filter fun c => decide (c ∈ L), false), rest)
def rdAtom : List Nat → Nat → Except Nat ((List Nat × Bool) × List Nat)
  | [], a => .error a
  | c :: r, a => if c = 42 then (if r.head? = some 42 then .ok ((CH, true), r.tail) else .ok ((NS, true), r)) else if c = 63 then .ok ((NS, false), r) else if c = 91 then rdSet r a else
    if c ∈ CH then .ok (([c], false), r) else .error a
/-- the promise of a reader of an atom, from a on, in the line up to e -/
def AtmQ (K : PySem.W.Frag) (z : Str) (a e : Nat) (H : Hp) (r : Except Nat ((List Nat × Bool) × List Nat)) (Q : VK) (E : XK) : Prop :=
  (∀ (S : List Nat) (b : Bool) (j : Nat) (p q : Addr) (H' : Hp), r = .ok ((S, b), ((cp z).take e).drop j) → a < j → j ≤ e → Same H H' → SqT K H' p [.ref q, .int j] → SqT K H' q [.str (tx S), .bl b] → Q (.ref p) H') ∧
  (∀ (i : Nat) (d : Addr) (H' : Hp), r = .error i → Same H H' → H' d = none → E (.ref (cIP K)) (some d) (upd H' d (.xd [(("place" : Str), .int i)])))
theorem AtmQ.fin {K : PySem.W.Frag} {z : Str} {a e : Nat} {H H1 : Hp} {r : Except Nat ((List Nat × Bool) × List Nat)} {Q : VK} {E : XK} (h : AtmQ K z a e H r Q E) {S : List Nat} {b : Bool} {j : Nat} {p1 p2 : Addr} {w : Str} {i : Int}
    (hr : r = .ok ((S, b), ((cp z).take e).drop j)) (h1 : a < j) (h2 : j ≤ e) (s : Same H H1) (hp1 : H1 p1 = none) (hp2 : upd H1 p1 (.tup [.str w, .bl b]) p2 = none) (hw : cp w = S) (hi : i = (j : Int)) :
    Q (.ref p2) (upd (upd H1 p1 (.tup [.str w, .bl b])) p2 (.tup [.ref p1, .int i])) := by
  subst hi
  rw [cp_eq hw] at hp2 ⊢
  refine h.1 S b j p2 p1 _ hr h1 h2 (s.trans ((same_new hp1).trans (same_new hp2))) (SqT.of upd_same) (SqT.of ?_)
  refine same_new hp2 _ _ upd_same
theorem two_stars {z : Str} {a e c : Nat} (hae : a < e) (hel : e ≤ (cp z).length) (h42 : (cp z)[e]? ≠ some 42) (hc : (cp z)[a]? = some c) :
    decide (cutS z (some (a : Int)) (some ((a : Int) + 2)) = ("**" : Str)) = decide (c = 42 ∧ (((cp z).take e).drop (a + 1)).head? = some 42) := by
  refine decide_eq_decide.mpr ?_
  have e1 : (a : Int) + 2 = ((a + 2 : Nat) : Int) := by omega
  have hl : a < (cp z).length := by omega
  have hcc := List.getElem?_eq_some_iff.mp hc
  obtain ⟨h0, hcc⟩ := hcc
  have e2 : cp (cutS z (some (a : Int)) (some ((a : Int) + 2))) = c :: (((cp z).drop (a + 1)).take 1) := by
    rw [e1, cp_cut _ _ _ (by omega), List.drop_eq_getElem_cons hl, hcc]
    have e3 : a + 2 - a = 1 + 1 := by omega
    rw [e3, List.take_succ_cons]
  have e4 : ((((cp z).take e).drop (a + 1)).head? = some 42) ↔ ((cp z).drop (a + 1)).take 1 = [42] := by
    have q1 : ((cp z).drop (a + 1)).take 1 = [42] ↔ (cp z)[a + 1]? = some 42 := by
      rw [← List.head?_drop]
      cases (cp z).drop (a + 1) with
      | nil => simp
      | cons x r => simp
    rw [q1, List.head?_drop, List.getElem?_take]
    by_cases q : a + 1 < e
    · rw [if_pos q]
    · have q : a + 1 = e := by omega
      rw [if_neg (by omega), q]
      exact ⟨fun h => (nomatch h), fun h => absurd h h42⟩
  constructor
  · intro h
    have h := congrArg cp h
    rw [e2] at h
    have h9 : c :: (((cp z).drop (a + 1)).take 1) = [42, 42] := h
    injection h9 with h7 h8
    exact ⟨h7, e4.mpr h8⟩
  · rintro ⟨h1, h2⟩
    refine str_ext ?_
    rw [e2, h1, e4.mp h2]
    rfl
def sp_read_set (K : PySem.W.Frag) : Sp := fun vs H Q E => ∃ x0 x1 x2, vs = [x0, x1, x2] ∧ ∃ (z : Str) (a e : Nat), x0 = .str z ∧ x1 = .int a ∧ x2 = .int e ∧ a < e ∧ e ≤ (cp z).length ∧ (cp z)[a]? = some 91 ∧ z.length ≤ 1000000 ∧ AtmQ K z a e H (rdSet (((cp z).take e).drop (a + 1)) a) Q E
def sp_read_atom (K : PySem.W.Frag) : Sp := fun vs H Q E => ∃ x0 x1 x2, vs = [x0, x1, x2] ∧ ∃ (z : Str) (a e : Nat), x0 = .str z ∧ x1 = .int a ∧ x2 = .int e ∧ a < e ∧ e ≤ (cp z).length ∧ (cp z)[e]? ≠ some 42 ∧ z.length ≤ 1000000 ∧ AtmQ K z a e H (rdAtom (((cp z).take e).drop a) a) Q E
abbrev PA := List Nat × Bool
def lastRep (acc : List PA) : Bool := (acc.getLast?.map (·.2)).getD false
def rdAtoms : Nat → List Nat → Nat → List PA → Except Nat (List PA)
  | 0, _, _, acc => .ok acc
  | _ + 1, [], _, acc => .ok acc
  | n + 1, c :: r, a, acc => match rdAtom (c :: r) a with
    | .error e => .error e
    | .ok (p, rest) => if acc.length = 40 ∨ (p.2 = true ∧ lastRep acc = true) then .error a else rdAtoms n rest (a + ((c :: r).length - rest.length)) (acc ++ [p])
def negd (neg : Bool) : Except Nat (List PA) → Except Nat (List PA × Bool)
  | .ok as => .ok (as, neg)
  | .error e => .error e
def rdPat (R : List Nat) (a : Nat) : Except Nat (List PA × Bool) :=
  if R.head? = some 33 then (if R.tail = [] then .error (a + 1) else negd true (rdAtoms R.tail.length R.tail (a + 1) [])) else negd false (rdAtoms R.length R a [])
theorem rdPat_cons {c a : Nat} {r : List Nat} : rdPat (c :: r) a = if c = 33 then (if r = [] then .error (a + 1) else negd true (rdAtoms r.length r (a + 1) [])) else negd false (rdAtoms (c :: r).length (c :: r) a []) := by
  unfold rdPat
  by_cases h : c = 33
  · rw [if_pos (by simp [h]), if_pos h]
    rfl
  · rw [if_neg (by simp [h]), if_neg h]
theorem rdAtoms_nil (n i : Nat) (acc : List PA) : rdAtoms n [] i acc = .ok acc := by cases n <;> rfl
theorem rdAtoms_err {n c i e : Nat} {r : List Nat} {acc : List PA} (h : rdAtom (c :: r) i = .error e) : rdAtoms (n + 1) (c :: r) i acc = .error e := by
  unfold rdAtoms
  rw [h]
theorem rdAtoms_ok {n c i : Nat} {r rest : List Nat} {acc : List PA} {p : PA} (h : rdAtom (c :: r) i = .ok (p, rest)) : rdAtoms (n + 1) (c :: r) i acc = if acc.length = 40 ∨ (p.2 = true ∧ lastRep acc = true) then .error i else rdAtoms n rest (i + ((c :: r).length - rest.length)) (acc ++ [p]) := by
  conv => lhs; unfold rdAtoms
  rw [h]
/-- the atoms as the program holds them -/
def ats (as : List PA) : List Atm := as.map fun c => (tx c.1, c.2)
theorem sqt_lst {K : PySem.W.Frag} {H : Hp} {D x : Addr} {l xs : List V} {o : HO} (e : H D = some (.lst l)) (h : SqT K H x xs) : SqT K (upd H D o) x xs := by
  rcases h with (h | ⟨o', h⟩) | h
  · exact .inl (.inl (by rw [upd_ne (fun z => by rw [z, e] at h; cases h)]; exact h))
  · exact .inl (.inr ⟨o', by rw [upd_ne (fun z => by rw [z, e] at h; cases h)]; exact h⟩)
  · exact .inr h
theorem ats_lst {K : PySem.W.Frag} {H : Hp} {D : Addr} {l : List V} {o : HO} {as : List Atm} (e : H D = some (.lst l)) {qs : List Addr} (h : Ats K H qs as) : Ats K (upd H D o) qs as := ats_imp (sqt_lst e) h
def sp_read_pattern (K : PySem.W.Frag) : Sp := fun vs H Q E => ∃ x0 x1 x2, vs = [x0, x1, x2] ∧ ∃ (z : Str) (a e : Nat), x0 = .str z ∧ x1 = .int a ∧ x2 = .int e ∧ a < e ∧ e ≤ (cp z).length ∧ (cp z)[e]? ≠ some 42 ∧ z.length ≤ 1000000 ∧
  (∀ (as : List PA) (neg : Bool) (p : Addr) (H' : Hp), rdPat (((cp z).take e).drop a) a = .ok (as, neg) → Same H H' → PatA K H' p (ats as) neg → Q (.ref p) H') ∧
  (∀ (i : Nat) (d : Addr) (H' : Hp), rdPat (((cp z).take e).drop a) a = .error i → Same H H' → H' d = none → E (.ref (cIP K)) (some d) (upd H' d (.xd [(("place" : Str), .int i)])))
/-! ### the lines of a text -/
def lns : List Nat → List (List Nat)
  | [] => [[]]
  | c :: r => if c = 10 then [] :: lns r else match lns r with
    | h :: t => (c :: h) :: t
    | [] => [[c]]
def joinN : List (List Nat) → List Nat
  | [] => []
  | [x] => x
  | x :: y :: r => x ++ [10] ++ joinN (y :: r)
theorem joinN_cons {x : List Nat} : ∀ {r : List (List Nat)}, r ≠ [] → joinN (x :: r) = x ++ [10] ++ joinN r
  | [], h => absurd rfl h
  | _ :: _, _ => rfl
theorem lns_ne : ∀ l : List Nat, lns l ≠ []
  | [] => by unfold lns; simp
  | c :: r => by
    unfold lns
    by_cases h : c = 10
    · rw [if_pos h]; simp
    · rw [if_neg h]
      cases lns r <;> simp
theorem lns_10 (r : List Nat) : lns (10 :: r) = [] :: lns r := by
  conv => lhs; unfold lns
  rw [if_pos rfl]
theorem lns_c {c : Nat} {r h : List Nat} {t : List (List Nat)} (hc : c ≠ 10) (e : lns r = h :: t) : lns (c :: r) = (c :: h) :: t := by
  conv => lhs; unfold lns
  rw [if_neg hc, e]
theorem join_lns : ∀ l : List Nat, joinN (lns l) = l
  | [] => rfl
  | c :: r => by
    have ih := join_lns r
    by_cases h : c = 10
    · rw [h, lns_10, joinN_cons (lns_ne r), ih]
      rfl
    · cases e : lns r with
      | nil => exact absurd e (lns_ne r)
      | cons x t =>
        rw [lns_c h e]
        rw [e] at ih
        cases t with
        | nil =>
          show c :: x = c :: r
          rw [show x = r from ih]
        | cons y t =>
          show (c :: x) ++ [10] ++ joinN (y :: t) = c :: r
          have ih : x ++ [10] ++ joinN (y :: t) = r := ih
          rw [← ih]
          rfl
theorem spl_lns : ∀ (l acc : List Nat), TL.spl [10] 0 acc l = (acc ++ (lns l).headD []) :: (lns l).tail
  | [], acc => by
    rw [TL.spl_nil]
    show [acc] = [acc ++ []]
    rw [List.append_nil]
  | c :: r, acc => by
    by_cases h : c = 10
    · subst h
      rw [TL.spl_hit (show TL.pre [10] (10 :: r) = true from TL.pre_self [10] r), lns_10]
      show acc :: TL.spl [10] 0 [] r = (acc ++ []) :: lns r
      rw [spl_lns r [], List.append_nil]
      cases e : lns r with
      | nil => exact absurd e (lns_ne r)
      | cons x t => rfl
    · rw [TL.spl_miss (TL.pre_of_head [] r h), spl_lns r]
      cases e : lns r with
      | nil => exact absurd e (lns_ne r)
      | cons x t =>
        rw [lns_c h e]
        show (acc ++ [c] ++ x) :: t = (acc ++ (c :: x)) :: t
        rw [List.append_assoc]
        rfl
theorem split_lns (z : Str) : (Txt.split z ("\n" : Str)).map cp = lns (cp z) := by
  have h := TL.split_spl z ("\n" : Str) (by decide) (TL.kind_ok (by decide +kernel))
  have e : TL.tl ("\n" : Str) = [10] := rfl
  rw [e, spl_lns] at h
  show (Txt.split z ("\n" : Str)).map TL.tl = _
  rw [h]
  show ([] ++ (lns (cp z)).headD []) :: (lns (cp z)).tail = lns (cp z)
  cases e : lns (cp z) with
  | nil => exact absurd e (lns_ne _)
  | cons x t => rfl
theorem join_drop : ∀ (pre : List (List Nat)) {post : List (List Nat)}, post ≠ [] → (joinN (pre ++ post)).drop ((pre.map fun x => x.length + 1).sum) = joinN post
  | [], post, h => rfl
  | x :: pre, post, h => by
    rw [List.cons_append, joinN_cons (by cases pre; exact h; simp), List.map_cons, List.sum_cons]
    rw [show x.length + 1 = (x ++ [10]).length by simp, ← List.drop_drop, List.drop_left]
    exact join_drop pre h
/-- a line of the text -/
theorem line_at {l x : List Nat} {post : List (List Nat)} {a : Nat} (h : l.drop a = joinN (x :: post)) (hx : x ≠ []) : a + x.length ≤ l.length ∧ (l.take (a + x.length)).drop a = x ∧ l[a + x.length]? ≠ some 42 := by
  have hl := congrArg List.length h
  rw [List.length_drop] at hl
  have h0 : 0 < x.length := List.length_pos_iff.mpr hx
  have h1 : (joinN (x :: post)).take x.length = x ∧ (joinN (x :: post))[x.length]? ≠ some 42 ∧ x.length ≤ (joinN (x :: post)).length := by
    cases post with
    | nil =>
      show x.take x.length = x ∧ x[x.length]? ≠ some 42 ∧ _
      exact ⟨List.take_length, by simp, Nat.le_refl _⟩
    | cons y r =>
      show (x ++ [10] ++ joinN (y :: r)).take x.length = x ∧ (x ++ [10] ++ joinN (y :: r))[x.length]? ≠ some 42 ∧ x.length ≤ (x ++ [10] ++ joinN (y :: r)).length
      rw [List.append_assoc]
      refine ⟨List.take_left, ?_, by rw [List.length_append]; omega⟩
      rw [List.getElem?_append_right (Nat.le_refl _), Nat.sub_self]
      simp
  refine ⟨by omega, ?_, ?_⟩
  · rw [List.drop_take, h, show a + x.length - a = x.length by omega]
    exact h1.1
  · have e := h1.2.1
    rw [← h, List.getElem?_drop] at e
    exact e
theorem map_str_inj : ∀ {a b : List Str}, a.map V.str = b.map V.str → a = b
  | [], [], _ => rfl
  | [], _ :: _, h => by cases h
  | _ :: _, [], h => by cases h
  | x :: a, y :: b, h => by
    rw [List.map_cons, List.map_cons] at h
    injection h with h1 h2
    injection h1 with h1
    rw [h1, map_str_inj h2]
theorem for_strs {K : PySem.W.Frag} {g : TG} {t : TS} {D : Ends} {σ : L2.St} {H : Hp} {a : Addr} {ys : List Str} (Pv : List Str → L2.St → Hp → Prop) (h0 : Pv [] σ H) (hl : ∀ pre σ H, Pv pre σ H → SqL K H a (ys.map V.str))
    (hs : ∀ (pre : List Str) (x : Str) (post : List Str) σ H, ys = pre ++ x :: post → Pv pre σ H → g (.str x) σ H fun σ2 H2 => t { D with nx := Pv (pre ++ [x]), ct := Pv (pre ++ [x]), bk := D.nx } σ2 H2)
    (hd : ∀ σ H, Pv ys σ H → D.nx σ H) : ForB (Itl K a) g t D σ H := by
  refine for_lst (xs := ys.map V.str) (fun p σ H => ∃ q : List Str, p = q.map V.str ∧ Pv q σ H) ⟨[], rfl, h0⟩ (fun p σ H h => ?_) (fun pre x post σ H e p => ?_) (fun σ H p => ?_)
  · obtain ⟨q, _, h⟩ := h
    exact hl q σ H h
  · obtain ⟨q, rfl, h⟩ := p
    obtain ⟨l1, l2, e1, e2, e3⟩ := List.map_eq_append_iff.mp e
    have e2 := map_str_inj e2
    subst e2
    cases l2 with
    | nil => cases e3
    | cons y r =>
      rw [List.map_cons] at e3
      injection e3 with e4 e5
      subst e4
      have e9 : (fun σ H => ∃ q : List Str, l1.map V.str ++ [V.str y] = q.map V.str ∧ Pv q σ H) = Pv (l1 ++ [y]) := by
        funext σ H
        refine propext ⟨?_, fun h => ⟨l1 ++ [y], by rw [List.map_append]; rfl, h⟩⟩
        rintro ⟨q, h1, h2⟩
        have h3 : (l1 ++ [y]).map V.str = q.map V.str := by rw [← h1, List.map_append]; rfl
        rw [map_str_inj h3]
        exact h2
      rw [e9]
      exact hs l1 y r σ H e1 h
  · obtain ⟨q, h1, h2⟩ := p
    rw [← map_str_inj h1] at h2
    exact hd σ H h2
abbrev RowQ := List PA × Bool
def rdLines : List (List Nat) → Nat → List RowQ → Except Nat (List RowQ)
  | [], _, acc => .ok acc
  | x :: xs, a, acc => if x = [] ∨ x.head? = some 35 then rdLines xs (a + x.length + 1) acc else if acc.length = 20 then .error a else match rdPat x a with
    | .error e => .error e
    | .ok p => rdLines xs (a + x.length + 1) (acc ++ [p])
def Pats (K : PySem.W.Frag) (H : Hp) (qs : List Addr) (rows : List RowQ) : Prop := Paired (fun q (r : RowQ) => PatA K H q (ats r.1) r.2) qs rows
theorem rdLines_skip {x : List Nat} {xs : List (List Nat)} {a : Nat} {acc : List RowQ} (h : x = [] ∨ x.head? = some 35) : rdLines (x :: xs) a acc = rdLines xs (a + x.length + 1) acc := by
  conv => lhs; unfold rdLines
  rw [if_pos h]
theorem rdLines_20 {x : List Nat} {xs : List (List Nat)} {a : Nat} {acc : List RowQ} (h : ¬ (x = [] ∨ x.head? = some 35)) (h2 : acc.length = 20) : rdLines (x :: xs) a acc = .error a := by
  conv => lhs; unfold rdLines
  rw [if_neg h, if_pos h2]
theorem rdLines_err {x : List Nat} {xs : List (List Nat)} {a e : Nat} {acc : List RowQ} (h : ¬ (x = [] ∨ x.head? = some 35)) (h2 : acc.length ≠ 20) (h3 : rdPat x a = .error e) : rdLines (x :: xs) a acc = .error e := by
  conv => lhs; unfold rdLines
  rw [if_neg h, if_neg h2, h3]
theorem rdLines_ok {x : List Nat} {xs : List (List Nat)} {a : Nat} {p : RowQ} {acc : List RowQ} (h : ¬ (x = [] ∨ x.head? = some 35)) (h2 : acc.length ≠ 20) (h3 : rdPat x a = .ok p) : rdLines (x :: xs) a acc = rdLines xs (a + x.length + 1) (acc ++ [p]) := by
  conv => lhs; unfold rdLines
  rw [if_neg h, if_neg h2, h3]
theorem starts_one {z s : Str} {c : Nat} (h : cp s = [c]) : Txt.startswith z s = decide ((cp z).head? = some c) := by
  have e : s = ⟨#[c]⟩ := str_ext (by rw [h])
  subst e
  have h1 := PySem.StrLaws.subAt_one z c 0
  rw [Bool.eq_iff_iff, decide_eq_true_eq, List.head?_eq_getElem?, ← h1]
  unfold Txt.startswith
  rw [Bool.and_eq_true, decide_eq_true_eq]
theorem PatA.updL {K : PySem.W.Frag} {H : Hp} {a D : Addr} {as : List Atm} {neg : Bool} {ys : List V} {o : HO} (h : PatA K H a as neg) (e : H D = some (.lst ys)) : PatA K (upd H D o) a as neg := by
  obtain ⟨qs, h1, h2⟩ := h
  exact ⟨qs, pat_updL e h1, ats_imp (tup_updL e) h2⟩
theorem Pats.imp {K : PySem.W.Frag} {H H' : Hp} (f : ∀ {a as neg}, PatA K H a as neg → PatA K H' a as neg) {qs : List Addr} {rows : List RowQ} (h : Pats K H qs rows) : Pats K H' qs rows := by
  unfold Pats at h ⊢
  induction h with
  | nil => exact .nil
  | cons a b ih => exact .cons (f a) ih
def sp_parse_patterns (K : PySem.W.Frag) : Sp := fun vs H Q E => ∃ x0, vs = [x0] ∧ ∃ z : Str, x0 = .str z ∧ z.length ≤ 1000000 ∧
  (∀ (rows : List RowQ) (p : Addr) (qs : List Addr) (H' : Hp), rdLines (lns (cp z)) 0 [] = .ok rows → Same H H' → H p = none → H' p = some (.lst (qs.map V.ref)) → Pats K H' qs rows → Q (.ref p) H') ∧
  (∀ (i : Nat) (d : Addr) (H' : Hp), rdLines (lns (cp z)) 0 [] = .error i → Same H H' → H' d = none → E (.ref (cIP K)) (some d) (upd H' d (.xd [(("place" : Str), .int i)])))
/-! ### what is written is read back -/
theorem CH_sorted : CH.Pairwise (· < ·) := by decide +kernel
theorem CH_nd : CH.Nodup := by decide +kernel
theorem CH_cons : CH = 45 :: CH.tail := by decide +kernel
theorem sub_eq {S : List Nat} (h : S.Sublist CH) : (CH.filter fun c => decide (c ∈ S)) = S := by
  have hs := h.filter fun c => decide (c ∈ S)
  rw [List.filter_eq_self.mpr fun c hc => decide_eq_true hc] at hs
  exact (hs.eq_of_length_le (List.Nodup.length_le_of_subset (CH_nd.sublist List.filter_sublist) fun c hc => of_decide_eq_true (List.mem_filter.mp hc).2)).symm
theorem sub_eqN {S : List Nat} (h : S.Sublist CH) (n : 47 ∉ S) : (NS.filter fun c => decide (c ∈ S)) = S := by
  have h := NS_of h n
  have hs := h.filter fun c => decide (c ∈ S)
  rw [List.filter_eq_self.mpr fun c hc => decide_eq_true hc] at hs
  exact (hs.eq_of_length_le (List.Nodup.length_le_of_subset (NS_nd.sublist List.filter_sublist) fun c hc => of_decide_eq_true (List.mem_filter.mp hc).2)).symm
theorem tail_itm {c : Nat} (h : c ∈ CH.tail) : itm c = true := by
  have : ∀ c ∈ CH.tail, itm c = true := by decide +kernel
  exact this c h
/-- a run without a hyphen, before what does not begin with one -/
theorem rd_plain : ∀ (run X : List Nat) (a : Nat), (∀ c ∈ run, itm c = true) → X.head? ≠ some 45 → rdI (run ++ X) a = pre1 run (rdI X (a + run.length))
  | [], X, a, _, _ => (pre1_nil _).symm
  | c :: run, X, a, h, hX => by
    have ih := rd_plain run X (a + 1) (fun x hx => h x (List.mem_cons_of_mem _ hx)) hX
    rw [List.cons_append, rdI_one (h c (List.mem_cons_self ..)), ih, pre1_pre1]
    · rw [List.length_cons, Nat.add_assoc, Nat.add_comm 1]
      rfl
    · intro x R' e
      cases run with
      | nil => intro q; rw [List.nil_append] at e; rw [e, q] at hX; exact hX rfl
      | cons y r => rw [List.cons_append] at e; rw [← (List.cons.inj e).1]; exact itm_ne (h y (by simp))
theorem rd_run {pre run cs X : List Nat} {a : Nat} (e : CH.tail = pre ++ run ++ cs) (hX : X.head? ≠ some 45) : ∃ (L : List Nat) (k : Nat), rdI (fmtRun run ++ X) a = pre1 L (rdI X (a + k)) ∧ ∀ c, c ∈ L ↔ c ∈ run := by
  have hi : ∀ c ∈ run, itm c = true := fun c hc => tail_itm (by rw [e]; simp [hc])
  unfold fmtRun
  by_cases h3 : run.length < 3
  · rw [if_pos h3]
    exact ⟨run, run.length, rd_plain run X a hi hX, fun c => Iff.rfl⟩
  · rw [if_neg h3]
    obtain ⟨f, mid, l, rfl⟩ : ∃ f mid l, run = f :: (mid ++ [l]) := by
      cases run with
      | nil => simp at h3
      | cons f r =>
        rcases List.eq_nil_or_concat r with q | ⟨m, l, q⟩
        · rw [q] at h3; simp at h3
        · exact ⟨f, m, l, by rw [q, List.concat_eq_append]⟩
    have hl : (f :: (mid ++ [l])).getLastD 0 = l := by
      rw [List.getLastD_cons]
      simp
    have hf : (f :: (mid ++ [l])).headD 0 = f := rfl
    rw [hl, hf]
    have hs : CH.Pairwise (· < ·) := CH_sorted
    rw [CH_cons, e] at hs
    have hs2 : (45 :: (pre ++ (f :: (mid ++ [l])) ++ cs)).Pairwise (· < ·) := hs
    have hp := (List.pairwise_cons.mp hs2).2
    rw [List.append_assoc] at hp
    obtain ⟨p1, p2, p3⟩ := List.pairwise_append.mp hp
    obtain ⟨q1, q2, q3⟩ := List.pairwise_append.mp p2
    obtain ⟨r1, r2⟩ := List.pairwise_cons.mp q1
    obtain ⟨t1, t2, t3⟩ := List.pairwise_append.mp r2
    have hfl : f < l := r1 l (by simp)
    refine ⟨rngC f l, 3, ?_, fun c => ?_⟩
    · show rdI (f :: 45 :: l :: X) a = _
      rw [rdI_rng (hi f (by simp)), if_pos ⟨hi l (by simp), hfl⟩]
    · unfold rngC
      rw [List.mem_filter, Bool.and_eq_true, decide_eq_true_eq, decide_eq_true_eq]
      constructor
      · rintro ⟨h1, h2, h4⟩
        have f45 : 45 < f := (List.pairwise_cons.mp hs2).1 f (by simp)
        rw [CH_cons, e] at h1
        rcases List.mem_cons.mp h1 with h1 | h1
        · omega
        · rw [List.append_assoc] at h1
          rcases List.mem_append.mp h1 with h1 | h1
          · have := p3 c h1 f (by simp)
            omega
          · rcases List.mem_append.mp h1 with h1 | h1
            · exact h1
            · have := q3 l (by simp) c h1
              omega
      · intro h
        refine ⟨?_, ?_, ?_⟩
        · rw [CH_cons, e]
          refine List.mem_cons_of_mem _ (List.mem_append_left _ (List.mem_append_right _ h))
        · rcases List.mem_cons.mp h with h | h
          · omega
          · exact Nat.le_of_lt (r1 c h)
        · rcases List.mem_cons.mp h with h | h
          · omega
          · rcases List.mem_append.mp h with h | h
            · exact Nat.le_of_lt (t3 c h l (by simp))
            · rw [List.mem_singleton.mp h]; exact Nat.le_refl _
theorem run_mem {run : List Nat} {x : Nat} (h : x ∈ fmtRun run) : x = 45 ∨ x ∈ run := by
  unfold fmtRun at h
  by_cases h3 : run.length < 3
  · rw [if_pos h3] at h; exact .inr h
  · rw [if_neg h3] at h
    cases run with
    | nil => simp at h3
    | cons f r =>
      rcases List.mem_cons.mp h with h | h
      · exact .inr (by rw [h]; simp)
      · rcases List.mem_cons.mp h with h | h
        · exact .inl h
        · refine .inr ?_
          rw [List.mem_singleton.mp h, List.getLastD_cons, List.getLastD_eq_getLast?]
          cases q : r.getLast? with
          | none => simp
          | some y =>
            have := List.mem_of_getLast? q
            exact List.mem_cons_of_mem _ this
theorem run_head {run : List Nat} {x : Nat} (h : (fmtRun run).head? = some x) : x ∈ run := by
  unfold fmtRun at h
  by_cases h3 : run.length < 3
  · rw [if_pos h3] at h; exact List.mem_of_head? h
  · rw [if_neg h3] at h
    cases run with
    | nil => simp at h3
    | cons f r =>
      have h : some f = some x := h
      cases h
      simp
theorem items_mem {S : List Nat} {x : Nat} : ∀ {cs run : List Nat}, x ∈ itemsL cs S run → x = 45 ∨ x ∈ run ∨ x ∈ cs
  | [], run, h => by
    rcases run_mem h with h | h
    · exact .inl h
    · exact .inr (.inl h)
  | c :: cs, run, h => by
    unfold itemsL at h
    by_cases hc : c ∈ S
    · rw [if_pos hc] at h
      rcases items_mem h with h | h | h
      · exact .inl h
      · rcases List.mem_append.mp h with h | h
        · exact .inr (.inl h)
        · exact .inr (.inr (by rw [List.mem_singleton.mp h]; simp))
      · exact .inr (.inr (List.mem_cons_of_mem _ h))
    · rw [if_neg hc] at h
      rcases List.mem_append.mp h with h | h
      · rcases run_mem h with h | h
        · exact .inl h
        · exact .inr (.inl h)
      · rcases items_mem h with h | h | h
        · exact .inl h
        · cases h
        · exact .inr (.inr (List.mem_cons_of_mem _ h))
theorem items_head {S : List Nat} {x : Nat} : ∀ {cs run : List Nat}, (itemsL cs S run).head? = some x → x ∈ run ∨ x ∈ cs
  | [], run, h => .inl (run_head h)
  | c :: cs, run, h => by
    unfold itemsL at h
    by_cases hc : c ∈ S
    · rw [if_pos hc] at h
      rcases items_head h with h | h
      · rcases List.mem_append.mp h with h | h
        · exact .inl h
        · exact .inr (by rw [List.mem_singleton.mp h]; simp)
      · exact .inr (List.mem_cons_of_mem _ h)
    · rw [if_neg hc, List.head?_append] at h
      cases q : (fmtRun run).head? with
      | some y =>
        rw [q] at h
        have h : some y = some x := h
        cases h
        exact .inl (run_head q)
      | none =>
        rw [q] at h
        have h : (itemsL cs S []).head? = some x := h
        rcases items_head h with h | h
        · cases h
        · exact .inr (List.mem_cons_of_mem _ h)
theorem rd_items {S : List Nat} : ∀ (cs run pre : List Nat) (a : Nat), CH.tail = pre ++ run ++ cs → ∃ L, rdI (itemsL cs S run) a = .ok L ∧ ∀ c, c ∈ L ↔ (c ∈ run ∨ (c ∈ cs ∧ c ∈ S))
  | [], run, pre, a, e => by
    obtain ⟨L, k, h1, h2⟩ := rd_run (X := []) (a := a) e (by simp)
    rw [List.append_nil] at h1
    refine ⟨L ++ [], by show rdI (fmtRun run) a = _; rw [h1]; rfl, fun c => ?_⟩
    rw [List.append_nil, h2]
    simp
  | c :: cs, run, pre, a, e => by
    unfold itemsL
    by_cases hc : c ∈ S
    · rw [if_pos hc]
      obtain ⟨L, h1, h2⟩ := rd_items cs (run ++ [c]) pre a (by rw [e]; simp)
      refine ⟨L, h1, fun x => ?_⟩
      rw [h2, List.mem_append, List.mem_singleton, List.mem_cons]
      constructor
      · rintro ((h | h) | ⟨h, h'⟩)
        · exact .inl h
        · exact .inr ⟨.inl h, by rw [h]; exact hc⟩
        · exact .inr ⟨.inr h, h'⟩
      · rintro (h | ⟨h | h, h'⟩)
        · exact .inl (.inl h)
        · exact .inl (.inr h)
        · exact .inr ⟨h, h'⟩
    · rw [if_neg hc]
      obtain ⟨L, k, h1, h2⟩ := rd_run (X := itemsL cs S []) (a := a) (pre := pre) (run := run) (cs := c :: cs) e (fun h => by
        rcases items_head h with h | h
        · cases h
        · exact itm_ne (tail_itm (by rw [e]; simp [h])) rfl)
      obtain ⟨L', h3, h4⟩ := rd_items (S := S) cs [] (pre ++ run ++ [c]) (a + k) (by rw [e]; simp)
      refine ⟨L ++ L', by rw [h1, h3]; rfl, fun x => ?_⟩
      rw [List.mem_append, h2, h4, List.mem_cons]
      constructor
      · rintro (h | h | ⟨h, h'⟩)
        · exact .inl h
        · cases h
        · exact .inr ⟨.inr h, h'⟩
      · rintro (h | ⟨h | h, h'⟩)
        · exact .inl h
        · rw [h] at h'; exact absurd h' hc
        · exact .inr (.inr ⟨h, h'⟩)
theorem rdItems_plain {b : List Nat} {a : Nat} (h : b.head? ≠ some 45) : rdItems b a = rdI b a := by
  cases b with
  | nil => rfl
  | cons x r =>
    unfold rdItems
    split
    · rename_i h9
      exact absurd (by rw [h9]; rfl) h
    · rfl
/-- what is written for a set of characters is read as that set -/
theorem rd_fmtItems {S : List Nat} (hS : ∀ c ∈ S, c ∈ CH) (a : Nat) : ∃ L, rdItems (fmtItems S) a = .ok L ∧ ∀ c, c ∈ L ↔ c ∈ S := by
  have hm : ∀ c, c ∈ S ↔ ((c = 45 ∧ 45 ∈ S) ∨ (c ∈ CH.tail ∧ c ∈ S)) := by
    intro c
    constructor
    · intro h
      have h2 := hS c h
      rw [CH_cons] at h2
      rcases List.mem_cons.mp h2 with h2 | h2
      · exact .inl ⟨h2, by rw [← h2]; exact h⟩
      · exact .inr ⟨h2, h⟩
    · rintro (⟨h, h'⟩ | ⟨_, h⟩)
      · rw [h]; exact h'
      · exact h
  unfold fmtItems
  by_cases h : 45 ∈ S
  · rw [if_pos h]
    obtain ⟨L, h1, h2⟩ := rd_items (S := S) CH.tail [] [] (a + 1) rfl
    refine ⟨[45] ++ L, by show pre1 [45] (rdI (itemsL CH.tail S []) (a + 1)) = _; rw [h1]; rfl, fun c => ?_⟩
    rw [List.mem_append, h2, List.mem_singleton]
    constructor
    · rintro (q | q | ⟨_, q⟩)
      · rw [q]; exact h
      · cases q
      · exact q
    · intro q
      rcases (hm c).mp q with ⟨q, _⟩ | q
      · exact .inl q
      · exact .inr (.inr q)
  · rw [if_neg h]
    obtain ⟨L, h1, h2⟩ := rd_items (S := S) CH.tail [] [] a rfl
    refine ⟨L, ?_, fun c => ?_⟩
    · rw [List.nil_append, rdItems_plain, h1]
      intro q
      rcases items_head q with q | q
      · cases q
      · exact itm_ne (tail_itm q) rfl
    · rw [h2]
      constructor
      · rintro (q | ⟨_, q⟩)
        · cases q
        · exact q
      · intro q
        rcases (hm c).mp q with ⟨_, q⟩ | q
        · exact absurd q h
        · exact .inr q
/-- single characters, in any order and doubled -/
theorem rd_singles {X : List Nat} (hX : ∀ c ∈ X, itm c = true) (d : Bool) (a : Nat) : rdItems ((if d = true then [45] else []) ++ X) a = .ok ((if d = true then [45] else []) ++ X) := by
  have h : ∀ a, rdI X a = .ok X := fun a => by
    have := rd_plain X [] a hX (by simp)
    rw [List.append_nil] at this
    rw [this]
    show Except.ok (X ++ []) = _
    rw [List.append_nil]
  cases d with
  | true =>
    show pre1 [45] (rdI X (a + 1)) = _
    rw [h]
    rfl
  | false =>
    show rdItems X a = .ok X
    rw [rdItems_plain, h]
    intro q
    exact itm_ne (hX _ (List.mem_of_head? q)) rfl
theorem fmtItems_CH {S : List Nat} {x : Nat} (h : x ∈ fmtItems S) : x ∈ CH := by
  unfold fmtItems at h
  rcases List.mem_append.mp h with h | h
  · split at h
    · rw [List.mem_singleton.mp h]; decide
    · cases h
  · rcases items_mem h with h | h | h
    · rw [h]; decide
    · cases h
    · exact List.mem_of_mem_tail h
theorem while_b {b rest : List Nat} (h : 93 ∉ b) : (b ++ 93 :: rest).takeWhile (fun c => decide (c ≠ 93)) = b ∧ (b ++ 93 :: rest).dropWhile (fun c => decide (c ≠ 93)) = 93 :: rest := by
  have h2 : ∀ x ∈ b, decide (x ≠ 93) = true := fun x hx => decide_eq_true fun e => h (by rw [← e]; exact hx)
  constructor
  · rw [List.takeWhile_append_of_pos h2]
    simp
  · rw [List.dropWhile_append_of_pos h2]
    simp
theorem rdSet_in {b L S rest : List Nat} {a : Nat} (h93 : 93 ∉ b) (h33 : 33 ∉ b) (h : rdItems b (a + 1) = .ok L) (hL : ∀ c, c ∈ L ↔ c ∈ S) (hS : S.Sublist CH) (hne : S ≠ []) : rdSet (b ++ 93 :: rest) a = .ok ((S, false), rest) := by
  obtain ⟨w1, w2⟩ := while_b (rest := rest) h93
  have e : (CH.filter fun c => decide (c ∈ L)) = S := by
    have e2 : (CH.filter fun c => decide (c ∈ L)) = CH.filter fun c => decide (c ∈ S) := List.filter_congr fun c _ => decide_eq_decide.mpr (hL c)
    rw [e2, sub_eq hS]
  unfold rdSet
  rw [if_neg (by simp), w1, w2]
  dsimp only
  rw [if_neg (fun q => h33 (List.mem_of_head? q)), h]
  dsimp only
  rw [e, if_neg hne]
  rfl
theorem rdSet_not {b L S rest : List Nat} {a : Nat} (h93 : 93 ∉ b) (h : rdItems b (a + 2) = .ok L) (hL : ∀ c ∈ NS, (c ∉ L ↔ c ∈ S)) (hS : S.Sublist CH) (h47 : 47 ∉ S) (hne : S ≠ []) : rdSet (33 :: b ++ 93 :: rest) a = .ok ((S, false), rest) := by
  obtain ⟨w1, w2⟩ := while_b (b := 33 :: b) (rest := rest) (by simp [h93])
  have e : (NS.filter fun c => decide (c ∉ L)) = S := by
    have e2 : (NS.filter fun c => decide (c ∉ L)) = NS.filter fun c => decide (c ∈ S) := List.filter_congr fun c hc => decide_eq_decide.mpr (hL c hc)
    rw [e2, sub_eqN hS h47]
  unfold rdSet
  rw [if_neg (by simp), w1, w2]
  dsimp only
  rw [if_pos (show (33 :: b).head? = some 33 from rfl), List.tail_cons, h]
  dsimp only
  rw [e, if_neg hne]
  rfl
/-! ### an atom that is written, in any of its ways -/
def pa (c : Atm) : PA := (cp c.1, c.2)
structure Wr (w : List Nat) (c : Atm) : Prop where
  rd : ∀ (rest : List Nat) (a : Nat), (c.2 = true → rest.head? ≠ some 42) → rdAtom (w ++ rest) a = .ok (pa c, rest)
  ne : w ≠ []
  st : c.2 = false → w.head? ≠ some 42
  nl : 10 ∉ w
  h35 : w.head? ≠ some 35
  h33 : w.head? ≠ some 33
  len : w.length ≤ 310
theorem rdAtom_cons (c : Nat) (r : List Nat) (a : Nat) : rdAtom (c :: r) a = if c = 42 then (if r.head? = some 42 then .ok ((CH, true), r.tail) else .ok ((NS, true), r)) else if c = 63 then .ok ((NS, false), r) else if c = 91 then rdSet r a else
    if c ∈ CH then .ok (([c], false), r) else .error a := rfl
theorem rdA_2 {rest : List Nat} {a : Nat} : rdAtom (42 :: 42 :: rest) a = .ok ((CH, true), rest) := by
  rw [rdAtom_cons, if_pos rfl, if_pos (show (42 :: rest).head? = some 42 from rfl)]
  rfl
theorem rdA_1 {rest : List Nat} {a : Nat} (h : rest.head? ≠ some 42) : rdAtom (42 :: rest) a = .ok ((NS, true), rest) := by
  rw [rdAtom_cons, if_pos rfl, if_neg h]
theorem rdA_q {rest : List Nat} {a : Nat} : rdAtom (63 :: rest) a = .ok ((NS, false), rest) := by
  rw [rdAtom_cons, if_neg (by decide), if_pos rfl]
theorem rdA_set {rest : List Nat} {a : Nat} : rdAtom (91 :: rest) a = rdSet rest a := by
  rw [rdAtom_cons, if_neg (by decide), if_neg (by decide), if_pos rfl]
theorem CH_odd {c : Nat} (h : c ∈ CH) : c ≠ 42 ∧ c ≠ 63 ∧ c ≠ 91 ∧ c ≠ 93 ∧ c ≠ 10 ∧ c ≠ 35 ∧ c ≠ 33 := by
  have : ∀ c ∈ CH, c ≠ 42 ∧ c ≠ 63 ∧ c ≠ 91 ∧ c ≠ 93 ∧ c ≠ 10 ∧ c ≠ 35 ∧ c ≠ 33 := by decide +kernel
  exact this c h
theorem rdA_c {c : Nat} {rest : List Nat} {a : Nat} (h : c ∈ CH) : rdAtom (c :: rest) a = .ok (([c], false), rest) := by
  have h1 := CH_odd h
  rw [rdAtom_cons, if_neg h1.1, if_neg h1.2.1, if_neg h1.2.2.1, if_pos h]
/-- a set in brackets -/
theorem wr_in {z : Str} {b : List Nat} (hz : okS z) (hb : ∀ c ∈ b, c ∈ CH) (hl : b.length ≤ 305) (h : ∀ a, ∃ L, rdItems b a = .ok L ∧ ∀ c, c ∈ L ↔ c ∈ cp z) : Wr ([91] ++ b ++ [93]) (z, false) where
  rd rest a _ := by
    obtain ⟨L, h1, h2⟩ := h (a + 1)
    have e : [91] ++ b ++ [93] ++ rest = 91 :: (b ++ 93 :: rest) := by simp
    rw [e, rdA_set]
    exact rdSet_in (fun m => (CH_odd (hb _ m)).2.2.2.1 rfl) (fun m => (CH_odd (hb _ m)).2.2.2.2.2.2 rfl) h1 h2 hz.1 hz.2
  ne := by simp
  st _ := by simp
  nl m := by
    simp only [List.mem_append, List.mem_singleton] at m
    rcases m with (m | m) | m
    · cases m
    · exact (CH_odd (hb _ m)).2.2.2.2.1 rfl
    · cases m
  h35 := by simp
  h33 := by simp
  len := by simp; omega
theorem wr_not {z : Str} {b : List Nat} (hz : okS z) (h47 : 47 ∉ cp z) (hb : ∀ c ∈ b, c ∈ CH) (hl : b.length ≤ 305) (h : ∀ a, ∃ L, rdItems b a = .ok L ∧ ∀ c ∈ NS, (c ∉ L ↔ c ∈ cp z)) : Wr ([91, 33] ++ b ++ [93]) (z, false) where
  rd rest a _ := by
    obtain ⟨L, h1, h2⟩ := h (a + 2)
    have e : [91, 33] ++ b ++ [93] ++ rest = 91 :: (33 :: b ++ 93 :: rest) := by simp
    rw [e, rdA_set]
    exact rdSet_not (fun m => (CH_odd (hb _ m)).2.2.2.1 rfl) h1 h2 hz.1 h47 hz.2
  ne := by simp
  st _ := by simp
  nl m := by
    simp only [List.mem_append, List.mem_singleton, List.mem_cons, List.not_mem_nil, or_false] at m
    rcases m with ((m | m) | m) | m
    · cases m
    · cases m
    · exact (CH_odd (hb _ m)).2.2.2.2.1 rfl
    · cases m
  h35 := by simp
  h33 := by simp
  len := by simp; omega
theorem wr_one {z : Str} {c : Nat} (hc : c ∈ CH) (e : cp z = [c]) : Wr [c] (z, false) where
  rd rest a _ := by
    show rdAtom (c :: rest) a = .ok ((cp z, false), rest)
    rw [rdA_c hc, e]
  ne := by simp
  st _ := by have := (CH_odd hc).1; simpa using this
  nl m := (CH_odd hc).2.2.2.2.1 (List.mem_singleton.mp m).symm
  h35 := by have := (CH_odd hc).2.2.2.2.2.1; simpa using this
  h33 := by have := (CH_odd hc).2.2.2.2.2.2; simpa using this
  len := by show 1 ≤ 310; decide
theorem wr_fmt {c : Atm} (h : goodC c) : Wr (fmtA (cp c.1) c.2) c := by
  obtain ⟨z, r⟩ := c
  obtain ⟨hz, hr⟩ := h
  have hz : okS z := hz
  show Wr (fmtA (cp z) r) (z, r)
  cases r with
  | true =>
    unfold fmtA
    rw [if_pos rfl]
    rcases hr rfl with e | e
    · have e : cp z = NS := e
      rw [if_neg (by rw [e]; decide +kernel)]
      refine ⟨fun rest a h => ?_, by simp, fun h => (nomatch h), by decide, by decide, by decide, by decide⟩
      show rdAtom (42 :: rest) a = .ok ((cp z, true), rest)
      rw [rdA_1 (h rfl), e]
    · have e : cp z = CH := e
      rw [if_pos e]
      refine ⟨fun rest a h => ?_, by simp, fun h => (nomatch h), by decide, by decide, by decide, by decide⟩
      show rdAtom (42 :: 42 :: rest) a = .ok ((cp z, true), rest)
      rw [rdA_2, e]
  | false =>
    unfold fmtA
    rw [if_neg (by decide)]
    have hsub := hz.1
    by_cases e : cp z = NS
    · rw [if_pos e]
      refine ⟨fun rest a h => ?_, by simp, fun _ => by decide, by decide, by decide, by decide, by decide⟩
      show rdAtom (63 :: rest) a = .ok ((cp z, false), rest)
      rw [rdA_q, e]
    rw [if_neg e]
    by_cases h1 : (cp z).length = 1
    · rw [if_pos h1]
      obtain ⟨x, hx⟩ := List.length_eq_one_iff.mp h1
      rw [hx]
      exact wr_one (hsub.subset (by rw [hx]; simp)) hx
    rw [if_neg h1]
    by_cases h2 : 47 ∈ cp z ∨ (cp z).length ≤ 33
    · rw [if_pos h2]
      exact wr_in hz (fun c hc => fmtItems_CH hc) (Nat.le_trans (fmtItems_len _) (by decide)) fun a => rd_fmtItems (fun c hc => hsub.subset hc) a
    · rw [if_neg h2]
      refine wr_not hz (fun m => h2 (.inl m)) (fun c hc => fmtItems_CH hc) (Nat.le_trans (fmtItems_len _) (by decide)) fun a => ?_
      obtain ⟨L, h3, h4⟩ := rd_fmtItems (S := NS.filter fun c => decide (c ∉ cp z)) (fun c hc => (List.filter_sublist (p := fun c => decide (c ≠ 47)) (l := CH)).subset (List.mem_filter.mp hc).1) a
      refine ⟨L, h3, fun c hc => ?_⟩
      rw [h4, List.mem_filter, decide_eq_true_eq]
      constructor
      · intro h
        by_cases m : c ∈ cp z
        · exact m
        · exact absurd ⟨hc, m⟩ h
      · rintro h ⟨_, h'⟩
        exact h' h
/-! ### rows -/
abbrev Wrs (ws : List (List Nat)) (as : List Atm) : Prop := Paired Wr ws as
theorem flat_head {ws : List (List Nat)} {as : List Atm} (h : Wrs ws as) (h0 : ∀ c, as.head? = some c → c.2 = false) : ws.flatten.head? ≠ some 42 := by
  cases h with
  | nil => simp
  | cons a b =>
    rename_i w c ws as
    rw [List.flatten_cons, List.head?_append]
    have h1 := a.st (h0 c rfl)
    cases e : w with
    | nil => exact absurd e a.ne
    | cons x r =>
      rw [e] at h1
      exact h1
theorem last_rep {acc : List Atm} (h : lastRep (acc.map pa) = true) : ∃ n, acc.length = n + 1 ∧ rep acc n = true := by
  unfold lastRep at h
  rcases List.eq_nil_or_concat acc with e | ⟨l, c, e⟩
  · rw [e] at h; cases h
  · rw [List.concat_eq_append] at e
    subst e
    refine ⟨l.length, by simp, ?_⟩
    rw [rep_app, if_neg (by omega), if_pos rfl]
    simpa [pa] using h
theorem rd_row : ∀ {ws : List (List Nat)} {as : List Atm}, Wrs ws as → ∀ (acc : List Atm) (n a : Nat), ws.flatten.length ≤ n → acc.length + as.length ≤ 40 → noTwo (acc ++ as) → rdAtoms n ws.flatten a (acc.map pa) = .ok ((acc ++ as).map pa)
  | _, _, .nil, acc, n, a, _, _, _ => by rw [List.flatten_nil, rdAtoms_nil, List.append_nil]
  | _, _, .cons (a := w) (b := c) (l₁ := ws) (l₂ := as) hw hs, acc, n, a, hn, h40, h2 => by
    have hne := hw.ne
    rw [List.flatten_cons] at hn ⊢
    obtain ⟨x, w', rfl⟩ : ∃ x w', w = x :: w' := by
      cases w with
      | nil => exact absurd rfl hne
      | cons x r => exact ⟨x, r, rfl⟩
    rw [List.cons_append, List.length_cons, List.length_append] at hn
    obtain ⟨n, rfl⟩ : ∃ n', n = n' + 1 := ⟨n - 1, by omega⟩
    have hrep : c.2 = true → ∀ d, as.head? = some d → d.2 = false := by
      intro hc d hd
      have := h2 acc.length
      unfold rep at this
      rw [List.getElem?_append_right (Nat.le_refl _), List.getElem?_append_right (by omega), Nat.sub_self, show acc.length + 1 - acc.length = 1 by omega] at this
      cases as with
      | nil => cases hd
      | cons e r =>
        have hd : some e = some d := hd
        cases hd
        exact this hc
    have hr := hw.rd ws.flatten a (fun hc => flat_head hs (hrep hc))
    have hr : rdAtom (x :: (w' ++ ws.flatten)) a = .ok (pa c, ws.flatten) := hr
    show rdAtoms (n + 1) (x :: (w' ++ ws.flatten)) a (acc.map pa) = _
    rw [rdAtoms_ok hr, if_neg]
    · have ih := rd_row hs (acc ++ [c]) n (a + ((x :: (w' ++ ws.flatten)).length - ws.flatten.length)) (by omega) (by rw [List.length_append]; rw [List.length_cons] at h40; simp; omega) (by rw [List.append_assoc]; exact h2)
      rw [List.map_append, List.append_assoc] at ih
      exact ih
    · rintro (h | ⟨h, h'⟩)
      · rw [List.length_map] at h
        rw [List.length_cons] at h40
        omega
      · obtain ⟨m, q1, q2⟩ := last_rep h'
        have := h2 m
        unfold rep at this q2
        rw [List.getElem?_append_left (by omega), List.getElem?_append_right (by omega), show m + 1 - acc.length = 0 by omega] at this
        have h7 := this q2
        have h : c.2 = true := h
        have h7 : c.2 = false := h7
        rw [h7] at h
        cases h
structure GoodR (as : List Atm) : Prop where
  two : noTwo as
  pos : 1 ≤ as.length
  le : as.length ≤ 40
  good : ∀ c ∈ as, goodC c
def signL (neg : Bool) : List Nat := if neg = true then [33] else []
theorem rd_pat {ws : List (List Nat)} {as : List Atm} (h : Wrs ws as) (g : GoodR as) (neg : Bool) (a : Nat) : rdPat (signL neg ++ ws.flatten) a = .ok (as.map pa, neg) := by
  have h0 : ws.flatten ≠ [] ∧ ws.flatten.head? ≠ some 33 := by
    cases h with
    | nil => have := g.pos; cases this
    | cons p q =>
      rename_i w c ws as
      have h1 := p.ne
      have h2 := p.h33
      rw [List.flatten_cons]
      cases w with
      | nil => exact absurd rfl h1
      | cons x r => exact ⟨by simp, h2⟩
  have hr := fun n a hn => rd_row h [] n a hn (by rw [List.length_nil]; have := g.le; omega) g.two
  have hr : ∀ n a, ws.flatten.length ≤ n → rdAtoms n ws.flatten a [] = .ok (as.map pa) := hr
  cases neg with
  | true =>
    show rdPat (33 :: ws.flatten) a = _
    rw [rdPat_cons, if_pos rfl, if_neg h0.1, hr _ _ (Nat.le_refl _)]
    rfl
  | false =>
    show rdPat ws.flatten a = _
    obtain ⟨x, r, e⟩ : ∃ x r, ws.flatten = x :: r := by
      cases q : ws.flatten with
      | nil => exact absurd q h0.1
      | cons x r => exact ⟨x, r, rfl⟩
    have h33 : x ≠ 33 := by
      have := h0.2
      rw [e] at this
      simpa using this
    have hr := hr (x :: r).length a (by rw [e]; exact Nat.le_refl _)
    rw [e] at hr
    rw [e, rdPat_cons, if_neg h33, hr]
    rfl
/-! ### lines -/
inductive LnO : List (List Nat) → List RowP → Prop
  | nil : LnO [] []
  | skip {x : List Nat} {xs : List (List Nat)} {rows : List RowP} : (x = [] ∨ x.head? = some 35) → 10 ∉ x → LnO xs rows → LnO (x :: xs) rows
  | row {ws xs : List (List Nat)} {as : List Atm} {neg : Bool} {rows : List RowP} : Wrs ws as → GoodR as → LnO xs rows → LnO ((signL neg ++ ws.flatten) :: xs) ((as, neg) :: rows)
def rq (r : RowP) : RowQ := (r.1.map pa, r.2)
theorem LnO.app {xs ys : List (List Nat)} {rs ss : List RowP} (h : LnO xs rs) (h2 : LnO ys ss) : LnO (xs ++ ys) (rs ++ ss) := by
  induction h with
  | nil => exact h2
  | skip a b _ ih => exact .skip a b ih
  | row a b _ ih => exact .row a b ih
theorem wrs_nl {ws : List (List Nat)} {as : List Atm} (h : Wrs ws as) : 10 ∉ ws.flatten := by
  induction h with
  | nil => simp
  | cons a b ih =>
    rw [List.flatten_cons, List.mem_append]
    rintro (m | m)
    · exact a.nl m
    · exact ih m
theorem LnO.nl {ls : List (List Nat)} {rs : List RowP} (h : LnO ls rs) : ∀ x ∈ ls, 10 ∉ x := by
  induction h with
  | nil => intro x hx; cases hx
  | skip a b _ ih =>
    intro x hx
    rcases List.mem_cons.mp hx with hx | hx
    · rw [hx]; exact b
    · exact ih x hx
  | row a b _ ih =>
    intro x hx
    rcases List.mem_cons.mp hx with hx | hx
    · rw [hx, List.mem_append]
      rintro (m | m)
      · unfold signL at m
        split at m
        · exact absurd m (by decide)
        · cases m
      · exact wrs_nl a m
    · exact ih x hx
theorem wrs_row {ws : List (List Nat)} {as : List Atm} (h : Wrs ws as) (g : GoodR as) (neg : Bool) : ¬ (signL neg ++ ws.flatten = [] ∨ (signL neg ++ ws.flatten).head? = some 35) := by
  have h0 : ws.flatten ≠ [] ∧ ws.flatten.head? ≠ some 35 := by
    cases h with
    | nil => have := g.pos; cases this
    | cons p q =>
      rename_i w c ws as
      have h1 := p.ne
      have h2 := p.h35
      rw [List.flatten_cons]
      cases w with
      | nil => exact absurd rfl h1
      | cons x r => exact ⟨by simp, h2⟩
  cases neg with
  | true => simp [signL]
  | false =>
    rintro (h | h)
    · exact h0.1 h
    · exact h0.2 h
theorem rd_lines {ls : List (List Nat)} {rs : List RowP} (h : LnO ls rs) : ∀ (a : Nat) (acc : List RowQ), acc.length + rs.length ≤ 20 → rdLines ls a acc = .ok (acc ++ rs.map rq) := by
  induction h with
  | nil => intro a acc _; rw [List.map_nil, List.append_nil]; rfl
  | skip h _ _ ih =>
    intro a acc hl
    rw [rdLines_skip h]
    exact ih _ _ hl
  | row h g _ ih =>
    intro a acc hl
    rw [List.length_cons] at hl
    rw [rdLines_ok (wrs_row h g _) (by omega) (rd_pat h g _ _), ih _ _ (by rw [List.length_append]; show acc.length + 1 + _ ≤ 20; omega), List.append_assoc]
    rfl
theorem lns_line : ∀ {x : List Nat}, 10 ∉ x → lns x = [x]
  | [], _ => rfl
  | c :: x, h => by
    have hc : c ≠ 10 := fun e => h (by rw [e]; simp)
    exact lns_c hc (lns_line fun m => h (List.mem_cons_of_mem _ m))
theorem lns_app : ∀ {x : List Nat} (l : List Nat), 10 ∉ x → lns (x ++ [10] ++ l) = x :: lns l
  | [], l, _ => lns_10 l
  | c :: x, l, h => by
    have hc : c ≠ 10 := fun e => h (by rw [e]; simp)
    exact lns_c hc (lns_app l fun m => h (List.mem_cons_of_mem _ m))
theorem lns_join : ∀ {ls : List (List Nat)}, ls ≠ [] → (∀ x ∈ ls, 10 ∉ x) → lns (joinN ls) = ls
  | [], h, _ => absurd rfl h
  | [x], _, h => lns_line (h x (by simp))
  | x :: y :: r, _, h => by
    show lns (x ++ [10] ++ joinN (y :: r)) = _
    rw [lns_app _ (h x (by simp)), lns_join (by simp) fun z hz => h z (List.mem_cons_of_mem _ hz)]
theorem rd_text {ls : List (List Nat)} {rs : List RowP} (h : LnO ls rs) (hl : rs.length ≤ 20) : rdLines (lns (joinN ls)) 0 [] = .ok (rs.map rq) := by
  by_cases e : ls = []
  · subst e
    cases h
    show rdLines [[]] 0 [] = _
    rw [rdLines_skip (.inl rfl)]
    rfl
  · rw [lns_join e h.nl, rd_lines h 0 [] (by rw [List.length_nil]; omega)]
    rfl
theorem wrs_fmt : ∀ {as : List Atm}, (∀ c ∈ as, goodC c) → Wrs (as.map fun c => fmtA (cp c.1) c.2) as
  | [], _ => .nil
  | c :: as, h => .cons (wr_fmt (h c (by simp))) (wrs_fmt fun x hx => h x (List.mem_cons_of_mem _ hx))
theorem lno_fmt : ∀ {rs : List RowP}, (∀ r ∈ rs, GoodR r.1) → LnO (rs.map fun r => fmtP r.1 r.2) rs
  | [], _ => .nil
  | r :: rs, h => .row (neg := r.2) (wrs_fmt (h r (by simp)).good) (h r (by simp)) (lno_fmt fun x hx => h x (List.mem_cons_of_mem _ hx))
theorem fmtAll_join : ∀ rs : List RowP, fmtAll rs = joinN (rs.map fun r => fmtP r.1 r.2)
  | [] => rfl
  | [_] => rfl
  | r :: r2 :: rs => by
    show fmtP r.1 r.2 ++ [10] ++ fmtAll (r2 :: rs) = fmtP r.1 r.2 ++ [10] ++ joinN ((r2 :: rs).map fun r => fmtP r.1 r.2)
    rw [fmtAll_join (r2 :: rs)]
theorem rd_fmtAll {rs : List RowP} (h : ∀ r ∈ rs, GoodR r.1) (hl : rs.length ≤ 20) : rdLines (lns (fmtAll rs)) 0 [] = .ok (rs.map rq) := by
  rw [fmtAll_join]
  exact rd_text (lno_fmt h) hl
theorem ats_pa (as : List Atm) : ats (as.map pa) = as := by
  unfold ats
  rw [List.map_map]
  conv => rhs; rw [← List.map_id as]
  exact List.map_congr_left fun c _ => by show (tx (cp c.1), c.2) = c; rw [tx_cp]
theorem Pats.rows {K : PySem.W.Frag} {H : Hp} : ∀ {qs : List Addr} {rs : List RowP}, Pats K H qs (rs.map rq) → Paired (fun q (r : RowP) => PatA K H q r.1 r.2) qs rs
  | _, [], h => by cases h; exact .nil
  | _, r :: rs, h => by
    have h : Paired (fun q (r : RowQ) => PatA K H q (ats r.1) r.2) _ (rq r :: rs.map rq) := h
    cases h with
    | cons a b =>
      have a : PatA K H _ (ats (r.1.map pa)) r.2 := a
      rw [ats_pa] at a
      exact .cons a (Pats.rows b)
/-- the law's rows -/
def RowsL (K : PySem.W.Frag) (H : Hp) (xs : List Addr) (rows : List RowP) : Prop := Paired (fun x (r : RowP) => ∃ al, SqT K H x [.ref al, .bl r.2] ∧ AtL K H al r.1) xs rows
def sp_law_same (K : PySem.W.Frag) : Sp := sp2 fun x y H Q => ∃ (p r : Addr) (qs xs : List Addr) (rows : List RowP), x = .ref p ∧ y = .ref r ∧ H p = some (.lst (qs.map V.ref)) ∧ H r = some (.lst (xs.map V.ref)) ∧
  Paired (fun q (r : RowP) => PatA K H q r.1 r.2) qs rows ∧ RowsL K H xs rows ∧ rows.length ≤ 20 ∧ ∀ H', Same H H' → Q (.bl true) H'
theorem prd_imp {α β : Type} {R R' : α → β → Prop} (f : ∀ {x y}, R x y → R' x y) : ∀ {xs : List α} {ys : List β}, Paired R xs ys → Paired R' xs ys := by
  intro xs ys h
  induction h with
  | nil => exact .nil
  | cons a b ih => exact .cons (f a) ih
/-! ### the place of an error, from another beginning -/
def shE {α : Type} (s : Nat) : Except Nat α → Except Nat α
  | .ok x => .ok x
  | .error e => .error (s + e)
theorem pre1_sh {s : Nat} {L : List Nat} (r : Except Nat (List Nat)) : pre1 L (shE s r) = shE s (pre1 L r) := by cases r <;> rfl
theorem rdI_sh (s : Nat) : ∀ (n : Nat) (l : List Nat) (a : Nat), l.length ≤ n → rdI l (s + a) = shE s (rdI l a)
  | _, [], a, _ => by unfold rdI; rfl
  | 0, _ :: _, _, h => by cases h
  | n + 1, [low], a, _ => by unfold rdI; split <;> rfl
  | n + 1, low :: c :: rest, a, hn => by
    rw [List.length_cons, List.length_cons] at hn
    by_cases h : itm low = true
    · by_cases q : c = 45
      · subst q
        cases rest with
        | nil => rw [rdI_end h, rdI_end h]; rfl
        | cons hh r =>
          rw [List.length_cons] at hn
          rw [rdI_rng h, rdI_rng h]
          split
          · rw [show s + a + 3 = s + (a + 3) from rfl, rdI_sh s n r (a + 3) (by omega)]
            exact pre1_sh _
          · rfl
      · have hne : ∀ x R', c :: rest = x :: R' → x ≠ 45 := fun x R' e => by
          have := (List.cons.inj e).1
          rw [← this]; exact q
        rw [rdI_one h hne, rdI_one h hne, show s + a + 1 = s + (a + 1) from rfl, rdI_sh s n (c :: rest) (a + 1) (by rw [List.length_cons]; omega)]
        exact pre1_sh _
    · have h : itm low = false := by simpa using h
      rw [rdI_bad h, rdI_bad h]
      rfl
theorem rdItems_sh (s : Nat) : ∀ (l : List Nat) (a : Nat), rdItems l (s + a) = shE s (rdItems l a)
  | [], a => by rw [rdItems_plain (by simp), rdItems_plain (by simp)]; exact rdI_sh s _ _ _ (Nat.le_refl _)
  | c :: r, a => by
    by_cases h : c = 45
    · subst h
      show pre1 [45] (rdI r (s + a + 1)) = shE s (pre1 [45] (rdI r (a + 1)))
      rw [show s + a + 1 = s + (a + 1) from rfl, rdI_sh s _ r (a + 1) (Nat.le_refl _)]
      exact pre1_sh _
    · rw [rdItems_plain (by simpa using h), rdItems_plain (by simpa using h)]
      exact rdI_sh s _ _ _ (Nat.le_refl _)
theorem rdSet_sh (s : Nat) (R : List Nat) (a : Nat) : rdSet R (s + a) = shE s (rdSet R a) := by
  unfold rdSet
  by_cases h : 93 ∉ R
  · rw [if_pos h, if_pos h]; rfl
  rw [if_neg h, if_neg h]
  dsimp only
  rw [show s + a + 1 = s + (a + 1) from rfl, show s + a + 2 = s + (a + 2) from rfl, rdItems_sh s _ (a + 1), rdItems_sh s _ (a + 2)]
  have fin : ∀ (X : List Nat) (y : (List Nat × Bool) × List Nat), (if X = [] then Except.error (s + a) else Except.ok y) = shE s (if X = [] then Except.error a else Except.ok y) := fun X y => by
    by_cases h : X = []
    · rw [if_pos h, if_pos h]; rfl
    · rw [if_neg h, if_neg h]; rfl
  split
  · generalize rdItems (R.takeWhile fun c => decide (c ≠ 93)).tail (a + 2) = r
    cases r with
    | error e => rfl
    | ok L => exact fin _ _
  · generalize rdItems (R.takeWhile fun c => decide (c ≠ 93)) (a + 1) = r
    cases r with
    | error e => rfl
    | ok L => exact fin _ _
theorem rdAtom_sh (s : Nat) (R : List Nat) (a : Nat) : rdAtom R (s + a) = shE s (rdAtom R a) := by
  cases R with
  | nil => rfl
  | cons c r =>
    rw [rdAtom_cons, rdAtom_cons]
    by_cases h1 : c = 42
    · rw [if_pos h1, if_pos h1]
      by_cases h2 : r.head? = some 42
      · rw [if_pos h2]; rfl
      · rw [if_neg h2]; rfl
    rw [if_neg h1, if_neg h1]
    by_cases h2 : c = 63
    · rw [if_pos h2, if_pos h2]; rfl
    rw [if_neg h2, if_neg h2]
    by_cases h3 : c = 91
    · rw [if_pos h3, if_pos h3]; exact rdSet_sh s r a
    rw [if_neg h3, if_neg h3]
    by_cases h4 : c ∈ CH
    · rw [if_pos h4, if_pos h4]; rfl
    · rw [if_neg h4, if_neg h4]; rfl
theorem rdAtoms_sh (s : Nat) : ∀ (n : Nat) (R : List Nat) (a : Nat) (acc : List PA), rdAtoms n R (s + a) acc = shE s (rdAtoms n R a acc)
  | 0, _, _, _ => rfl
  | n + 1, [], _, _ => rfl
  | n + 1, c :: r, a, acc => by
    cases h : rdAtom (c :: r) a with
    | error e => rw [rdAtoms_err h, rdAtoms_err (e := s + e) (by rw [rdAtom_sh, h]; rfl)]; rfl
    | ok pr =>
      obtain ⟨p, rest⟩ := pr
      rw [rdAtoms_ok h, rdAtoms_ok (p := p) (rest := rest) (by rw [rdAtom_sh, h]; rfl)]
      split
      · rfl
      · rw [Nat.add_assoc]
        exact rdAtoms_sh s n _ _ _
theorem rdPat_sh (s : Nat) (R : List Nat) (a : Nat) : rdPat R (s + a) = shE s (rdPat R a) := by
  unfold rdPat
  have hn : ∀ (b : Bool) (r : Except Nat (List PA)), negd b (shE s r) = shE s (negd b r) := fun b r => by cases r <;> rfl
  split
  · split
    · rfl
    · rw [Nat.add_assoc, rdAtoms_sh]
      exact hn _ _
  · rw [rdAtoms_sh]
    exact hn _ _
/-! ### what is read is good -/
def GoodPA (p : PA) : Prop := p.1.Sublist CH ∧ p.1 ≠ [] ∧ (p.2 = true → p.1 = NS ∨ p.1 = CH)
theorem GoodPA.at {p : PA} (h : GoodPA p) : goodC (tx p.1, p.2) := ⟨⟨by rw [cp_tx]; exact h.1, by rw [cp_tx]; exact h.2.1⟩, fun e => by rw [cp_tx]; exact h.2.2 e⟩
theorem ns_sub : NS.Sublist CH := List.filter_sublist
theorem rdSet_good {R : List Nat} {a : Nat} {p : PA} {rest : List Nat} (h : rdSet R a = .ok (p, rest)) : GoodPA p := by
  unfold rdSet at h
  split at h
  · cases h
  dsimp only at h
  split at h
  · split at h
    · cases h
    · split at h
      · cases h
      · rename_i q
        cases h
        exact ⟨List.filter_sublist.trans ns_sub, q, fun e => (nomatch e)⟩
  · split at h
    · cases h
    · split at h
      · cases h
      · rename_i q
        cases h
        exact ⟨List.filter_sublist, q, fun e => (nomatch e)⟩
theorem rdAtom_good {R : List Nat} {a : Nat} {p : PA} {rest : List Nat} (h : rdAtom R a = .ok (p, rest)) : GoodPA p := by
  have n1 : CH ≠ [] := by decide
  have n2 : NS ≠ [] := by decide
  cases R with
  | nil => cases h
  | cons c r =>
    rw [rdAtom_cons] at h
    split at h
    · split at h
      · cases h; exact ⟨List.Sublist.refl _, n1, fun _ => .inr rfl⟩
      · cases h; exact ⟨ns_sub, n2, fun _ => .inl rfl⟩
    · split at h
      · cases h; exact ⟨ns_sub, n2, fun e => (nomatch e)⟩
      · split at h
        · exact rdSet_good h
        · split at h
          · rename_i q
            cases h
            exact ⟨List.singleton_sublist.mpr q, by simp, fun e => (nomatch e)⟩
          · cases h
theorem rep_ats (acc : List PA) (i : Nat) : rep (ats acc) i = ((acc[i]?).map (·.2)).getD false := by
  unfold rep ats
  rw [List.getElem?_map]
  cases acc[i]? <;> rfl
theorem rdAtoms_good : ∀ (n : Nat) (R : List Nat) (a : Nat) (acc out : List PA), (∀ p ∈ acc, GoodPA p) → acc.length ≤ 40 → noTwo (ats acc) → rdAtoms n R a acc = .ok out →
    (∀ p ∈ out, GoodPA p) ∧ out.length ≤ 40 ∧ noTwo (ats out) ∧ acc.length ≤ out.length ∧ (n ≠ 0 → R ≠ [] → acc.length < out.length)
  | 0, _, _, acc, out, h1, h2, h3, h => by
    cases h
    exact ⟨h1, h2, h3, Nat.le_refl _, fun h => absurd rfl h⟩
  | n + 1, [], _, acc, out, h1, h2, h3, h => by
    cases h
    exact ⟨h1, h2, h3, Nat.le_refl _, fun _ h => absurd rfl h⟩
  | n + 1, c :: r, a, acc, out, h1, h2, h3, h => by
    cases e : rdAtom (c :: r) a with
    | error e' => rw [rdAtoms_err e] at h; cases h
    | ok pr =>
      obtain ⟨p, rest⟩ := pr
      rw [rdAtoms_ok e] at h
      split at h
      · cases h
      rename_i q
      have g := rdAtoms_good n rest _ (acc ++ [p]) out (fun x hx => by
        rcases List.mem_append.mp hx with hx | hx
        · exact h1 x hx
        · rw [List.mem_singleton.mp hx]; exact rdAtom_good e) (by rw [List.length_append]; show _ + 1 ≤ 40; omega) (by
          have e9 : ats (acc ++ [p]) = ats acc ++ [(tx p.1, p.2)] := by unfold ats; rw [List.map_append]; rfl
          rw [e9]
          refine two_app h3 fun m hm hr => ?_
          rw [rep_ats] at hr
          have hl : acc.length = m + 1 := by rw [← hm]; unfold ats; rw [List.length_map]
          have hlast : lastRep acc = true := by
            unfold lastRep
            rw [List.getLast?_eq_getElem?, hl]
            exact hr
          cases hp : p.2 with
          | false => rfl
          | true => exact absurd (.inr ⟨hp, hlast⟩) q) h
      obtain ⟨g1, g2, g3, g4, g5⟩ := g
      rw [List.length_append] at g4
      have g4 : acc.length + 1 ≤ out.length := g4
      exact ⟨g1, g2, g3, by omega, fun _ _ => by omega⟩
theorem rdPat_good {R : List Nat} {a : Nat} {as : List PA} {neg : Bool} (hR : R ≠ []) (h : rdPat R a = .ok (as, neg)) : GoodR (ats as) := by
  have fin : ∀ (n : Nat) (R : List Nat) (a : Nat), n ≠ 0 → R ≠ [] → rdAtoms n R a [] = .ok as → GoodR (ats as) := fun n R a h1 h2 h => by
    obtain ⟨g1, g2, g3, _, g5⟩ := rdAtoms_good n R a [] as (fun p h => (nomatch h)) (Nat.zero_le _) (fun k h => by rw [rep_ats] at h; simp at h) h
    have g5 := g5 h1 h2
    have hl : (ats as).length = as.length := List.length_map ..
    refine ⟨g3, by rw [hl]; exact g5, by rw [hl]; exact g2, fun c hc => ?_⟩
    obtain ⟨p, hp, rfl⟩ := List.mem_map.mp hc
    exact (g1 p hp).at
  unfold rdPat at h
  split at h
  · split at h
    · cases h
    rename_i q
    cases e : rdAtoms R.tail.length R.tail (a + 1) [] with
    | error _ => rw [e] at h; cases h
    | ok x =>
      rw [e] at h
      cases h
      exact fin _ _ _ (fun z => q (List.eq_nil_of_length_eq_zero z)) q e
  · cases e : rdAtoms R.length R a [] with
    | error _ => rw [e] at h; cases h
    | ok x =>
      rw [e] at h
      cases h
      exact fin _ _ _ (fun z => hR (List.eq_nil_of_length_eq_zero z)) hR e
/-- a row read, as the law holds it -/
def rp (r : RowQ) : RowP := (ats r.1, r.2)
theorem rq_rp (r : RowQ) : rq (rp r) = r := by
  obtain ⟨as, b⟩ := r
  unfold rq rp ats
  rw [List.map_map]
  show (as.map _, b) = (as, b)
  congr 1
  conv => rhs; rw [← List.map_id as]
  exact List.map_congr_left fun c _ => by show (cp (tx c.1), c.2) = c; rw [cp_tx]
theorem rqs_rp (rs : List RowQ) : (rs.map rp).map rq = rs := by
  rw [List.map_map]
  conv => rhs; rw [← List.map_id rs]
  exact List.map_congr_left fun c _ => rq_rp c
theorem rdLines_good : ∀ (ls : List (List Nat)) (a : Nat) (acc out : List RowQ), (∀ r ∈ acc, GoodR (rp r).1) → acc.length ≤ 20 → rdLines ls a acc = .ok out → (∀ r ∈ out, GoodR (rp r).1) ∧ out.length ≤ 20
  | [], _, acc, out, h1, h2, h => by cases h; exact ⟨h1, h2⟩
  | x :: xs, a, acc, out, h1, h2, h => by
    by_cases hx : x = [] ∨ x.head? = some 35
    · rw [rdLines_skip hx] at h
      exact rdLines_good xs _ acc out h1 h2 h
    by_cases h20 : acc.length = 20
    · rw [rdLines_20 hx h20] at h; cases h
    cases e : rdPat x a with
    | error i => rw [rdLines_err hx h20 e] at h; cases h
    | ok p =>
      rw [rdLines_ok hx h20 e] at h
      refine rdLines_good xs _ _ out (fun r hr => ?_) (by rw [List.length_append]; show _ + 1 ≤ 20; omega) h
      rcases List.mem_append.mp hr with hr | hr
      · exact h1 r hr
      · rw [List.mem_singleton.mp hr]
        exact rdPat_good (fun z => hx (.inl z)) e
/-! ### promises -/
/-- what the law's reader answers from a on: an atom and the place behind it, or the place of the error -/
def ResQ (K : PySem.W.Frag) (z : Str) (a : Nat) (H : Hp) (r : Except Nat (PA × List Nat)) (Q : VK) : Prop :=
  (∀ (S : List Nat) (b : Bool) (j : Nat) (p q : Addr) (H' : Hp), r = .ok ((S, b), (cp z).drop j) → a < j → j ≤ z.length → Same H H' → SqT K H' p [.ref q, .int j] → SqT K H' q [.str (tx S), .bl b] → Q (.ref p) H') ∧
  (∀ (i : Nat) (H' : Hp), r = .error i → Same H H' → Q (.int i) H')
def sp_law_set (K : PySem.W.Frag) : Sp := sp2 fun x y H Q => ∃ (z : Str) (a : Nat), x = .str z ∧ y = .int a ∧ (cp z)[a]? = some 91 ∧ z.length ≤ 1000 ∧ ResQ K z a H (rdSet ((cp z).drop (a + 1)) a) Q
def sp_law_read (K : PySem.W.Frag) : Sp := sp2 fun x y H Q => ∃ (z : Str) (a : Nat), x = .str z ∧ y = .int a ∧ a < z.length ∧ z.length ≤ 1000 ∧ ResQ K z a H (rdAtom ((cp z).drop a) a) Q
def sp_law_line (K : PySem.W.Frag) : Sp := sp1 fun x H Q => ∃ z : Str, x = .str z ∧ 0 < z.length ∧ z.length ≤ 1000 ∧
  (∀ (as : List PA) (neg : Bool) (p al : Addr) (H' : Hp), rdPat (cp z) 0 = .ok (as, neg) → Same H H' → H al = none → SqT K H' p [.ref al, .bl neg] → AtP K H' al (ats as) → Q (.ref p) H') ∧
  (∀ (i : Nat) (H' : Hp), rdPat (cp z) 0 = .error i → Same H H' → Q (.int i) H')
def sp_law_due (K : PySem.W.Frag) : Sp := sp1 fun x H Q => ∃ z : Str, x = .str z ∧ z.length ≤ 1000 ∧
  (∀ (rows : List RowQ) (p : Addr) (xs : List Addr) (H' : Hp), rdLines (lns (cp z)) 0 [] = .ok rows → Same H H' → H' p = some (.lst (xs.map V.ref)) → RowsL K H' xs (rows.map rp) → Q (.ref p) H') ∧
  (∀ (i : Nat) (H' : Hp), rdLines (lns (cp z)) 0 [] = .error i → Same H H' → Q (.int i) H')
def sp_law_text (K : PySem.W.Frag) : Sp := sp2 fun a b H Q => ∃ (st sc : Addr) (ns : List Int), a = .ref st ∧ b = .ref sc ∧ Dr K st sc ns H ∧
  ∀ (z : Str) (H' : Hp), z.length ≤ 1000 → Kp st H H' → Dr K st sc ns H' → Q (.str z) H'
def sp_law_told_of (K : PySem.W.Frag) : Sp := sp1 fun x H Q => ∃ z : Str, x = .str z ∧ z.length ≤ 1000000 ∧
  (∀ (rows : List RowQ) (p : Addr) (qs : List Addr) (H' : Hp), rdLines (lns (cp z)) 0 [] = .ok rows → Same H H' → H' p = some (.lst (qs.map V.ref)) → Pats K H' qs rows → Q (.ref p) H') ∧
  (∀ (i : Nat) (H' : Hp), rdLines (lns (cp z)) 0 [] = .error i → Same H H' → Q (.int i) H')
def sp_law (K : PySem.W.Frag) : Sp := sp1 fun x H Q => ∃ (a : Addr) (ns : List Int), x = .ref a ∧ SqL K H a (ns.map V.int) ∧ ns.length ≤ 63 ∧ ∀ H', Q (.bl true) H'
/-! ### the line up to the first ] -/
theorem tw_at : ∀ {R : List Nat}, 93 ∈ R → R[(R.takeWhile fun c => decide (c ≠ 93)).length]? = some 93 ∧ ∀ i, i < (R.takeWhile fun c => decide (c ≠ 93)).length → R[i]? ≠ some 93
  | [], h => nomatch h
  | c :: R, h => by
    by_cases e : c = 93
    · subst e
      rw [List.takeWhile_cons_of_neg (by decide)]
      exact ⟨rfl, fun i hi => absurd hi (Nat.not_lt_zero _)⟩
    · have h : 93 ∈ R := by
        rcases List.mem_cons.mp h with h | h
        · exact absurd h.symm e
        · exact h
      obtain ⟨i1, i2⟩ := tw_at h
      rw [List.takeWhile_cons_of_pos (by simpa using e), List.length_cons]
      refine ⟨by rw [List.getElem?_cons_succ]; exact i1, fun i hi => ?_⟩
      cases i with
      | zero =>
        rw [List.getElem?_cons_zero]
        intro q
        exact e (Option.some.inj q)
      | succ i =>
        rw [List.getElem?_cons_succ]
        exact i2 i (by omega)
theorem tw_no : ∀ {R : List Nat}, 93 ∉ R → R.takeWhile (fun c => decide (c ≠ 93)) = R
  | [], _ => rfl
  | c :: R, h => by
    have e : c ≠ 93 := fun e => h (by rw [e]; exact List.mem_cons_self ..)
    rw [List.takeWhile_cons_of_pos (by simpa using e), tw_no fun m => h (List.mem_cons_of_mem _ m)]
/-- the place of the ] that closes, or none -/
theorem close_at (l : List Nat) (a : Nat) (ha : a < l.length) : (93 ∉ l.drop (a + 1) ∧ a + 1 + ((l.drop (a + 1)).takeWhile fun c => decide (c ≠ 93)).length = l.length) ∨
    (a + 1 + ((l.drop (a + 1)).takeWhile fun c => decide (c ≠ 93)).length < l.length ∧ l[a + 1 + ((l.drop (a + 1)).takeWhile fun c => decide (c ≠ 93)).length]? = some 93 ∧
      ∀ i, a + 1 ≤ i → i < a + 1 + ((l.drop (a + 1)).takeWhile fun c => decide (c ≠ 93)).length → l[i]? ≠ some 93) := by
  by_cases h : 93 ∈ l.drop (a + 1)
  · obtain ⟨i1, i2⟩ := tw_at h
    generalize ((l.drop (a + 1)).takeWhile fun c => decide (c ≠ 93)).length = m at i1 i2
    rw [List.getElem?_drop] at i1
    refine .inr ⟨(List.getElem?_eq_some_iff.mp i1).1, i1, fun i h1 h2 => ?_⟩
    have := i2 (i - (a + 1)) (by omega)
    rw [List.getElem?_drop, show a + 1 + (i - (a + 1)) = i by omega] at this
    exact this
  · refine .inl ⟨h, ?_⟩
    rw [tw_no h, List.length_drop]
    omega
theorem tw_eq {l : List Nat} {a k : Nat} (h9 : l[k]? = some 93) (hn : ∀ i, a ≤ i → i < k → l[i]? ≠ some 93) (hak : a ≤ k) : (l.drop a).takeWhile (fun c => decide (c ≠ 93)) = (l.take k).drop a := by
  have hk := (List.getElem?_eq_some_iff.mp h9).1
  have := (while_at (Nat.le_refl _) hk h9 (k - a) a (by omega) hn).1
  rw [List.take_length] at this
  exact this
theorem rdSet_at {l : List Nat} {a k c : Nat} (h9 : l[k]? = some 93) (hn : ∀ i, a + 1 ≤ i → i < k → l[i]? ≠ some 93) (hak : a < k) (hc : l[a + 1]? = some c) : rdSet (l.drop (a + 1)) a = if c = 33 then
        match rdItems ((l.take k).drop (a + 2)) (a + 2) with
        | .error e => .error e
        | .ok L => if (NS.filter fun c => decide (c ∉ L)) = [] then .error a else .ok ((NS.filter fun c => decide (c ∉ L), false), l.drop (k + 1))
      else
        match rdItems ((l.take k).drop (a + 1)) (a + 1) with
        | .error e => .error e
        | .ok L => if (CH.filter fun c => decide (c ∈ L)) = [] then .error a else .ok ((CH.filter fun c => decide (c ∈ L), false), l.drop (k + 1)) := by
  have hk := (List.getElem?_eq_some_iff.mp h9).1
  obtain ⟨w1, w2⟩ := while_at (Nat.le_refl _) hk h9 (k - (a + 1)) (a + 1) (by omega) hn
  rw [List.take_length] at w1 w2
  have hb : ((l.take k).drop (a + 1)).head? = some 33 ↔ c = 33 := by
    by_cases e : a + 1 = k
    · rw [e, h9] at hc
      cases hc
      rw [e, tk_end]
      simp
    · obtain ⟨c', h1, h2⟩ := tk_drop2 (l := l) (i := a + 1) (e := k) (by omega) (by omega)
      rw [hc] at h1
      cases h1
      rw [h2]
      simp
  have h93 : ¬ 93 ∉ l.drop (a + 1) := by
    intro h
    have h7 : 93 ∈ l.drop (a + 1) := (List.dropWhile_sublist (l := l.drop (a + 1)) fun c => decide (c ≠ 93)).subset (by rw [w2]; exact List.mem_cons_self ..)
    exact h h7
  unfold rdSet
  rw [if_neg h93, w1, w2]
  by_cases q : c = 33
  · rw [if_pos q]
    dsimp only
    rw [if_pos (hb.mpr q), List.tail_drop]
    rfl
  · rw [if_neg q]
    dsimp only
    rw [if_neg (fun h => q (hb.mp h))]
    rfl
theorem spl_93 : ∀ (l acc : List Nat), (TL.spl [93] 0 acc l).head? = some (acc ++ l.takeWhile fun c => decide (c ≠ 93))
  | [], acc => by
    rw [TL.spl_nil]
    show some acc = some (acc ++ [])
    rw [List.append_nil]
  | c :: r, acc => by
    by_cases h : c = 93
    · subst h
      rw [TL.spl_hit (show TL.pre [93] (93 :: r) = true from TL.pre_self [93] r), List.takeWhile_cons_of_neg (by decide), List.append_nil]
      rfl
    · rw [TL.spl_miss (TL.pre_of_head [] r h), spl_93 r, List.takeWhile_cons_of_pos (by simpa using h), List.append_assoc]
      rfl
theorem split_93 (z : Str) : ∃ (b : Str) (t : List Str), Txt.split z ("]" : Str) = b :: t ∧ cp b = (cp z).takeWhile fun c => decide (c ≠ 93) := by
  have h := TL.split_spl z ("]" : Str) (by decide) (TL.kind_ok (by decide +kernel))
  have e : TL.tl ("]" : Str) = [93] := rfl
  rw [e] at h
  have h2 := spl_93 (TL.tl z) []
  rw [← h] at h2
  have h3 : ((Txt.split z ("]" : Str)).map cp).head? = some ([] ++ (cp z).takeWhile fun c => decide (c ≠ 93)) := h2
  cases q : Txt.split z ("]" : Str) with
  | nil =>
    rw [q] at h3
    cases h3
  | cons b t =>
    rw [q] at h3
    exact ⟨b, t, rfl, Option.some.inj h3⟩
theorem ch_in {S : List Nat} (h : S.Sublist CH) : (CH.filter fun c => decide (c ∈ S)) = S := by
  have hn : CH.Nodup := by decide +kernel
  have hs := List.filter_sublist (p := fun c => decide (c ∈ S)) (l := CH)
  have h1 : S.Sublist (CH.filter fun c => decide (c ∈ S)) := by
    have := h.filter fun c => decide (c ∈ S)
    rwa [List.filter_eq_self.mpr fun c hc => decide_eq_true hc] at this
  refine (h1.eq_of_length_le ?_).symm
  exact List.Nodup.length_le_of_subset (hn.sublist hs) fun c hc => of_decide_eq_true (List.mem_filter.mp hc).2
theorem ns_not (L : List Nat) : (CH.filter fun c => decide (c ∉ L ++ [47])) = NS.filter fun c => decide (c ∉ L) := by
  unfold NS
  rw [List.filter_filter]
  refine List.filter_congr fun c _ => ?_
  rw [← Bool.decide_and]
  refine decide_eq_decide.mpr ?_
  rw [List.mem_append, List.mem_singleton, not_or]
theorem rng_one {c : Nat} (h : c ∈ CH) : rngC c c = [c] := by
  have h2 : (CH.filter fun x => decide (x ∈ [c])) = [c] := ch_in (List.singleton_sublist.mpr h)
  unfold rngC
  rw [← h2]
  refine List.filter_congr fun x _ => ?_
  rw [← Bool.decide_and]
  refine decide_eq_decide.mpr ?_
  rw [List.mem_singleton]
  omega
theorem cp_from (z : Str) (lo : Nat) (h : lo ≤ (cp z).length) : cp (cutS z (some (lo : Int)) none) = (cp z).drop lo := by
  unfold cutS
  rw [HT.sIx_nat]
  have e : z.length = (cp z).length := (cp_len z).symm
  rw [e, Nat.min_eq_left h]
  show (((cp z).drop lo).take (z.length - lo)).toArray.toList = _
  rw [List.toList_toArray, List.take_of_length_le (by rw [List.length_drop]; omega)]
theorem cp_cut0 (z : Str) (n : Nat) : cp (cutS z none (some (n : Int))) = (cp z).take n := by
  unfold cutS
  rw [HT.sIx_nat]
  show (((cp z).drop 0).take (min n z.length - 0)).toArray.toList = _
  rw [List.toList_toArray, List.drop_zero, Nat.sub_zero, ← cp_len]
  by_cases h : n ≤ (cp z).length
  · rw [Nat.min_eq_left h]
  · rw [Nat.min_eq_right (by omega), List.take_of_length_le (Nat.le_refl _), List.take_of_length_le (by omega)]
theorem cut1_dec (b : Str) : decide (cutS b none (some (1 : Int)) = ("!" : Str)) = decide ((cp b).head? = some 33) := by
  have h := cp_cut0 b 1
  refine decide_eq_decide.mpr ⟨fun e => ?_, fun e => str_ext ?_⟩
  · have h2 : cp (cutS b none (some ((1 : Nat) : Int))) = [33] := by
      show cp (cutS b none (some (1 : Int))) = _
      rw [e]; rfl
    rw [h] at h2
    cases q : cp b with
    | nil => rw [q] at h2; cases h2
    | cons x r =>
      rw [q] at h2
      have h3 : x = 33 := (List.cons.inj h2).1
      rw [h3]
      rfl
  · have h2 : cp (cutS b none (some (1 : Int))) = (cp b).take 1 := h
    rw [h2]
    cases q : cp b with
    | nil => rw [q] at e; cases e
    | cons x r =>
      rw [q] at e
      have h3 : x = 33 := Option.some.inj e
      rw [h3]
      rfl
theorem head_33 {l : List Nat} {a k c : Nat} (h9 : l[k]? = some 93) (hak : a < k) (hc : l[a + 1]? = some c) : ((l.take k).drop (a + 1)).head? = some 33 ↔ c = 33 := by
  have hk := (List.getElem?_eq_some_iff.mp h9).1
  by_cases e : a + 1 = k
  · rw [e, h9] at hc
    cases hc
    rw [e, tk_end]
    simp
  · obtain ⟨c', h1, h2⟩ := tk_drop2 (l := l) (i := a + 1) (e := k) (by omega) (by omega)
    rw [hc] at h1
    cases h1
    rw [h2]
    simp
theorem ch_ge : ∀ c ∈ CH, 45 ≤ c := by decide +kernel
/-- the law's rows, none of them or of their atoms the list D that grows -/
def RwD (K : PySem.W.Frag) (D : Addr) (H : Hp) (xs : List Addr) (rows : List RowP) : Prop := Paired (fun x (r : RowP) => ∃ al, SqT K H x [.ref al, .bl r.2] ∧ al ≠ D ∧ AtP K H al r.1) xs rows
theorem RwD.rows {K : PySem.W.Frag} {D : Addr} {H : Hp} : ∀ {xs : List Addr} {rows : List RowP}, RwD K D H xs rows → RowsL K H xs rows := by
  intro xs rows h
  unfold RwD at h
  unfold RowsL
  induction h with
  | nil => exact .nil
  | cons a b ih =>
    obtain ⟨al, h1, h2, qs, h3, h4⟩ := a
    exact .cons ⟨al, h1, qs, SqL.of h3, h4⟩ ih
theorem RwD.same {K : PySem.W.Frag} {D : Addr} {H H' : Hp} (s : Same H H') {xs : List Addr} {rows : List RowP} (h : RwD K D H xs rows) : RwD K D H' xs rows := by
  unfold RwD at h ⊢
  induction h with
  | nil => exact .nil
  | cons a b ih =>
    obtain ⟨al, h1, h2, qs, h3, h4⟩ := a
    exact .cons ⟨al, same_tup s h1, h2, qs, s _ _ h3, ats_same s h4⟩ ih
theorem RwD.updL {K : PySem.W.Frag} {D : Addr} {H : Hp} {ys : List V} {o : HO} (e : H D = some (.lst ys)) {xs : List Addr} {rows : List RowP} (h : RwD K D H xs rows) : RwD K D (upd H D o) xs rows := by
  unfold RwD at h ⊢
  induction h with
  | nil => exact .nil
  | cons a b ih =>
    obtain ⟨al, h1, h2, h3⟩ := a
    exact .cons ⟨al, tup_updL e h1, h2, h3.updL e h2⟩ ih
theorem isi_ti {K : PySem.W.Frag} {H : Hp} {Q : VK} {p : Addr} {xs : List V} (h : SqT K H p xs) (q : Q (.bl false) H) : rIsi K [.ref p, .ty "int"] H Q := by
  refine isi_ty (t := "tuple") ?_ (kit_ty (by decide +kernel)) q
  rcases h with (h | ⟨o, h⟩) | ⟨o, its, n, h1, h2, _⟩
  · exact .base (.tup h)
  · exact .fTuple h
  · exact .kTuple h1 h2
theorem isi_ii {K : PySem.W.Frag} {H : Hp} {Q : VK} {i : Int} (q : Q (.bl true) H) : rIsi K [.int i, .ty "int"] H Q := isi_ty (.base (.int i)) (kit_ty (by decide +kernel)) q
theorem isi_ib {K : PySem.W.Frag} {H : Hp} {Q : VK} {i : Int} (q : Q (.bl false) H) : rIsi K [.int i, .ty "bool"] H Q := isi_ty (.base (.int i)) (kit_ty (by decide +kernel)) q
theorem isi_li {K : PySem.W.Frag} {H : Hp} {Q : VK} {p : Addr} {xs : List V} (h : H p = some (.lst xs)) (q : Q (.bl false) H) : rIsi K [.ref p, .ty "int"] H Q := isi_ty (.base (.lst h)) (kit_ty (by decide +kernel)) q
theorem RowsL.same {K : PySem.W.Frag} {H H' : Hp} {xs : List Addr} {rows : List RowP} (h : RowsL K H xs rows) (s : Same H H') : RowsL K H' xs rows := by
  unfold RowsL at h ⊢
  induction h with
  | nil => exact .nil
  | cons a b ih =>
    obtain ⟨al, h1, qs, h3, h4⟩ := a
    exact .cons ⟨al, same_tup s h1, qs, s.seq h3, ats_same s h4⟩ ih
def pcs : List Str := (["*", "**", "?", "[", "]", "!", "-", "a", "b", "~", "/", "A-", "a-c", "c-a", "[a-c]", "[!-x]", "[!", "#", " "] : List Str) ++ (["[-", "\n", "\n", "[.-9]", "[!-.0-~]", "[]", "[!]", "Z", "7", "[ab", "x]", "^", "{", "\n#", "\n!", "_"] : List Str)
theorem pcs_len {z : Str} (h : z ∈ pcs) : z.length ≤ 8 := (by decide +kernel : ∀ z ∈ pcs, z.length ≤ 8) z h
theorem pcs_n : pcs.length = 35 := rfl
def szL (ls : List (List Nat)) : Nat := (ls.map fun x => x.length + 1).sum
theorem join_sz : ∀ ls : List (List Nat), (joinN ls).length ≤ szL ls
  | [] => Nat.le_refl _
  | [x] => by unfold szL; simp [joinN]
  | x :: y :: r => by
    have ih := join_sz (y :: r)
    show (x ++ [10] ++ joinN (y :: r)).length ≤ _
    unfold szL at ih ⊢
    rw [List.map_cons, List.sum_cons, List.length_append, List.length_append]
    show x.length + 1 + _ ≤ _
    omega
theorem good_len {as : List Atm} (g : GoodR as) : ∀ c ∈ as, c.1.length ≤ 100 := fun c hc => Nat.le_trans (okS_len (g.good c hc).1).2 (by decide)
theorem szfmt : ∀ {rows : List RowP}, (∀ r ∈ rows, GoodR r.1) → szL (rows.map fun r => fmtP r.1 r.2) ≤ 12500 * rows.length
  | [], _ => Nat.zero_le _
  | r :: rows, h => by
    have ih := szfmt fun x hx => h x (List.mem_cons_of_mem _ hx)
    have g := h r (by simp)
    have h1 := fmtRow_len r.1 (good_len g)
    have h2 := g.le
    have h3 : (fmtP r.1 r.2).length ≤ 12401 := by
      unfold fmtP
      rw [List.length_append]
      have : (if r.2 = true then [33] else ([] : List Nat)).length ≤ 1 := by split <;> decide
      omega
    have e : szL ((r :: rows).map fun r => fmtP r.1 r.2) = (fmtP r.1 r.2).length + 1 + szL (rows.map fun r => fmtP r.1 r.2) := rfl
    rw [e, List.length_cons]
    omega
theorem cat_new {H : Hp} {l1 l2 : Addr} {xs ys : List V} {Q : VK} (h1 : H l1 = none) (h2 : upd H l1 (.lst xs) l2 = none) (hn : xs.length + ys.length ≤ 100000) (q : ∀ p H', Same H H' → H p = none → H' p = some (.lst (xs ++ ys)) → Q (.ref p) H') : rCat (.ref l1) (.ref l2) (upd (upd H l1 (.lst xs)) l2 (.lst ys)) Q := by
  have nl : l1 ≠ l2 := fun e => by rw [← e, upd_same] at h2; cases h2
  have s12 : Same H (upd (upd H l1 (.lst xs)) l2 (.lst ys)) := (same_new h1).trans (same_new h2)
  refine ⟨l1, l2, xs, ys, rfl, rfl, by rw [upd_ne nl]; exact upd_same, upd_same, Nat.le_trans hn (by decide), fun p hp => q p _ (s12.trans (same_new hp)) ?_ upd_same⟩
  cases e : H p with
  | none => rfl
  | some o => rw [s12 _ _ e] at hp; cases hp
abbrev cFE (K : PySem.W.Frag) : Addr := He.ga K "FolderkinError"
def tsOut (K : PySem.W.Frag) : Addr → Value → Option Addr → TS := fun a cls d => tSeq (tIfS (tOr (tNot (tB (tCB (rIsP K (cIP K) a cls d) (tCons (tVar 1) (tCons (tC (.ref (cFE K))) tNil)))))
  (tNot (tB (tCB (rIsP K (cIP K) a cls d) (tCons (tVar 1) (tCons (tC (.ty "ValueError")) tNil)))))) (tRet (tC .non)) tNext) (tRet (tPlcErr (cIP K) a cls d (tVar 1)))
set_option maxHeartbeats 0
def d_Pattern___init__ : He.DefD := ⟨("Pattern", some "__init__"), "__init__", "Pattern.__init__", defArgs s_Pattern___init__, defBody s_Pattern___init__, defScope s_Pattern___init__, [.bl false], []⟩
def d_format_patterns : He.DefD := ⟨("format_patterns", none), "format_patterns", "format_patterns", defArgs s_format_patterns, defBody s_format_patterns, defScope s_format_patterns, [], []⟩
def d_format_pattern : He.DefD := ⟨("_format_pattern", none), "_format_pattern", "_format_pattern", defArgs s_format_pattern, defBody s_format_pattern, defScope s_format_pattern, [], []⟩
def d_format_atom : He.DefD := ⟨("_format_atom", none), "_format_atom", "_format_atom", defArgs s_format_atom, defBody s_format_atom, defScope s_format_atom, [], []⟩
def d_format_items : He.DefD := ⟨("_format_items", none), "_format_items", "_format_items", defArgs s_format_items, defBody s_format_items, defScope s_format_items, [], []⟩
def d_format_run : He.DefD := ⟨("_format_run", none), "_format_run", "_format_run", defArgs s_format_run, defBody s_format_run, defScope s_format_run, [], []⟩
def d_parse_patterns : He.DefD := ⟨("parse_patterns", none), "parse_patterns", "parse_patterns", defArgs s_parse_patterns, defBody s_parse_patterns, defScope s_parse_patterns, [], []⟩
def d_read_pattern : He.DefD := ⟨("_read_pattern", none), "_read_pattern", "_read_pattern", defArgs s_read_pattern, defBody s_read_pattern, defScope s_read_pattern, [], []⟩
def d_read_atom : He.DefD := ⟨("_read_atom", none), "_read_atom", "_read_atom", defArgs s_read_atom, defBody s_read_atom, defScope s_read_atom, [], []⟩
def d_read_set : He.DefD := ⟨("_read_set", none), "_read_set", "_read_set", defArgs s_read_set, defBody s_read_set, defScope s_read_set, [], []⟩
def d_read_items : He.DefD := ⟨("_read_items", none), "_read_items", "_read_items", defArgs s_read_items, defBody s_read_items, defScope s_read_items, [], []⟩
def d_is_item : He.DefD := ⟨("_is_item", none), "_is_item", "_is_item", defArgs s_is_item, defBody s_is_item, defScope s_is_item, [], []⟩
def d_law_draw : He.DefD := ⟨("_law_draw", none), "_law_draw", "_law_draw", defArgs s_law_draw, defBody s_law_draw, defScope s_law_draw, [], []⟩
def d_law_all : He.DefD := ⟨("_law_all", none), "_law_all", "_law_all", defArgs s_law_all, defBody s_law_all, defScope s_law_all, [], []⟩
def d_law_told : He.DefD := ⟨("_law_told", none), "_law_told", "_law_told", defArgs s_law_told, defBody s_law_told, defScope s_law_told, [], []⟩
def d_law_same : He.DefD := ⟨("_law_same", none), "_law_same", "_law_same", defArgs s_law_same, defBody s_law_same, defScope s_law_same, [], []⟩
def d_law_set : He.DefD := ⟨("_law_set", none), "_law_set", "_law_set", defArgs s_law_set, defBody s_law_set, defScope s_law_set, [], []⟩
def d_law_read : He.DefD := ⟨("_law_read", none), "_law_read", "_law_read", defArgs s_law_read, defBody s_law_read, defScope s_law_read, [], []⟩
def d_law_line : He.DefD := ⟨("_law_line", none), "_law_line", "_law_line", defArgs s_law_line, defBody s_law_line, defScope s_law_line, [], []⟩
def d_law_due : He.DefD := ⟨("_law_due", none), "_law_due", "_law_due", defArgs s_law_due, defBody s_law_due, defScope s_law_due, [], []⟩
def d_law_text : He.DefD := ⟨("_law_text", none), "_law_text", "_law_text", defArgs s_law_text, defBody s_law_text, defScope s_law_text, [], []⟩
def d_law_told_of : He.DefD := ⟨("_law_told_of", none), "_law_told_of", "_law_told_of", defArgs s_law_told_of, defBody s_law_told_of, defScope s_law_told_of, [], []⟩
def d_law : He.DefD := ⟨("law", none), "law", "law", defArgs s_law, defBody s_law, defScope s_law, [], []⟩
def d_init_FolderkinError : He.DefD := ⟨("FolderkinError", some "__init__"), "__init__", "FolderkinError.__init__", defArgs s_FolderkinError___init__, defBody s_FolderkinError___init__, defScope s_FolderkinError___init__, [], []⟩
def fn : List He.DefD := [d_Pattern___init__, d_format_patterns, d_format_pattern, d_format_atom, d_format_items, d_format_run, d_parse_patterns, d_read_pattern, d_read_atom, d_read_set, d_read_items, d_is_item, d_law_draw, d_law_all, d_law_told, d_law_same, d_law_set, d_law_read, d_law_line, d_law_due, d_law_text, d_law_told_of, d_law, d_init_FolderkinError]
def ex : List (PySem.W.Frag → Bool) := [errAll "InvalidPattern" "FolderkinError", clsB "Pattern"]
def fa : List He.Fa := [.glo "format_patterns", .glo "_format_pattern", .glo "_format_atom", .glo "_format_items", .glo "_format_run", .glo "parse_patterns", .glo "_read_pattern", .glo "_read_atom", .glo "_read_set", .glo "_read_items", .glo "_is_item", .glo "_law_draw", .glo "_law_all", .glo "_law_told", .glo "_law_same", .glo "_law_set", .glo "_law_read", .glo "_law_line", .glo "_law_due", .glo "_law_text", .glo "_law_told_of", .glo "law", .glo "InvalidPattern", .glo "FolderkinError", .glo "Pattern", .free "ValueError", .free "bool", .free "int", .free "isinstance", .free "len", .free "list", .free "range", .free "tuple", .str "CHARACTERS" "-./0123456789ABCDEFGHIJKLMNOPQRSTUVWXYZ_abcdefghijklmnopqrstuvwxyz~", .int "MOST_ATOMS" 40, .int "MOST_PATTERNS" 20, .str "NO_SLASH" "-.0123456789ABCDEFGHIJKLMNOPQRSTUVWXYZ_abcdefghijklmnopqrstuvwxyz~", .int "_LEAST_RUN" 3, .int "_MOST_LISTED" 33, .cls "Pattern", .noat "Pattern" "atoms", .noat "Pattern" "negated", .mkr "Pattern"]
abbrev R : PySem.W.OpenRow := PySem.W.OpenLaw.row PySem.Challenge.rw_folderkin_k42_any_text_as_patterns
abbrev hk : PySem.W.Hook := hookX 6 fa fn ex
def ob (s : PySem.W.SharedT) : AlX := obsXG 6 fa fn ex (HandSHeadRun.getT s)
theorem ob_eq (s : PySem.W.SharedT) : ob s = hk.obs s.abs := obsXG_eq (HandSHeadRun.getT_eq s)
theorem run (w : World) : HandSHeadRun.RunEq R (PySem.W.view R.prog [33]) hk ob 8000 [PySem.Str.ofString "FolderkinError", PySem.Str.ofString "InvalidPattern", PySem.Str.ofString "CHARACTERS", PySem.Str.ofString "NO_SLASH", PySem.Str.ofString "MOST_PATTERNS", PySem.Str.ofString "MOST_ATOMS", PySem.Str.ofString "_MOST_LISTED", PySem.Str.ofString "_LEAST_RUN", PySem.Str.ofString "Pattern", PySem.Str.ofString "format_patterns", PySem.Str.ofString "_format_pattern", PySem.Str.ofString "_format_atom", PySem.Str.ofString "_format_items", PySem.Str.ofString "_format_run", PySem.Str.ofString "parse_patterns", PySem.Str.ofString "_read_pattern", PySem.Str.ofString "_read_atom", PySem.Str.ofString "_read_set", PySem.Str.ofString "_read_items", PySem.Str.ofString "_is_item", PySem.Str.ofString "_law_draw", PySem.Str.ofString "_law_all", PySem.Str.ofString "_law_told", PySem.Str.ofString "_law_same", PySem.Str.ofString "_law_set", PySem.Str.ofString "_law_read", PySem.Str.ofString "_law_line", PySem.Str.ofString "_law_due", PySem.Str.ofString "_law_text", PySem.Str.ofString "_law_told_of"] w := by
  intro os
  kernel_rfl
local macro_rules | `(tactic| walk_at "dr") => `(tactic| first
  | assumption
  | exact Dr.same (by assumption) (same_new (by assumption))
  | exact Dr.same (Dr.same (by assumption) (same_new (by assumption))) (same_new (by assumption)))
local macro_rules | `(tactic| walk_at "ar") => `(tactic| first | omega | (simp only [List.length_cons, List.length_nil, List.length_map, List.length_append]; omega) | (simp only [List.length_cons, List.length_nil, List.length_map, List.length_append] at *; omega) | decide | assumption)
local macro_rules | `(tactic| walk_at "sl") => `(tactic| first
  | exact Dr.seq (by assumption)
  | assumption
  | exact SqL.of (by assumption)
  | exact SqL.of upd_same)
local macro_rules | `(tactic| walk_at "slt") => `(tactic| first
  | assumption
  | exact SqT.of (by assumption)
  | exact SqT.of upd_same)
local macro_rules | `(tactic| walk_at "size") => `(tactic| first
  | assumption
  | (refine sz_of ?_; first | decide | omega | (simp only [List.length_cons, List.length_nil, List.length_map, List.length_append] at *; omega)))
local macro_rules | `(tactic| walk_at "seq") => `(tactic| first
  | assumption
  | exact .inl (Dr.seq (by assumption))
  | exact .inl (by assumption)
  | exact .inl (SqL.of (by assumption))
  | exact .inr (by assumption)
  | exact .inr (SqT.of (by assumption)))
local macro_rules | `(tactic| walk_at "cond") => `(tactic| first
  | ((with_reducible show CMul _ _); first | exact .inr ⟨by decide, by decide⟩ | exact .inl ⟨by decide, by decide⟩ | exact .inr ⟨by omega, by omega⟩ | exact .inl ⟨by omega, by omega⟩)
  | ((with_reducible show CDivW _ _); first | exact ⟨by decide, by decide⟩ | exact wide_div (b := 60) (by omega) (by omega) (by decide) (by decide))
  | ((with_reducible show CDiv _ _); first | exact ⟨by decide, by decide⟩ | exact ⟨by omega, by omega⟩)
  | ((with_reducible show CPow _ _); exact ⟨by decide, by decide, by decide⟩)
  | (show (0 : Int) < _; first | decide | omega)
  | (show (0 : Int) ≤ _; first | decide | omega))
local macro_rules | `(tactic| walk_at "st1") => `(tactic| first
  | ((with_reducible show tVar _ _ _ _); refine e_var rfl ?_)
  | ((with_reducible show tC _ _ _ _); refine e_c ?_)
  | ((with_reducible show tOp _ _ _ _ _ _); refine e_op ?_)
  | ((with_reducible show rI0 _ _ _ _ _); refine e_I0 ?_)
  | ((with_reducible show rI _ _ _ _ _ _); refine e_I (by walk_at "cond") ?_)
  | ((with_reducible show rEq (V.int _) (V.int _) _ _); refine e_eqI ?_)
  | ((with_reducible show rNe (V.int _) (V.int _) _ _); refine e_neI ?_)
  | ((with_reducible show rEq (V.str _) (V.str _) _ _); refine e_eqS ?_)
  | ((with_reducible show rNe (V.str _) (V.str _) _ _); refine e_neS ?_)
  | ((with_reducible show rEq (V.bl _) (V.bl _) _ _); refine e_eqB ?_)
  | ((with_reducible show rNe (V.bl _) (V.bl _) _ _); refine e_neB ?_)
  | ((with_reducible show rEq _ _ _ _); refine e_eq rfl ?_)
  | ((with_reducible show rNe _ _ _ _); refine e_ne rfl ?_)
  | ((with_reducible show tTest _ _ _ _); refine e_test ?_)
  | ((with_reducible show tB _ _ _ _); refine e_B ?_)
  | ((with_reducible show ∃ k, V.bl _ = V.bl k ∧ _); refine e_ex ?_)
  | ((with_reducible show ∃ k, V.int _ = V.int k ∧ _); refine e_exI ?_)
  | ((with_reducible show tAnd _ _ _ _ _); refine e_and ?_)
  | ((with_reducible show tOr _ _ _ _ _); refine e_or ?_)
  | ((with_reducible show tNot _ _ _ _); refine e_not ?_)
  | ((with_reducible show tYes _ _ _); refine e_yes ?_))
local macro_rules | `(tactic| walk_at "st2") => `(tactic| first
  | ((with_reducible show tAndV _ _ _ _ _); refine e_andV ?_)
  | ((with_reducible show tOrV _ _ _ _ _); refine e_orV ?_)
  | ((with_reducible show tNotV _ _ _ _); refine e_notV ?_)
  | ((with_reducible show tIf _ _ _ _ _ _); refine e_if ?_)
  | ((with_reducible show tChain _ _ _ _ _ _ _ _); refine e_chain ?_)
  | ((with_reducible show tSeq _ _ _ _ _); refine e_seq ?_)
  | ((with_reducible show tNext _ _ _); refine e_next ?_)
  | ((with_reducible show tBreak _ _ _); refine e_break ?_)
  | ((with_reducible show tCont _ _ _); refine e_cont ?_)
  | ((with_reducible show tDrop _ _ _ _); refine e_drop ?_)
  | ((with_reducible show tRet _ _ _ _); refine e_ret ?_)
  | ((with_reducible show tRetN _ _ _); refine e_retN ?_)
  | ((with_reducible show tIfS _ _ _ _ _ _); refine e_ifS ?_)
  | ((with_reducible show tAsg _ _ _ _ _); refine e_asg ?_)
  | ((with_reducible show gName _ _ _ _ _); refine e_name ?_)
  | ((with_reducible show gSub _ _ _ _ _ _ _); refine e_sub ?_)
  | ((with_reducible show tNil _ _ _); refine e_nil ?_)
  | ((with_reducible show tCons _ _ _ _ _); refine e_cons ?_)
  | ((with_reducible show tCall _ _ _ _ _ _ _); refine e_call ?_)
  | ((with_reducible show tCB _ _ _ _ _); refine e_CB ?_)
  | ((with_reducible show tTup _ _ _ _); refine e_tup ?_)
  | ((with_reducible show tLst _ _ _ _); refine e_lst ?_)
  | ((with_reducible show tSl _ _ _ _ _ _ _); refine e_sl ?_)
  | ((with_reducible show tNoPart _ _ _); refine e_noP ?_)
  | ((with_reducible show tPart _ _ _ _); refine e_part ?_)
  | ((with_reducible show tBM _ _ _ _ _ _ _ _); refine e_bm ?_)
  | ((with_reducible show tFor _ _ _ _ _ _); refine e_for ?_)
  | ((with_reducible show iList _ _ _ _ _); refine e_iList ?_)
  | ((with_reducible show iTup _ _ _ _ _); refine e_iTup ?_)
  | ((with_reducible show iStr _ _ _ _); refine e_iStr ?_)
  | ((with_reducible show iRng1 _ _ _ _); refine e_iRng1 ?_)
  | ((with_reducible show iRng2 _ _ _ _); refine e_iRng2 ?_)
  | ((with_reducible show (∃ i', [V.int _] = [V.int i'] ∧ _) ∨ ∃ k, [V.int _] = [V.bl k] ∧ _); refine Or.inl ⟨_, rfl, ?_⟩)
  | ((with_reducible show ∃ p ys, [V.ref _] = [V.ref p] ∧ (SqL _ _ p ys ∨ SqT _ _ p ys) ∧ _); refine ⟨_, _, rfl, (by walk_at "seq"), ?_⟩)
  | ((with_reducible show tLc _ _ _ _ _ _ _ _); refine e_lc ?_)
  | ((with_reducible show tM0 _ _ _ _ _); refine e_m0 ?_)
  | ((with_reducible show tM1 _ _ _ _ _ _); refine e_m1 ?_)
  | ((with_reducible show ∃ k, V.str _ = V.str k ∧ _); refine e_exS ?_)
  | ((with_reducible show ∃ k, V.ref _ = V.ref k ∧ (∃ xs, SqL _ _ k xs) ∧ _); refine e_exR (by walk_at "sl") ?_)
  | ((with_reducible show ∃ k, V.ref _ = V.ref k ∧ (∃ xs, SqT _ _ k xs) ∧ _); refine e_exRT (by walk_at "slt") ?_)
  | ((with_reducible show ∃ j, [V.int _] = [V.int j] ∧ _ ≤ j ∧ j < _ ∧ _); refine e_rng1 (by omega) (by omega) ?_)
  | ((with_reducible show ∃ i j, [V.int _, V.int _] = [V.int i, V.int j] ∧ _ ∧ _); refine e_rng2 (by omega) ?_)
  | ((with_reducible show ∃ z', [V.str _] = [V.str z'] ∧ z'.length ≤ sizeLine ∧ _); refine ⟨_, rfl, (by walk_at "size"), ?_⟩)
  | ((with_reducible show (∃ a, V.str _ = V.str a) ∧ _); refine ⟨⟨_, rfl⟩, ?_⟩)
  | ((with_reducible show rSlS (V.str _) _ _ _ _); refine e_slS (by walk_at "size") ?_)
  | ((with_reducible show wipe _ _ = wipe _ _ ∧ _); refine ⟨rfl, ?_⟩)
  | ((with_reducible show List.length _ ≤ sizeLine ∧ ∀ p, _); refine ⟨(by walk_at "size"), fun p hp => ?_⟩)
  | ((with_reducible show rIsi _ _ _ _); first | refine isi_bb ?_ | refine isi_ib ?_ | refine isi_bi ?_ | refine isi_ii ?_ | refine isi_tt (by assumption) ?_ | refine isi_ll (by assumption) ?_)
  | ((with_reducible show spDraw _ _ _ _ _); refine ⟨_, _, _, rfl, _, _, _, _, rfl, rfl, rfl, (by walk_at "dr"), (by walk_at "ar"), (by walk_at "ar"), ?_⟩)
  | ((with_reducible show tUn _ _ _ _ _); refine e_un ?_)
  | ((with_reducible show rU _ (V.int _) _ _); refine e_U ?_)
  | ((with_reducible show ∃ i, [V.int _] = [V.int i] ∧ _); refine ⟨_, rfl, ?_⟩)
  | ((with_reducible show gTup _ _ _ _ _ _ _); refine ⟨_, _, rfl, (by walk_at "slt"), rfl, ?_⟩)
  | ((with_reducible show gCons _ _ _ _ _ _); refine ⟨_, _, rfl, ?_⟩)
  | ((with_reducible show gNil _ _ _ _); refine ⟨rfl, ?_⟩)
  | ((with_reducible show tAug _ _ _ _ _ _); refine e_aug rfl ?_)
  | ((with_reducible show if true = true then _ else _); refine i_T ?_)
  | ((with_reducible show if false = true then _ else _); refine i_F ?_))
local macro_rules | `(tactic| walk_at "st") => `(tactic| first | walk_at "st1" | walk_at "st2" | (dsimp only [List.append_nil, List.nil_append, List.cons_append, Bool.not_true, Bool.not_false]))
local macro_rules | `(tactic| walk_at "go") => `(tactic| repeat walk_at "st")
local macro_rules | `(tactic| walk_at "st") => `(tactic| first
  | ((with_reducible show iRevR _ _ _ _); refine e_iRevR ?_)
  | ((with_reducible show tRg1 _ _ _ _); refine e_rg1 ?_)
  | ((with_reducible show tRg2 _ _ _ _ _); refine e_rg2 ?_)
  | ((with_reducible show iEnum _ _ _ _ _); refine e_iEnum ?_)
  | ((with_reducible show iEnumT _ _ _ _ _); refine e_iEnumT ?_)
  | ((with_reducible show iRng3 _ _ _ _); refine e_iRng3 ?_)
  | ((with_reducible show ∃ p ys, [V.ref _] = [V.ref p] ∧ SqL _ _ p ys ∧ _); refine ⟨_, _, rfl, (by walk_at "sl"), ?_⟩)
  | ((with_reducible show ∃ p ys, [V.ref _] = [V.ref p] ∧ SqT _ _ p ys ∧ _); refine ⟨_, _, rfl, (by walk_at "slt"), ?_⟩)
  | ((with_reducible show tyV _ "list" (V.ref _) _ ∧ _); refine ⟨.inl ⟨rfl, _, (by walk_at "sl")⟩, ?_⟩)
  | ((with_reducible show ∃ a b, V.bl _ = V.bl a ∧ V.bl _ = V.bl b ∧ _); refine ⟨_, _, rfl, rfl, ?_⟩)
  | ((with_reducible show ∃ c, V.bl _ = V.bl c ∧ _); refine ⟨_, rfl, ?_⟩)
  | ((with_reducible show if (!true) = true then _ else _); refine i_F ?_)
  | ((with_reducible show if (!false) = true then _ else _); refine i_T ?_))
local macro_rules | `(tactic| walk_at "st") => `(tactic| first
  | ((with_reducible show tTru _ _ _ _ _); refine e_tru ?_)
  | ((with_reducible show tRaiseErr _ _ _ _ _ _); refine e_raiseErr ?_)
  | ((with_reducible show tCallS _ _ _ _ _ _); refine e_callS ?_)
  | ((with_reducible show tWhile _ _ _ _ _); refine e_tWhile ?_)
  | ((with_reducible show tDNewK _ _ _); refine e_dnewK ?_)
  | ((with_reducible show tDGet _ _ _ _ _); refine e_tDGet ?_)
  | ((with_reducible show sDPut _ _ _ _ _ _); refine e_sDPut ?_)
  | ((with_reducible show tDIn _ _ _ _ _); refine e_tDIn ?_)
  | ((with_reducible show tDNotIn _ _ _ _ _); refine e_tDNotIn ?_)
  | ((with_reducible show ∃ v, [_] = [v] ∧ ∀ d, _); refine ⟨_, rfl, ?_⟩))
local macro_rules | `(tactic| walk_at "st") => `(tactic| ((with_reducible show sp_law_all _ _ _ _ _); refine ⟨rfl, ?_⟩))
local macro_rules | `(tactic| walk_at "st") => `(tactic| first
  | ((with_reducible show tRevL _ _ _ _ _); refine e_tRevL ?_)
  | ((with_reducible show tRevS _ _ _ _); refine e_tRevS ?_)
  | ((with_reducible show tMake _ _ _ _ _ _ _ _); refine e_tMake ?_)
  | ((with_reducible show tMakeN _ _ _ _ _ _ _ _ _ _ _); refine e_tMakeN ?_)
  | ((with_reducible show tFld _ _ _ _ _ _); refine e_tFld ?_)
  | ((with_reducible show sFld _ _ _ _ _ _ _); refine e_sFld ?_))
section
variable {P : Program} {w : World} {K : PySem.W.Frag} {mg : Str → Option Value} {base : Heap}
theorem ok_Pattern___init__ (T : Txt K mg)   {f : Addr} {fd : FuncData} (F : FunD K "__init__" "Pattern.__init__" (defArgs s_Pattern___init__) (defBody s_Pattern___init__) (defScope s_Pattern___init__) [.bl false] [] f fd) : FnOk P w K mg base CX0 1 f fd ["self", "atoms", "negated"] (sp_Pattern___init__ K) := by
  refine F.ok sc_Pattern___init__ (fun vs H Q E h => ?_) (fun cdv A outer s H vs Q E hr h => ?_)
  · obtain ⟨_, _, _, rfl, _⟩ := h
    rfl
  · have S := sc_Pattern___init__
    refine ⟨_, PSs.nox (pss_cons (ps_fld (pv 0) (pe_callTy call_tuple_of (by rfl) T.f_tuple (by first | rfl | decide +kernel) (pa_cons (pv 1) pa_nil)) rfl)
    (pss_one (ps_fld (pv 0) (pv 2) rfl))), ?_⟩
    try dsimp only [cxOf, Cx.nox]
    obtain ⟨_, _, _, rfl, a, p, dx, vs, neg, rfl, rfl, rfl, ha, hp, k⟩ := h
    walk_at "go"
    have c1 := T.cl_Pattern
    have c2 := T.no_Pattern_atoms
    have c3 := T.no_Pattern_negated
    rcases hp with hp | hp
    · refine ⟨p, vs, rfl, .inl ⟨hp, fun l hl => ?_⟩⟩
      have nal : a ≠ l := fun q => by
        rw [← q, ha] at hl
        cases hl
      walk_at "go"
      refine ⟨a, _, dx, [], rfl, by rw [upd_ne nal]; exact ha, c1, c2, by decide, ?_⟩
      walk_at "go"
      refine ⟨a, _, dx, _, rfl, upd_same, c1, c3, Nat.lt_of_le_of_lt (Nat.le_refl 1) (by decide), ?_⟩
      refine k _ (fun b hb o e => ?_) ⟨dx, l, _, upd_same, by rw [lookup_putF, if_neg (by decide), lookup_putF, if_pos rfl], by rw [lookup_putF, if_pos rfl], ?_⟩
      · rw [upd_ne hb, upd_ne hb]
        exact same_new hl _ _ e
      · rw [upd_ne (Ne.symm nal), upd_ne (Ne.symm nal)]; exact upd_same
    · have nap : a ≠ p := fun q => by
        rw [q, hp] at ha
        cases ha
      refine ⟨p, vs, rfl, .inr ⟨SqT.of hp, ?_⟩⟩
      walk_at "go"
      refine ⟨a, _, dx, [], rfl, ha, c1, c2, by decide, ?_⟩
      walk_at "go"
      refine ⟨a, _, dx, _, rfl, upd_same, c1, c3, Nat.lt_of_le_of_lt (Nat.le_refl 1) (by decide), ?_⟩
      refine k _ (fun b hb o e => ?_) ⟨dx, p, _, upd_same, by rw [lookup_putF, if_neg (by decide), lookup_putF, if_pos rfl], by rw [lookup_putF, if_pos rfl], ?_⟩
      · rw [upd_ne hb, upd_ne hb]
        exact e
      · rw [upd_ne (Ne.symm nap), upd_ne (Ne.symm nap)]; exact hp
theorem ok_format_patterns (T : Txt K mg)  (c_format_pattern : Cal P w K mg base 4 "_format_pattern" (sp_format_pattern K)) {f : Addr} {fd : FuncData} (F : FnP K "format_patterns" s_format_patterns f fd) : FnOk P w K mg base CX0 5 f fd ["patterns"] (sp_format_patterns K) := by
  refine F.ok sc_format_patterns (fun vs H Q E h => ?_) (fun cdv A outer s H vs Q E hr h => ?_)
  · obtain ⟨_, rfl, _⟩ := h
    rfl
  · have S := sc_format_patterns
    refine ⟨_, PSs.nox (pss_one (ps_ret (pe_join pe_str (pe_lc (own := [("pattern", 1)]) (g := gName 1) (tt := tYes) rfl S.nd (pi_list (pv 0)) (blkOk_by (N := N_format_patterns) (sc := defScope s_format_patterns) (by decide +kernel)) (fun _ _ _ _ _ => (pg_name (i := 1) S.nd rfl (by first | exact .inl rfl | exact .inr rfl))) (fun _ _ _ _ _ => pts_nil) (fun _ _ _ _ _ => (pe_c c_format_pattern hr (by decide) (by rfl) (pa_cons (pv 1) pa_nil))))))), ?_⟩
    try dsimp only [cxOf, Cx.nox]
    obtain ⟨_, rfl, a, qs, rs, rfl, hq, hp, hn, hc, k⟩ := h
    have lq : qs.length = rs.length := paired_length hp
    walk_at "go"
    intro D hD
    refine lc_it (walk_list (K := K) (xs := qs.map V.ref)) (fun i H1 => Same H H1 ∧ ∃ ys : List Str, H1 D = some (.lst (ys.map V.str)) ∧ ys.map cp = (rs.take i).map (fun r => fmtP r.1 r.2) ∧ ∀ y ∈ ys, y.length ≤ 12401) ⟨same_new hD, [], upd_same, rfl, fun y h => by cases h⟩ (fun i H1 _ q => q.1.seq hq) (fun i v H1 H2 hi q hy => ?_) (fun H1 q => ?_)
    · obtain ⟨s1, ys, e1, hys, hy3⟩ := q
      obtain ⟨rfl, hx⟩ := hy
      rw [List.getElem?_map] at hx
      obtain ⟨q1, hq1, rfl⟩ := Option.map_eq_some_iff.mp hx
      obtain ⟨w9, r, hw, hcc, hR⟩ := prd_get hp i (by have := (List.getElem?_eq_some_iff.mp hq1).1; omega)
      rw [hq1] at hw
      cases hw
      obtain ⟨hr1, hr2⟩ := hc r (List.mem_of_getElem? hcc)
      have hyl : ys.length ≤ 20 := by
        have := congrArg List.length hys
        rw [List.length_map, List.length_map, List.length_take] at this
        omega
      walk_at "go"
      refine ⟨_, rfl, q1, r.1, r.2, rfl, hR.same s1, hr1, hr2, fun H3 s3 => ?_⟩
      refine ⟨_, s3 _ _ e1, small (by rw [List.length_map]; omega : _ ≤ 40) (by decide), Same.mut (s1.trans s3) hD, ys ++ [tx (fmtP r.1 r.2)], by rw [upd_same, List.map_append]; rfl, ?_, fun y hy => ?_⟩
      · rw [List.map_append, hys, List.take_succ, hcc, List.map_append]
        show _ ++ [cp (tx _)] = _
        rw [cp_tx]
        rfl
      · rcases List.mem_append.mp hy with z | z
        · exact hy3 y z
        · rw [List.mem_singleton.mp z, tx_len]
          unfold fmtP
          have h1 := fmtRow_len r.1 hr2
          rw [List.length_append]
          have h2 : (if r.2 = true then [33] else ([] : List Nat)).length ≤ 1 := by split <;> decide
          omega
    obtain ⟨s1, ys, e1, hys, hy3⟩ := q
    rw [List.length_map, lq, List.take_length] at hys
    have hyl : ys.length = rs.length := by
      have := congrArg List.length hys
      rw [List.length_map, List.length_map] at this
      exact this
    have hsum := sum_le3 hy3
    refine ⟨_, _, ys, rfl, rfl, .inl (SqL.of e1), by show _ + _ * 1 ≤ _; omega, ?_⟩
    rw [cp_eq (cp_joinN hys)]
    exact k H1 s1
theorem ok_format_pattern (T : Txt K mg)  (c_format_atom : Cal P w K mg base 3 "_format_atom" (sp_format_atom K)) {f : Addr} {fd : FuncData} (F : FnP K "_format_pattern" s_format_pattern f fd) : FnOk P w K mg base CX0 4 f fd ["pattern"] (sp_format_pattern K) := by
  refine F.ok sc_format_pattern (fun vs H Q E h => ?_) (fun cdv A outer s H vs Q E hr h => ?_)
  · obtain ⟨_, rfl, _⟩ := h
    rfl
  · have S := sc_format_pattern
    refine ⟨_, PSs.nox (pss_cons (ps_set (i := 1) S.nd rfl (by first | exact .inl rfl | exact .inr rfl) (pe_ifExp (pt_val (pe_fld (pv 0) rfl)) pe_str pe_str))
    (pss_one (ps_ret (pe_op op_add_str (pv 1) (pe_join pe_str (pe_lc (own := [("chars", 2), ("repeats", 3)]) (g := gTup K 2 (gCons (gName 2) (gCons (gName 3) gNil))) (tt := tYes) rfl S.nd (pi_tup (pe_fld (pv 0) rfl)) (blkOk_by (N := N_format_pattern) (sc := defScope s_format_pattern) (by decide +kernel)) (fun _ _ _ _ _ => (pg_tupK (n := 2) K rfl (pgs_cons (pg_name (i := 2) S.nd rfl (by first | exact .inl rfl | exact .inr rfl)) (pgs_cons (pg_name (i := 3) S.nd rfl (by first | exact .inl rfl | exact .inr rfl)) pgs_nil)))) (fun _ _ _ _ _ => pts_nil) (fun _ _ _ _ _ => (pe_c c_format_atom hr (by decide) (by rfl) (pa_cons (pv 2) (pa_cons (pv 3) pa_nil)))))))))), ?_⟩
    try dsimp only [cxOf, Cx.nox]
    obtain ⟨_, rfl, a, as, neg, rfl, hp, hn, hc, k⟩ := h
    have c1 := T.cl_Pattern
    have c2 := T.no_Pattern_atoms
    have c3 := T.no_Pattern_negated
    obtain ⟨qs, ⟨dx, t, fs, ha, f1, f2, ht⟩, hA⟩ := id hp
    have lq : qs.length = as.length := hA.length
    unfold fmtP at k
    walk_at "go"
    refine ⟨a, _, dx, _, _, rfl, ha, c1, c3, f2, _, rfl, ?_⟩
    cases neg
    all_goals
      first | rw [if_pos rfl] | rw [if_neg (by decide)]
      first | rw [if_pos rfl] at k | rw [if_neg (by decide)] at k
      walk_at "go"
      refine ⟨a, _, dx, _, _, rfl, ha, c1, c2, f1, ?_⟩
      walk_at "go"
      intro D hD
      refine lc_it (walk_tup (K := K) (xs := qs.map V.ref)) (fun i H1 => Same H H1 ∧ ∃ ys : List Str, H1 D = some (.lst (ys.map V.str)) ∧ ys.map cp = (as.take i).map (fun c => fmtA (cp c.1) c.2) ∧ ∀ y ∈ ys, y.length ≤ 310) ⟨same_new hD, [], upd_same, rfl, fun y h => by cases h⟩ (fun i H1 _ q => SqT.of (q.1 _ _ ht)) (fun i v H1 H2 hi q hy => ?_) (fun H1 q => ?_)
      · obtain ⟨s1, ys, e1, hys, hy3⟩ := q
        obtain ⟨rfl, hx⟩ := hy
        rw [List.getElem?_map] at hx
        obtain ⟨q1, hq1, rfl⟩ := Option.map_eq_some_iff.mp hx
        obtain ⟨w9, c, hw, hcc, hR⟩ := prd_get hA i (by have := (List.getElem?_eq_some_iff.mp hq1).1; omega)
        rw [hq1] at hw
        cases hw
        have hcl := hc c (List.mem_of_getElem? hcc)
        have hyl : ys.length ≤ 40 := by
          have := congrArg List.length hys
          rw [List.length_map, List.length_map, List.length_take] at this
          omega
        have hR2 := same_tup s1 hR
        walk_at "go"
        refine ⟨_, _, rfl, c.1, c.2, rfl, rfl, hcl, fun H3 s3 => ?_⟩
        refine ⟨_, s3 _ _ e1, small (by rw [List.length_map]; omega : _ ≤ 40) (by decide), Same.mut (s1.trans s3) hD, ys ++ [tx (fmtA (cp c.1) c.2)], by rw [upd_same, List.map_append]; rfl, ?_, fun y hy => ?_⟩
        · rw [List.map_append, hys, List.take_succ, hcc, List.map_append]
          show _ ++ [cp (tx _)] = _
          rw [cp_tx]
          rfl
        · rcases List.mem_append.mp hy with z | z
          · exact hy3 y z
          · rw [List.mem_singleton.mp z, tx_len]
            exact fmtA_len _ _ (by rw [cp_len]; exact hcl)
      obtain ⟨s1, ys, e1, hys, hy3⟩ := q
      rw [List.length_map, lq, List.take_length] at hys
      have hyl : ys.length = as.length := by
        have := congrArg List.length hys
        rw [List.length_map, List.length_map] at this
        exact this
      have hsum := sum_le3 hy3
      have hjc : cp (Txt.join ("" : Str) ys) = fmtRow as := by rw [cp_join0, hys]; rfl
      have hjl := fmtRow_len as hc
      rw [← hjc, cp_len] at hjl
      refine ⟨_, _, ys, rfl, rfl, .inl (SqL.of e1), by show _ + _ * 0 ≤ _; omega, ?_⟩
      refine ⟨_, _, rfl, rfl, sz_le (by first | (show 1 + _ ≤ _; omega) | (show 0 + _ ≤ _; omega)), ?_⟩
      have k2 := k H1 s1
      first
        | (rw [cp_eq (z := ("!" : Str) ++ Txt.join ("" : Str) ys) (by rw [cp_app, hjc])]; exact k2)
        | (rw [cp_eq (z := ("" : Str) ++ Txt.join ("" : Str) ys) (by rw [cp_app, hjc])]; exact k2)
theorem ok_format_atom (T : Txt K mg)  (c_format_items : Cal P w K mg base 2 "_format_items" (sp_format_items K)) {f : Addr} {fd : FuncData} (F : FnP K "_format_atom" s_format_atom f fd) : FnOk P w K mg base CX0 3 f fd ["chars", "repeats"] (sp_format_atom K) := by
  refine F.ok sc_format_atom (fun vs H Q E h => ?_) (fun cdv A outer s H vs Q E hr h => ?_)
  · obtain ⟨_, _, rfl, _⟩ := h
    rfl
  · have S := sc_format_atom
    refine ⟨_, PSs.nox (pss_cons (ps_if (pt_val (pv 1))
    (pss_one (ps_ret (pe_ifExp (pt_cmpR op_eq (pv 0) (C8.pe_gc (by rfl) T.c_CHARACTERS) (nomark _)) pe_str pe_str)))
    pss_nil)
    (pss_cons (ps_if (pt_cmpR op_eq (pv 0) (C8.pe_gc (by rfl) T.c_NO_SLASH) (nomark _))
    (pss_one (ps_ret pe_str))
    pss_nil)
    (pss_cons (ps_if (pt_cmpR op_eq (pe_callB call_len_str (by rfl) T.f_len (by first | rfl | decide +kernel) (pa_cons (pv 0) pa_nil)) pe_int (nomark _))
    (pss_one (ps_ret (pv 0)))
    pss_nil)
    (pss_cons (ps_if (pw_or (pt_cmpR op_in_sign pe_str (pv 0) (by first | rfl | with_unfolding_all rfl)) (pw_or1 (pt_cmpR op_le (pe_callB call_len_str (by rfl) T.f_len (by first | rfl | decide +kernel) (pa_cons (pv 0) pa_nil)) (C8.pe_gc (by rfl) T.c__MOST_LISTED) (nomark _)))).pt
    (pss_one (ps_ret (pe_op op_add_str (pe_op op_add_str pe_str (pe_c c_format_items hr (by decide) (by rfl) (pa_cons (pv 0) pa_nil))) pe_str)))
    pss_nil)
    (pss_one (ps_ret (pe_op op_add_str (pe_op op_add_str pe_str (pe_c c_format_items hr (by decide) (by rfl) (pa_cons (pe_join pe_str (pe_lc (own := [("char", 2)]) (g := gName 2) rfl S.nd (pi_str (C8.pe_gc (by rfl) T.c_NO_SLASH)) (blkOk_by (N := N_format_atom) (sc := defScope s_format_atom) (by decide +kernel)) (fun _ _ _ _ _ => (pg_name (i := 2) S.nd rfl (by first | exact .inl rfl | exact .inr rfl))) (fun _ _ _ _ _ => (pts_one (pt_cmpR op_notIn_sign (pv 2) (pv 0) (by first | rfl | with_unfolding_all rfl)))) (fun _ _ _ _ _ => (pv 2)))) pa_nil))) pe_str))))))), ?_⟩
    try dsimp only [cxOf, Cx.nox]
    obtain ⟨_, _, rfl, z, r, rfl, rfl, hz, k⟩ := h
    have hl := cp_len z
    have eC : ∀ {l : List Nat} {w : Str}, cp w = l → (decide (z = w) = decide (cp z = l)) := fun {l w} h => decide_eq_decide.mpr ⟨fun e => by rw [e]; exact h, fun e => str_ext (e.trans h.symm)⟩
    have eN : cp ("-.0123456789ABCDEFGHIJKLMNOPQRSTUVWXYZ_abcdefghijklmnopqrstuvwxyz~" : Str) = NS := by decide +kernel
    unfold fmtA at k
    walk_at "go"
    cases r with
    | true =>
      rw [if_pos rfl]
      have k2 := k H (Same.refl _)
      rw [if_pos rfl] at k2
      walk_at "go"
      rw [eC (w := ("-./0123456789ABCDEFGHIJKLMNOPQRSTUVWXYZ_abcdefghijklmnopqrstuvwxyz~" : Str)) (l := CH) rfl]
      by_cases hc : cp z = CH
      · rw [if_pos hc] at k2
        rw [if_pos (decide_eq_true hc)]
        walk_at "go"
        exact k2
      · rw [if_neg hc] at k2
        rw [if_neg (by simpa using hc)]
        walk_at "go"
        exact k2
    | false =>
      rw [if_neg (by decide)]
      rw [if_neg (by decide)] at k
      walk_at "go"
      rw [eC eN]
      by_cases hc : cp z = NS
      · rw [if_pos hc] at k
        rw [if_pos (decide_eq_true hc)]
        walk_at "go"
        exact k H (Same.refl _)
      rw [if_neg hc] at k
      rw [if_neg (by simpa using hc)]
      walk_at "go"
      by_cases h1 : (cp z).length = 1
      · rw [if_pos h1, tx_cp] at k
        rw [if_pos (decide_eq_true (by omega))]
        walk_at "go"
        exact k H (Same.refl _)
      rw [if_neg h1] at k
      rw [if_neg (by rw [decide_eq_true_iff]; omega)]
      walk_at "go"
      refine ⟨47, z, rfl, rfl, _, rfl, ?_⟩
      have wr : 47 ∈ cp z ∨ (cp z).length ≤ 33 → sp_format_items K [.str z] H (fun x H1 => ∃ i j : Str, V.str "[" = .str i ∧ x = .str j ∧ i.length + j.length ≤ sizeLine ∧ ∃ i2 j2 : Str, V.str (i ++ j) = .str i2 ∧ V.str "]" = .str j2 ∧ i2.length + j2.length ≤ sizeLine ∧ Q (.str (i2 ++ j2)) H1) E0 := fun h => by
        refine ⟨_, rfl, z, rfl, hz, fun H1 s1 => ?_⟩
        have k2 := k H1 s1
        rw [if_pos h] at k2
        have hil : (fmtItems (cp z)).length ≤ 300 := fmtItems_len _
        refine ⟨_, _, rfl, rfl, sz_le (by rw [tx_len]; show 1 + _ ≤ _; omega), _, _, rfl, rfl, sz_le (by show (_ : Str).cps.size + 1 ≤ _; rw [← Array.length_toList, show (("[" : Str) ++ tx (fmtItems (cp z))).cps.toList = [91] ++ fmtItems (cp z) from by rw [show (("[" : Str) ++ tx (fmtItems (cp z))).cps.toList = cp (("[" : Str) ++ tx (fmtItems (cp z))) from rfl, cp_app, cp_tx]; rfl]; simp; omega), ?_⟩
        rw [cp_eq (z := ("[" : Str) ++ tx (fmtItems (cp z)) ++ ("]" : Str)) (by rw [cp_app, cp_app, cp_tx])]
        exact k2
      by_cases h47 : 47 ∈ cp z
      · rw [if_pos (decide_eq_true h47)]
        walk_at "go"
        exact wr (.inl h47)
      rw [if_neg (by simpa using h47)]
      walk_at "go"
      by_cases h33 : (cp z).length ≤ 33
      · rw [if_pos (decide_eq_true (by omega))]
        walk_at "go"
        exact wr (.inr h33)
      rw [if_neg (by rw [decide_eq_true_iff]; omega)]
      rw [if_neg (by rintro (h | h); exact h47 h; exact h33 h)] at k
      clear wr
      walk_at "go"
      intro D hD
      refine lc_str (fun pre H1 => Same H H1 ∧ pre.length ≤ 66 ∧ H1 D = some (.lst ((ones (pre.filter fun c => decide (c ∉ cp z))).map V.str))) ⟨same_new hD, by decide, upd_same⟩ (fun pre x post H7 e q => ?_) (fun H7 q => ?_)
      · obtain ⟨q1, q2, q3⟩ := q
        have q4 : (pre ++ [x]).length ≤ 66 := Nat.le_trans (pre_le e) (by decide)
        walk_at "go"
        refine ⟨x, z, rfl, rfl, _, rfl, ?_⟩
        by_cases hx : x ∈ cp z
        · rw [if_neg (by simp [hx])]
          refine ⟨q1, q4, ?_⟩
          rw [List.filter_append, List.filter_cons_of_neg (by simp [hx]), List.filter_nil, List.append_nil]
          exact q3
        · rw [if_pos (by simp [hx])]
          walk_at "go"
          refine ⟨_, q3, small (by
            rw [List.length_map, ones, List.length_map]
            have h5 := List.length_filter_le (fun c => decide (c ∉ cp z)) pre
            omega : _ ≤ 66) (by decide), Same.mut q1 hD, q4, ?_⟩
          rw [upd_same, List.filter_append, List.filter_cons_of_pos (by simp [hx]), ones, ones, List.map_append, List.map_append]
          rfl
      obtain ⟨q1, q2, q3⟩ := q
      have q3' : H7 D = some (.lst ((ones (NS.filter fun c => decide (c ∉ cp z))).map V.str)) := by rw [← eN]; exact q3
      have hfl : (NS.filter fun c => decide (c ∉ cp z)).length ≤ 66 := Nat.le_trans (List.length_filter_le ..) (by decide)
      clear q3
      revert q3' k
      generalize NS.filter (fun c => decide (c ∉ cp z)) = L at hfl
      intro k q3'
      refine ⟨_, _, ones L, rfl, rfl, .inl (SqL.of q3'), by rw [ones_len]; show L.length + _ * 0 ≤ _; omega, ?_⟩
      walk_at "go"
      refine ⟨_, rfl, Txt.join ("" : Str) (ones L), rfl, by rw [← cp_len, cp_ones]; omega, fun H8 s8 => ?_⟩
      rw [cp_ones]
      have k2 := k H8 (q1.trans s8)
      have hil := fmtItems_len L
      refine ⟨_, _, rfl, rfl, sz_le (by rw [tx_len]; show 2 + _ ≤ _; omega), ?_⟩
      walk_at "go"
      refine ⟨_, _, rfl, rfl, sz_le ?_, ?_⟩
      · rw [cp_eq (z := ("[!" : Str) ++ tx (fmtItems L)) (l := [91, 33] ++ fmtItems L) (by rw [cp_app, cp_tx]; rfl), tx_len]
        show ([91, 33] ++ fmtItems L).length + 1 ≤ _
        simp
        omega
      · rw [cp_eq (z := ("[!" : Str) ++ tx (fmtItems L) ++ ("]" : Str)) (by rw [cp_app, cp_app, cp_tx])]
        exact k2
theorem ok_format_items (T : Txt K mg)  (c_format_run : Cal P w K mg base 1 "_format_run" (sp_format_run K)) {f : Addr} {fd : FuncData} (F : FnP K "_format_items" s_format_items f fd) : FnOk P w K mg base CX0 2 f fd ["chars"] (sp_format_items K) := by
  refine F.ok sc_format_items (fun vs H Q E h => ?_) (fun cdv A outer s H vs Q E hr h => ?_)
  · obtain ⟨_, rfl, _⟩ := h
    rfl
  · have S := sc_format_items
    refine ⟨_, PSs.nox (pss_cons (ps_set (i := 1) S.nd rfl (by first | exact .inl rfl | exact .inr rfl) (pe_lst pa_nil))
    (pss_cons (ps_set (i := 2) S.nd rfl (by first | exact .inl rfl | exact .inr rfl) pe_str)
    (pss_cons (ps_for PassesOwn.never rfl (pi_str (pe_slice sl_str (C8.pe_gc (by rfl) T.c_CHARACTERS) (po_some pe_int) po_none)) (pg_name (i := 3) S.nd rfl (by first | exact .inl rfl | exact .inr rfl))
    (pss_one (ps_if (pt_cmpR op_in_sign (pv 3) (pv 0) (by first | rfl | with_unfolding_all rfl))
      (pss_one (ps_aug (i := 2) S.nd rfl (by first | exact .inl rfl | exact .inr rfl) (pv 3) iop_add_str))
      (pss_cons (ps_expr (pe_bm PySem.F.plainAttrs_list PySem.F.slot_list_append PySem.F.type_list_append mt_append (pv 1) (pa_cons (pe_c c_format_run hr (by decide) (by rfl) (pa_cons (pv 2) pa_nil)) pa_nil)))
        (pss_one (ps_set (i := 2) S.nd rfl (by first | exact .inl rfl | exact .inr rfl) pe_str))))))
    (pss_cons (ps_expr (pe_bm PySem.F.plainAttrs_list PySem.F.slot_list_append PySem.F.type_list_append mt_append (pv 1) (pa_cons (pe_c c_format_run hr (by decide) (by rfl) (pa_cons (pv 2) pa_nil)) pa_nil)))
    (pss_one (ps_ret (pe_op op_add_str (pe_ifExp (pt_cmpR op_in_sign pe_str (pv 0) (by first | rfl | with_unfolding_all rfl)) pe_str pe_str) (pe_join pe_str (pv 1))))))))), ?_⟩
    try dsimp only [cxOf, Cx.nox]
    obtain ⟨_, rfl, z, rfl, hz, k⟩ := h
    walk_at "go"
    rename_i p hp
    have ect : cp (cutS ("-./0123456789ABCDEFGHIJKLMNOPQRSTUVWXYZ_abcdefghijklmnopqrstuvwxyz~" : Str) (some 1) none) = CH.tail := by decide +kernel
    have ect2 : CH.tail.length = 66 := rfl
    refine for_str (fun pre σ H1 => ∃ (run : List Nat) (ps : List Str) (v3 : Option V), σ = [some (.str z), some (.ref p), some (.str (tx run)), v3] ∧ Same H H1 ∧ H1 p = some (.lst (ps.map V.str)) ∧ run.length ≤ pre.length ∧ ps.length ≤ pre.length ∧ (∀ x ∈ ps, x.length ≤ 3) ∧ ∀ post, CH.tail = pre ++ post → itemsL CH.tail (cp z) [] = (ps.map cp).flatten ++ itemsL post (cp z) run) ⟨[], [], _, rfl, same_new hp, upd_same, Nat.le_refl _, Nat.le_refl _, fun x hx => (by cases hx), fun post e => by rw [e]; rfl⟩ (fun pre c post σ H1 e0 q => ?_) (fun σ H1 q => ?_)
    · obtain ⟨run, ps, v3, rfl, s1, e1, hrl, hpl, h3, hin⟩ := q
      have e0' : CH.tail = pre ++ c :: post := by rw [← ect]; exact e0
      have hpre : pre.length ≤ 66 := by have := congrArg List.length e0'; rw [List.length_append, ect2] at this; omega
      walk_at "go"
      refine ⟨c, z, rfl, rfl, _, rfl, ?_⟩
      by_cases hc : c ∈ cp z
      · rw [if_pos (decide_eq_true hc)]
        walk_at "go"
        refine ⟨_, _, rfl, rfl, sz_le (by rw [tx_len, one_len]; omega), ?_⟩
        rw [tx_one, tx_app]
        walk_at "go"
        refine ⟨run ++ [c], ps, _, rfl, s1, e1, by simp; omega, by simp; omega, h3, fun post2 e2 => ?_⟩
        have h4 := hin (c :: post2) (by rw [e2, List.append_assoc]; rfl)
        rw [h4, itemsL, if_pos hc]
      · rw [if_neg (by simpa using hc)]
        walk_at "go"
        refine ⟨_, rfl, tx run, rfl, by rw [tx_len]; omega, ?_⟩
        rw [cp_tx]
        walk_at "go"
        refine e_app e1 (sz_le (by rw [List.length_map]; omega)) ?_
        walk_at "go"
        refine ⟨[], ps ++ [tx (fmtRun run)], _, rfl, Same.mut s1 hp, by rw [upd_same, List.map_append]; rfl, Nat.zero_le _, by simp; omega, fun x hx => ?_, fun post2 e2 => ?_⟩
        · rcases List.mem_append.mp hx with z | z
          · exact h3 x z
          · rw [List.mem_singleton.mp z, tx_len]; exact fmtRun_len run
        · have h4 := hin (c :: post2) (by rw [e2, List.append_assoc]; rfl)
          rw [h4, itemsL, if_neg hc, List.map_append, List.flatten_append, List.append_assoc]
          show _ = _ ++ ([cp (tx (fmtRun run))].flatten ++ _)
          rw [cp_tx]
          simp
    · obtain ⟨run, ps, v3, rfl, s1, e1, hrl, hpl, h3, hin⟩ := q
      rw [show (cutS ("-./0123456789ABCDEFGHIJKLMNOPQRSTUVWXYZ_abcdefghijklmnopqrstuvwxyz~" : Str) (some 1) none).cps.toList.length = 66 from by show (cp _).length = 66; rw [ect]; rfl] at hrl hpl
      walk_at "go"
      refine ⟨_, rfl, tx run, rfl, by rw [tx_len]; omega, ?_⟩
      rw [cp_tx]
      walk_at "go"
      refine e_app e1 (sz_le (by rw [List.length_map]; omega)) ?_
      have s2 := Same.mut (o := .lst (ps.map V.str ++ [.str (tx (fmtRun run))])) s1 hp
      have hfl := hin [] (by rw [List.append_nil]; exact ect.symm ▸ ect.symm)
      walk_at "go"
      have e2 : (upd H1 p (.lst (ps.map V.str ++ [.str (tx (fmtRun run))]))) p = some (.lst ((ps ++ [tx (fmtRun run)]).map V.str)) := by rw [upd_same, List.map_append]; rfl
      have h3' : ∀ x ∈ ps ++ [tx (fmtRun run)], x.length ≤ 3 := fun x hx => by
        rcases List.mem_append.mp hx with z | z
        · exact h3 x z
        · rw [List.mem_singleton.mp z, tx_len]; exact fmtRun_len run
      have hsum := sum_le3 h3'
      have hln : (ps ++ [tx (fmtRun run)]).length ≤ 67 := by rw [List.length_append, List.length_singleton]; omega
      have hcp : cp (Txt.join ("" : Str) (ps ++ [tx (fmtRun run)])) = itemsL CH.tail (cp z) [] := by
        rw [cp_join0, hfl, List.map_append, List.flatten_append]
        show _ ++ [cp (tx (fmtRun run))].flatten = _ ++ fmtRun run
        rw [cp_tx]
        simp
      revert e2 s2
      generalize upd H1 p (.lst (ps.map V.str ++ [.str (tx (fmtRun run))])) = H2
      intro s2 e2
      have hil := items_len CH.tail (cp z) []
      rw [ect2] at hil
      have hjl : (Txt.join ("" : Str) (ps ++ [tx (fmtRun run)])).length ≤ 300 := by rw [← cp_len, hcp]; omega
      have k2 := k H2 s2
      unfold fmtItems at k2
      refine ⟨45, z, rfl, rfl, _, rfl, ?_⟩
      by_cases h45 : 45 ∈ cp z
      · rw [if_pos (decide_eq_true h45)]
        rw [if_pos h45] at k2
        walk_at "go"
        refine ⟨_, _, _, rfl, rfl, .inl (SqL.of e2), by show _ + _ * 0 ≤ _; omega, ?_⟩
        refine ⟨_, _, rfl, rfl, sz_le (by show 1 + _ ≤ _; omega), ?_⟩
        rw [cp_eq (z := ("-" : Str) ++ Txt.join ("" : Str) (ps ++ [tx (fmtRun run)])) (by rw [cp_app, hcp])]
        exact k2
      · rw [if_neg (by simpa using h45)]
        rw [if_neg h45] at k2
        walk_at "go"
        refine ⟨_, _, _, rfl, rfl, .inl (SqL.of e2), by show _ + _ * 0 ≤ _; omega, ?_⟩
        refine ⟨_, _, rfl, rfl, sz_le (by show 0 + _ ≤ _; omega), ?_⟩
        rw [cp_eq (z := ("" : Str) ++ Txt.join ("" : Str) (ps ++ [tx (fmtRun run)])) (by rw [cp_app, hcp])]
        exact k2
theorem ok_format_run (T : Txt K mg)   {f : Addr} {fd : FuncData} (F : FnP K "_format_run" s_format_run f fd) : FnOk P w K mg base CX0 1 f fd ["run"] (sp_format_run K) := by
  refine F.ok sc_format_run (fun vs H Q E h => ?_) (fun cdv A outer s H vs Q E hr h => ?_)
  · obtain ⟨_, rfl, _⟩ := h
    rfl
  · have S := sc_format_run
    refine ⟨_, PSs.nox (pss_one (ps_ret (pe_ifExp (pt_cmpR op_lt (pe_callB call_len_str (by rfl) T.f_len (by first | rfl | decide +kernel) (pa_cons (pv 0) pa_nil)) (C8.pe_gc (by rfl) T.c__LEAST_RUN) (nomark _)) (pv 0) (pe_op op_add_str (pe_op op_add_str (pe_ix ix_str (pv 0) pe_int (fun _ _ => rfl)) pe_str) (pe_ix ix_str (pv 0) (pe_un un_neg pe_int) (fun _ _ => rfl)))))), ?_⟩
    try dsimp only [cxOf, Cx.nox]
    obtain ⟨_, rfl, z, rfl, hz, k⟩ := h
    have hl := cp_len z
    walk_at "go"
    unfold fmtRun at k
    by_cases h3 : z.length < 3
    · rw [if_pos (decide_eq_true (by omega))]
      rw [if_pos (by omega), tx_cp] at k
      walk_at "go"
      exact k
    · rw [if_neg (by rw [decide_eq_true_iff]; omega)]
      rw [if_neg (by omega)] at k
      walk_at "go"
      have e0 : atI (cp z) 0 = some ((cp z).headD 0) := by
        cases e : cp z with
        | nil => rw [e] at hl; simp at hl; omega
        | cons a l => exact atI_nat (j := 0) rfl
      have e1 : atI (cp z) (-1) = some ((cp z).getLastD 0) := by
        rcases List.eq_nil_or_concat (cp z) with e | ⟨l, a, e⟩
        · rw [e] at hl; simp at hl; omega
        · rw [e]
          have := atI_last l a
          simpa using this
      refine e_ixS (sz_of (by omega)) e0 ?_
      refine ⟨_, _, rfl, rfl, sz_le (by rw [one_len]; decide), ?_⟩
      walk_at "go"
      refine e_ixS (sz_of (by omega)) e1 ?_
      have e2 : (⟨#[(cp z).headD 0]⟩ ++ ("-" : Str) ++ ⟨#[(cp z).getLastD 0]⟩ : Str) = tx [(cp z).headD 0, 45, (cp z).getLastD 0] := cp_eq (by rw [cp_app, cp_app]; rfl)
      refine ⟨_, _, rfl, rfl, sz_le (by rw [one_len]; show (#[(cp z).headD 0] ++ #[45]).size + 1 ≤ _; simp), ?_⟩
      rw [e2]
      exact k
theorem ok_parse_patterns (T : Txt K mg)  (c_read_pattern : CalX P w K mg base 6 "_read_pattern" (sp_read_pattern K)) {f : Addr} {fd : FuncData} (F : FnP K "parse_patterns" s_parse_patterns f fd) : FnOk P w K mg base (L2.CX P w) 7 f fd ["text"] (sp_parse_patterns K) := by
  refine F.ok sc_parse_patterns (fun vs H Q E h => ?_) (fun cdv A outer s H vs Q E hr h => ?_)
  · obtain ⟨_, rfl, _⟩ := h
    rfl
  · have S := sc_parse_patterns
    refine ⟨_, (pss_cons (ps_set (i := 1) S.nd rfl (by first | exact .inl rfl | exact .inr rfl) (pe_lst pa_nil))
    (pss_cons (ps_set (i := 2) S.nd rfl (by first | exact .inl rfl | exact .inr rfl) pe_int)
    (pss_cons (ps_for (passes_of rfl) rfl (pi_list (pe_split (pv 0) pe_str)) (pg_name (i := 3) S.nd rfl (by first | exact .inl rfl | exact .inr rfl))
    (C8.pss_cut (ps_if (pw_and (pt_truK K rfl (pv 3)) (pw_and1 (pt_not (pt_val (pe_m1 PySem.F.slot_str_startswith PySem.F.type_str_startswith mt_startswith (pv 3) pe_str))))).pt
      (pss_cons (ps_if (pt_cmpR op_eq (pe_callB call_len_seq (by rfl) T.f_len (by first | rfl | decide +kernel) (pa_cons (pv 1) pa_nil)) (C8.pe_gc (by rfl) T.c_MOST_PATTERNS) (nomark _))
        (pss_one (ps_raiseErr rfl T.er_InvalidPattern.er hr (takes_of rfl rfl rfl rfl) (pa_cons (pv 2) pa_nil)))
        pss_nil)
        (pss_one (ps_expr (pe_bm PySem.F.plainAttrs_list PySem.F.slot_list_append PySem.F.type_list_append mt_append (pv 1) (pa_cons (pe_cX c_read_pattern hr (by decide) (takes_of rfl rfl rfl rfl) (by rfl) (pa_cons (pv 0) (pa_cons (pv 2) (pa_cons (pe_op op_add (pv 2) (pe_callB call_len_str (by rfl) T.f_len (by first | rfl | decide +kernel) (pa_cons (pv 3) pa_nil))) pa_nil)))) pa_nil)))))
      pss_nil)
      (PSs.nox (pss_one (ps_aug (i := 2) S.nd rfl (by first | exact .inl rfl | exact .inr rfl) (pe_op op_add (pe_callB call_len_str (by rfl) T.f_len (by first | rfl | decide +kernel) (pa_cons (pv 3) pa_nil)) pe_int) ip_add)))))
    (PSs.nox (pss_one (ps_ret (pv 1))))))), ?_⟩
    try dsimp only [cxOf, Cx.nox]
    obtain ⟨_, rfl, z, rfl, hz, k1, k2⟩ := h
    walk_at "go"
    rename_i D hD
    refine ⟨z, _, rfl, rfl, by decide, Nat.le_trans (by omega : z.length + 2 ≤ 1000002) (by decide), ?_⟩
    intro q hq
    have nDq : D ≠ q := fun e => by rw [← e, upd_same] at hq; cases hq
    have hq0 : H q = none := by rw [← hq, upd_ne (Ne.symm nDq)]
    have hsp := split_lns z
    generalize Txt.split z ("\n" : Str) = ys at hsp
    have hJ : joinN (ys.map cp) = cp z := by rw [hsp, join_lns]
    have s0 : Same H (upd (upd H D (.lst [])) q (.lst (ys.map V.str))) := (same_new hD).trans (same_new hq)
    refine ⟨q, rfl, ⟨_, SqL.of upd_same⟩, ?_⟩
    rw [← hsp] at k1 k2
    refine for_strs (ys := ys) (fun pre σ H1 => ∃ (a : Nat) (v3 : Option V) (rows : List RowQ) (qs : List Addr), σ = [some (.str z), some (.ref D), some (.int a), v3] ∧ a = ((pre.map cp).map fun x => x.length + 1).sum ∧ Same H H1 ∧ H1 q = some (.lst (ys.map V.str)) ∧ H1 D = some (.lst (qs.map V.ref)) ∧ Pats K H1 qs rows ∧ rows.length ≤ 20 ∧ ∀ post, ys = pre ++ post → rdLines (ys.map cp) 0 [] = rdLines (post.map cp) a rows)
      ⟨0, none, [], [], rfl, rfl, s0, upd_same, by rw [upd_ne nDq]; exact upd_same, .nil, by decide, fun post e => by rw [e]; rfl⟩ (fun pre σ H1 p => ?_) (fun pre x post σ H1 e p => ?_) (fun σ H1 p => ?_)
    · obtain ⟨a, v3, rows, qs, _, _, _, h, _⟩ := p
      exact SqL.of h
    · obtain ⟨a, v3, rows, qs, rfl, ha, s1, hq1, hD1, hP, h20, hrd⟩ := p
      have hrd := hrd _ e
      have hdr : (cp z).drop a = joinN (cp x :: post.map cp) := by
        rw [← hJ, e, List.map_append, ha]
        exact join_drop _ (by simp)
      have hql : qs.length = rows.length := hP.length
      have hxl : (cp x).length = x.length := cp_len x
      walk_at "go"
      have hx6 : x.length ≤ 1000000 := by
        by_cases h0 : cp x = []
        · rw [← hxl, h0]; exact Nat.zero_le _
        · have := (line_at hdr h0).1
          have := cp_len z
          omega
      refine e_cut (Mid := fun σ H1 => ∃ (rows : List RowQ) (qs : List Addr), σ = [some (.str z), some (.ref D), some (.int a), some (.str x)] ∧ Same H H1 ∧ H1 q = some (.lst (ys.map V.str)) ∧ H1 D = some (.lst (qs.map V.ref)) ∧ Pats K H1 qs rows ∧ rows.length ≤ 20 ∧ rdLines (ys.map cp) 0 [] = rdLines (post.map cp) (a + (cp x).length + 1) rows) ?_ ?_
      · walk_at "go"
        refine ⟨_, ⟨sz_of hx6, rfl⟩, ?_⟩
        by_cases hx0 : cp x = []
        · have hz0 : x.length = 0 := by rw [← hxl, hx0]; rfl
          rw [if_neg (by rw [hz0]; decide)]
          walk_at "go"
          exact ⟨rows, qs, rfl, s1, hq1, hD1, hP, h20, by rw [hrd, List.map_cons, rdLines_skip (.inl hx0)]⟩
        have hz0 : x.length ≠ 0 := by rw [← hxl]; exact fun h => hx0 (List.eq_nil_of_length_eq_zero h)
        rw [if_pos (by rw [bne_iff_ne]; omega)]
        walk_at "go"
        refine ⟨_, _, rfl, rfl, _, rfl, ?_⟩
        rw [starts_one (c := 35) rfl]
        refine i_nd (fun h35 => ?_) (fun h35 => ?_)
        rotate_left
        · walk_at "go"
          exact ⟨rows, qs, rfl, s1, hq1, hD1, hP, h20, by rw [hrd, List.map_cons, rdLines_skip (.inr h35)]⟩
        have hno : ¬ (cp x = [] ∨ (cp x).head? = some 35) := by
          rintro (h | h)
          · exact hx0 h
          · exact h35 h
        walk_at "go"
        rw [List.length_map, hql]
        refine i_d (fun h9 => ?_) (fun h9 => ?_)
        · walk_at "go"
          exact fun d hd => k2 _ _ _ (by rw [hrd, List.map_cons, rdLines_20 hno (by omega)]) s1 hd
        have h9 : rows.length ≠ 20 := by omega
        obtain ⟨g1, g2, g3⟩ := line_at hdr hx0
        walk_at "go"
        have ea : (a : Int) + (x.length : Int) = ((a + (cp x).length : Nat) : Int) := by omega
        rw [ea]
        refine ⟨_, _, _, rfl, z, a, a + (cp x).length, rfl, rfl, rfl, by omega, g1, g3, hz, fun as neg p H3 hr s3 hA => ?_, fun i d H3 hr s3 hd => ?_⟩
        rotate_left
        · rw [g2] at hr
          exact k2 _ _ _ (by rw [hrd, List.map_cons, rdLines_err hno h9 hr]) (s1.trans s3) hd
        rw [g2] at hr
        have hD3 := s3 _ _ hD1
        walk_at "go"
        refine e_app hD3 (small (by rw [List.length_map, hql]; exact h20 : _ ≤ 20) (by decide)) ?_
        walk_at "go"
        refine ⟨rows ++ [(as, neg)], qs ++ [p], rfl, Same.mut (s1.trans s3) hD, by rw [upd_ne (Ne.symm nDq)]; exact s3 _ _ hq1, by rw [upd_same, List.map_append]; rfl, ?_, by rw [List.length_append]; show _ + 1 ≤ 20; omega, by rw [hrd, List.map_cons, rdLines_ok hno h9 hr]⟩
        exact prd_snoc ((hP.imp fun h => h.same s3).imp fun h => h.updL hD3) (hA.updL hD3)
      · rintro σ H2 ⟨rows, qs, rfl, s1, hq1, hD1, hP, h20, hrd⟩
        walk_at "go"
        refine ⟨_, _, rfl, rfl, ?_⟩
        refine ⟨a + (cp x).length + 1, some (.str x), rows, qs, ?_, ?_, s1, hq1, hD1, hP, h20, fun post' e' => ?_⟩
        · rw [show ((a + (cp x).length + 1 : Nat) : Int) = (a : Int) + ((x.length : Int) + 1) by omega]
          rfl
        · rw [List.map_append, List.map_append, List.sum_append, ← ha]
          simp [hxl]
          omega
        · have : post' = post := by
            rw [e, List.append_assoc] at e'
            have := List.append_cancel_left e'
            exact (List.cons.inj this).2.symm
          rw [this]
          exact hrd
    · obtain ⟨a, v3, rows, qs, rfl, ha, s1, hq1, hD1, hP, h20, hrd⟩ := p
      have hrd := hrd [] (by simp)
      walk_at "go"
      exact k1 rows D qs H1 hrd s1 hD hD1 hP
theorem ok_read_pattern (T : Txt K mg) (c_Pattern : C8.Mak P w K mg base 1 "Pattern" (He.ga K "Pattern") (sp_Pattern___init__ K) []) (cd_Pattern : C8.Mak P w K mg base 1 "Pattern" (He.ga K "Pattern") (sp_Pattern___init__ K) [.bl false])  (c_read_atom : CalX P w K mg base 5 "_read_atom" (sp_read_atom K)) {f : Addr} {fd : FuncData} (F : FnP K "_read_pattern" s_read_pattern f fd) : FnOk P w K mg base (L2.CX P w) 6 f fd ["text", "at", "end"] (sp_read_pattern K) := by
  refine F.ok sc_read_pattern (fun vs H Q E h => ?_) (fun cdv A outer s H vs Q E hr h => ?_)
  · obtain ⟨_, _, _, rfl, _⟩ := h
    rfl
  · have S := sc_read_pattern
    refine ⟨_, (pss_cons (ps_set (i := 3) S.nd rfl (by first | exact .inl rfl | exact .inr rfl) (pe_cmpR op_eq (pe_ix ix_str (pv 0) (pv 1) (fun _ _ => rfl)) pe_str (nomark _)))
    (C8.pss_cut (ps_if (pt_val (pv 3))
    (PSs.nox (pss_one (ps_aug (i := 1) S.nd rfl (by first | exact .inl rfl | exact .inr rfl) pe_int ip_add)))
    pss_nil)
    (pss_cons (ps_if (pt_cmpR op_eq (pv 1) (pv 2) (nomark _))
    (pss_one (ps_raiseErr rfl T.er_InvalidPattern.er hr (takes_of rfl rfl rfl rfl) (pa_cons (pv 2) pa_nil)))
    pss_nil)
    (pss_cons (ps_set (i := 4) S.nd rfl (by first | exact .inl rfl | exact .inr rfl) (pe_lst pa_nil))
    (pss_cons (ps_while (passes_of rfl) (pt_cmpR op_lt (pv 1) (pv 2) (nomark _))
    (pss_cons (ps_asg (pe_cX c_read_atom hr (by decide) (takes_of rfl rfl rfl rfl) (by rfl) (pa_cons (pv 0) (pa_cons (pv 1) (pa_cons (pv 2) pa_nil)))) (pg_tup rfl (pgs_cons (pg_name (i := 5) S.nd rfl (by first | exact .inl rfl | exact .inr rfl)) (pgs_cons (pg_name (i := 6) S.nd rfl (by first | exact .inl rfl | exact .inr rfl)) pgs_nil))))
      (pss_cons (ps_if (pw_or (pt_cmpR op_eq (pe_callB call_len_seq (by rfl) T.f_len (by first | rfl | decide +kernel) (pa_cons (pv 4) pa_nil)) (C8.pe_gc (by rfl) T.c_MOST_ATOMS) (nomark _)) (pw_or1 (pw_and (pt_val (pe_ix ix_tup (pv 5) pe_int (fun _ _ => rfl))) (pw_and (pt_truK K rfl (pv 4)) (pw_and1 (pt_val (pe_ix ix_tup (pe_ix ix_list (pv 4) (pe_un un_neg pe_int) (fun _ _ => rfl)) pe_int (fun _ _ => rfl)))))).pt)).pt
      (pss_one (ps_raiseErr rfl T.er_InvalidPattern.er hr (takes_of rfl rfl rfl rfl) (pa_cons (pv 1) pa_nil)))
      pss_nil)
      (PSs.nox (pss_cons (ps_expr (pe_bm PySem.F.plainAttrs_list PySem.F.slot_list_append PySem.F.type_list_append mt_append (pv 4) (pa_cons (pv 5) pa_nil)))
      (pss_one (ps_set (i := 1) S.nd rfl (by first | exact .inl rfl | exact .inr rfl) (pv 6))))))))
    (PSs.nox (pss_one (ps_ret (C8.pe_mk c_Pattern hr (by decide) (by rfl) (pa_cons (pv 4) (pa_cons (pv 3) pa_nil))))))))))), ?_⟩
    try dsimp only [cxOf, Cx.nox]
    obtain ⟨_, _, _, rfl, z, a, e, rfl, rfl, rfl, hae, hel, h42, hz, k1, k2⟩ := h
    walk_at "go"
    obtain ⟨c, hc, hd⟩ := tk_drop2 hae hel
    refine e_ixS (sz_of hz) (c := c) (at_ofN (by omega) hc) ?_
    walk_at "go"
    rw [one_dec (b := 33) rfl]
    have len : ∀ i, i ≤ e → (((cp z).take e).drop i).length = e - i := fun i hi => by rw [List.length_drop, List.length_take]; omega
    refine e_cut (Mid := fun σ H1 => ∃ (i : Nat) (neg : Bool), σ = [some (.str z), some (.int i), some (.int e), some (.bl neg), none, none, none] ∧ i ≤ e ∧ H1 = H ∧ rdPat (((cp z).take e).drop a) a = if i = e then .error e else negd neg (rdAtoms (e - i) (((cp z).take e).drop i) i [])) ?_ ?_
    · have hp := rdPat_cons (c := c) (a := a) (r := ((cp z).take e).drop (a + 1))
      by_cases q : c = 33
      · rw [decide_eq_true q]
        walk_at "go"
        refine ⟨_, _, rfl, rfl, ?_⟩
        refine ⟨a + 1, true, rfl, by omega, rfl, ?_⟩
        rw [hd, hp, if_pos q, len _ (by omega)]
        by_cases h : a + 1 = e
        · rw [if_pos h, if_pos (by rw [h, tk_end]), h]
        · rw [if_neg h, if_neg (by intro q2; have := len (a + 1) (by omega); rw [q2] at this; simp at this; omega)]
      · rw [decide_eq_false q]
        walk_at "go"
        refine ⟨a, false, rfl, by omega, rfl, ?_⟩
        rw [if_neg (by omega), hd, hp, if_neg q, ← hd, len _ (by omega)]
    rintro σ H1 ⟨i, neg, rfl, hi, rfl, hr1⟩
    walk_at "go"
    refine i_d (fun hie => ?_) (fun hie => ?_)
    · rw [if_pos (by omega)] at hr1
      walk_at "go"
      exact fun d hd => k2 _ _ _ hr1 (Same.refl _) hd
    rw [if_neg (by omega)] at hr1
    walk_at "go"
    rename_i D hD
    refine ⟨fun m σ H2 => ∃ (i : Nat) (v5 v6 : Option V) (acc : List PA) (qs : List Addr) (n : Nat), m = e - i ∧ σ = [some (.str z), some (.int i), some (.int e), some (.bl neg), some (.ref D), v5, v6] ∧ i ≤ e ∧ e - i ≤ n ∧ Same H1 H2 ∧ H2 D = some (.lst (qs.map V.ref)) ∧ Ats K H2 qs (ats acc) ∧ acc.length ≤ 40 ∧ rdPat (((cp z).take e).drop a) a = negd neg (rdAtoms n (((cp z).take e).drop i) i acc), ⟨_, i, none, none, [], [], e - i, rfl, rfl, hi, Nat.le_refl _, same_new hD, upd_same, .nil, by decide, hr1⟩, ?_⟩
    clear hr1 hie hi hc hd
    rintro m σ H2 ⟨i, v5, v6, acc, qs, n, rfl, rfl, hi, hn, s2, hD2, hA, ha40, hr1⟩
    walk_at "go"
    refine i_d (fun hlt => ?_) (fun hlt => ?_)
    rotate_left
    · have hie : i = e := by omega
      rw [hie, tk_end, rdAtoms_nil] at hr1
      walk_at "go"
      intro x dx hx hdx hne
      have fr : ∀ b o, H2 b = some o → upd (upd H2 dx (.own x)) x (.ins (He.ga K (Str.ofString "Pattern")) dx []) b = some o := fun b o hb => by
        rw [upd_ne (fun q => by rw [q, hx] at hb; cases hb), upd_ne (fun q => by rw [q, hdx] at hb; cases hb)]
        exact hb
      refine ⟨_, _, _, rfl, x, D, dx, qs.map V.ref, neg, rfl, rfl, rfl, upd_same, .inl (SqL.of (fr _ _ hD2)), fun H' hs hP => ⟨rfl, ?_⟩⟩
      have fr2 : Same H2 H' := fun b o hb => hs b (fun q => by rw [q, hx] at hb; cases hb) o (fr b o hb)
      exact k1 acc neg x H' hr1 (s2.trans fr2) ⟨qs, hP, ats_same fr2 hA⟩
    have hlt : i < e := by omega
    obtain ⟨c, hc, hd⟩ := tk_drop2 hlt hel
    obtain ⟨n, rfl⟩ : ∃ n', n = n' + 1 := ⟨n - 1, by omega⟩
    rw [hd] at hr1
    refine ⟨fun σ H2 => ∃ (i' : Nat) (v5 v6 : Option V) (acc : List PA) (qs : List Addr) (n : Nat), i < i' ∧ σ = [some (.str z), some (.int i'), some (.int e), some (.bl neg), some (.ref D), v5, v6] ∧ i' ≤ e ∧ e - i' ≤ n ∧ Same H1 H2 ∧ H2 D = some (.lst (qs.map V.ref)) ∧ Ats K H2 qs (ats acc) ∧ acc.length ≤ 40 ∧ rdPat (((cp z).take e).drop a) a = negd neg (rdAtoms n (((cp z).take e).drop i') i' acc), ?_, ?_⟩
    · rintro σ' H' ⟨i', v5, v6, acc, qs, n, h1, rfl, h2, h3⟩
      exact ⟨e - i', by omega, i', v5, v6, acc, qs, n, rfl, rfl, h2, h3⟩
    walk_at "go"
    refine ⟨_, _, _, rfl, z, i, e, rfl, rfl, rfl, hlt, hel, h42, hz, fun S b j p q H3 hr h1 h2 s hp hq => ?_, fun i' d H3 hr s hd' => ?_⟩
    rotate_left
    · rw [hd] at hr
      rw [rdAtoms_err hr] at hr1
      exact k2 _ _ _ hr1 (s2.trans s) hd'
    rw [hd] at hr
    rw [rdAtoms_ok hr, ← hd, len _ hi, len _ h2] at hr1
    walk_at "go"
    have hql : qs.length = acc.length := by rw [hA.length]; unfold ats; rw [List.length_map]
    have hD3 := s _ _ hD2
    have hA3 := ats_same s hA
    have s3 := s2.trans s
    clear hD2 hA s s2
    have no : ¬ (acc.length = 40 ∨ (b = true ∧ lastRep acc = true)) → ∀ H1_1, H1_1 = upd H3 D (.lst (qs.map V.ref ++ [.ref q])) → ∃ (i' : Nat) (v5 v6 : Option V) (acc_1 : List PA) (qs_1 : List Addr) (n_1 : Nat), i < i' ∧ [some (V.str z), some (V.int j), some (V.int e), some (V.bl neg), some (V.ref D), some (V.ref q), some (V.int j)] = [some (.str z), some (.int i'), some (.int e), some (.bl neg), some (.ref D), v5, v6] ∧ i' ≤ e ∧ e - i' ≤ n_1 ∧ Same H1 H1_1 ∧ H1_1 D = some (.lst (qs_1.map V.ref)) ∧ Ats K H1_1 qs_1 (ats acc_1) ∧ acc_1.length ≤ 40 ∧ rdPat (((cp z).take e).drop a) a = negd neg (rdAtoms n_1 (((cp z).take e).drop i') i' acc_1) := by
      rintro hn9 _ rfl
      rw [if_neg hn9] at hr1
      have hn40 : acc.length < 40 := by
        rcases Nat.lt_or_ge acc.length 40 with h | h
        · exact h
        · exact absurd (.inl (by omega)) hn9
      refine ⟨j, _, _, acc ++ [(S, b)], qs ++ [q], n, h1, rfl, h2, by omega, Same.mut s3 hD, by rw [upd_same, List.map_append]; rfl, ?_, by rw [List.length_append]; show _ + 1 ≤ 40; omega, ?_⟩
      · have e1 : ats (acc ++ [(S, b)]) = ats acc ++ [(tx S, b)] := by unfold ats; rw [List.map_append]; rfl
        rw [e1]
        exact prd_snoc (ats_lst hD3 hA3) (sqt_lst hD3 hq)
      · have e1 : i + (e - i - (e - j)) = j := by omega
        rw [e1] at hr1
        exact hr1
    have bad : (acc.length = 40 ∨ (b = true ∧ lastRep acc = true)) → ∀ d', H3 d' = none → E (.ref (cIP K)) (some d') (upd H3 d' (.xd [(("place" : Str), .int i)])) := fun h d' hd' => k2 i d' H3 (by rw [hr1, if_pos h]; rfl) s3 hd'
    clear hr1 hr k1 k2
    refine ⟨D, qs.map V.ref, rfl, .inl (SqL.of hD3), ?_⟩
    walk_at "go"
    rw [List.length_map, hql]
    have e40 : decide (((acc.length : Nat) : Int) = 40) = decide (acc.length = 40) := decide_eq_decide.mpr (by omega)
    rw [e40]
    refine i_d (fun h40 => ?_) (fun h40 => ?_)
    · walk_at "go"
      exact bad (.inl h40)
    walk_at "go"
    refine e_ixT hq (v := .bl b) rfl ?_
    walk_at "go"
    cases b with
    | false =>
      walk_at "go"
      refine e_app hD3 (small (by rw [List.length_map, hql]; exact ha40 : _ ≤ 40) (by decide)) ?_
      walk_at "go"
      refine no (fun h => ?_) _ rfl
      rcases h with h | ⟨h, _⟩
      · exact h40 h
      · cases h
    | true =>
      walk_at "go"
      refine ⟨!(qs.map V.ref).isEmpty, .inl ⟨_, SqL.of hD3, rfl⟩, ?_⟩
      by_cases h0 : acc.length = 0
      · have e0 : qs = [] := List.eq_nil_of_length_eq_zero (by omega)
        have e1 : acc = [] := List.eq_nil_of_length_eq_zero h0
        rw [if_neg (by rw [e0]; decide)]
        walk_at "go"
        refine e_app hD3 (small (by rw [List.length_map, hql]; exact ha40 : _ ≤ 40) (by decide)) ?_
        walk_at "go"
        refine no (fun h => ?_) _ rfl
        rcases h with h | ⟨_, h⟩
        · exact h40 h
        · rw [e1] at h; cases h
      · obtain ⟨w9, c9, hw, hc9, hR⟩ := prd_get hA3 (acc.length - 1) (by unfold ats; rw [List.length_map]; omega)
        have hne : (!(qs.map V.ref).isEmpty) = true := by
          cases qs with
          | nil => rw [List.length_nil] at hql; omega
          | cons x r => rfl
        rw [if_pos hne]
        walk_at "go"
        refine e_ixL (v := .ref w9) (SqL.of hD3) (at_lastR (n := acc.length - 1) hw (by omega)) ?_
        walk_at "go"
        refine e_ixT hR (v := .bl c9.2) rfl ?_
        walk_at "go"
        have hlr : lastRep acc = c9.2 := by
          unfold ats at hc9
          rw [List.getElem?_map] at hc9
          unfold lastRep
          rw [List.getLast?_eq_getElem?]
          cases h : acc[acc.length - 1]? with
          | none => rw [h] at hc9; cases hc9
          | some x =>
            rw [h] at hc9
            have hc9 : (tx x.1, x.2) = c9 := Option.some.inj hc9
            rw [← hc9]
            rfl
        cases h9 : c9.2 with
        | true =>
          walk_at "go"
          exact bad (.inr ⟨rfl, by rw [hlr, h9]⟩)
        | false =>
          walk_at "go"
          refine e_app hD3 (small (by rw [List.length_map, hql]; exact ha40 : _ ≤ 40) (by decide)) ?_
          walk_at "go"
          refine no (fun h => ?_) _ rfl
          rcases h with h | ⟨_, h⟩
          · exact h40 h
          · rw [hlr, h9] at h; cases h
theorem ok_read_atom (T : Txt K mg)  (c_read_set : CalX P w K mg base 4 "_read_set" (sp_read_set K)) {f : Addr} {fd : FuncData} (F : FnP K "_read_atom" s_read_atom f fd) : FnOk P w K mg base (L2.CX P w) 5 f fd ["text", "at", "end"] (sp_read_atom K) := by
  refine F.ok sc_read_atom (fun vs H Q E h => ?_) (fun cdv A outer s H vs Q E hr h => ?_)
  · obtain ⟨_, _, _, rfl, _⟩ := h
    rfl
  · have S := sc_read_atom
    refine ⟨_, (pss_cons (ps_set (i := 3) S.nd rfl (by first | exact .inl rfl | exact .inr rfl) (pe_ix ix_str (pv 0) (pv 1) (fun _ _ => rfl)))
    (pss_cons (ps_if (pt_cmpR op_eq (pe_slice sl_str (pv 0) (po_some (pv 1)) (po_some (pe_op op_add (pv 1) pe_int))) pe_str (nomark _))
    (PSs.nox (pss_one (ps_ret (pe_tup (pa_cons (pe_tup (pa_cons (C8.pe_gc (by rfl) T.c_CHARACTERS) (pa_cons pe_bl pa_nil))) (pa_cons (pe_op op_add (pv 1) pe_int) pa_nil))))))
    pss_nil)
    (pss_cons (ps_if (pt_cmpR op_eq (pv 3) pe_str (nomark _))
    (PSs.nox (pss_one (ps_ret (pe_tup (pa_cons (pe_tup (pa_cons (C8.pe_gc (by rfl) T.c_NO_SLASH) (pa_cons pe_bl pa_nil))) (pa_cons (pe_op op_add (pv 1) pe_int) pa_nil))))))
    pss_nil)
    (pss_cons (ps_if (pt_cmpR op_eq (pv 3) pe_str (nomark _))
    (PSs.nox (pss_one (ps_ret (pe_tup (pa_cons (pe_tup (pa_cons (C8.pe_gc (by rfl) T.c_NO_SLASH) (pa_cons pe_bl pa_nil))) (pa_cons (pe_op op_add (pv 1) pe_int) pa_nil))))))
    pss_nil)
    (pss_cons (ps_if (pt_cmpR op_eq (pv 3) pe_str (nomark _))
    (pss_one (ps_ret (pe_cX c_read_set hr (by decide) (takes_of rfl rfl rfl rfl) (by rfl) (pa_cons (pv 0) (pa_cons (pv 1) (pa_cons (pv 2) pa_nil))))))
    pss_nil)
    (pss_cons (ps_if (pt_cmpR op_notIn_sign (pv 3) (C8.pe_gc (by rfl) T.c_CHARACTERS) (by first | rfl | with_unfolding_all rfl))
    (pss_one (ps_raiseErr rfl T.er_InvalidPattern.er hr (takes_of rfl rfl rfl rfl) (pa_cons (pv 1) pa_nil)))
    pss_nil)
    (PSs.nox (pss_one (ps_ret (pe_tup (pa_cons (pe_tup (pa_cons (pv 3) (pa_cons pe_bl pa_nil))) (pa_cons (pe_op op_add (pv 1) pe_int) pa_nil)))))))))))), ?_⟩
    try dsimp only [cxOf, Cx.nox]
    obtain ⟨_, _, _, rfl, z, a, e, rfl, rfl, rfl, hae, hel, h42, hz, kk⟩ := h
    have k2 := kk.2
    walk_at "go"
    obtain ⟨c, hc, hd⟩ := tk_drop2 hae hel
    refine e_ixS (sz_of hz) (c := c) (at_ofN (by omega) hc) ?_
    walk_at "go"
    rw [two_stars hae hel h42 hc]
    rw [hd] at kk k2
    have hRe : ∀ {P : Prop}, P → P := fun h => h
    have hR : rdAtom (c :: ((cp z).take e).drop (a + 1)) a = if c = 42 then (if (((cp z).take e).drop (a + 1)).head? = some 42 then .ok ((CH, true), (((cp z).take e).drop (a + 1)).tail) else .ok ((NS, true), ((cp z).take e).drop (a + 1))) else if c = 63 then .ok ((NS, false), ((cp z).take e).drop (a + 1)) else if c = 91 then rdSet (((cp z).take e).drop (a + 1)) a else
      if c ∈ CH then .ok (([c], false), ((cp z).take e).drop (a + 1)) else .error a := rfl
    refine i_d (fun h1 => ?_) (fun h1 => ?_)
    · rw [if_pos h1.1, if_pos h1.2, List.tail_drop] at hR
      have h7 : a + 1 < e := by
        rcases Nat.lt_or_ge (a + 1) e with h | h
        · exact h
        · have h2 := h1.2
          rw [List.drop_eq_nil_of_le (by rw [List.length_take]; omega)] at h2
          cases h2
      walk_at "go"
      exact kk.fin (j := a + 2) hR (by omega) (by omega) (Same.refl _) (by assumption) (by assumption) rfl (by omega)
    walk_at "go"
    rw [one_dec (b := 42) rfl]
    refine i_d (fun h2 => ?_) (fun h2 => ?_)
    · rw [if_pos h2, if_neg (fun h => h1 ⟨h2, h⟩)] at hR
      walk_at "go"
      exact kk.fin (j := a + 1) hR (by omega) (by omega) (Same.refl _) (by assumption) (by assumption) (by decide +kernel) (by omega)
    rw [if_neg h2] at hR
    walk_at "go"
    rw [one_dec (b := 63) rfl]
    refine i_d (fun h3 => ?_) (fun h3 => ?_)
    · rw [if_pos h3] at hR
      walk_at "go"
      exact kk.fin (j := a + 1) hR (by omega) (by omega) (Same.refl _) (by assumption) (by assumption) (by decide +kernel) (by omega)
    rw [if_neg h3] at hR
    walk_at "go"
    rw [one_dec (b := 91) rfl]
    refine i_d (fun h4 => ?_) (fun h4 => ?_)
    · rw [if_pos h4] at hR
      rw [hR] at kk
      walk_at "go"
      exact ⟨_, _, _, rfl, z, a, e, rfl, rfl, rfl, hae, hel, by rw [hc, h4], hz, kk⟩
    rw [if_neg h4] at hR
    walk_at "go"
    refine ⟨_, _, rfl, rfl, ?_⟩
    walk_at "go"
    refine i_nd (fun h5 => ?_) (fun h5 => ?_)
    · have h5 : c ∉ CH := h5
      rw [if_neg h5] at hR
      walk_at "go"
      exact fun d hd => k2 _ _ _ hR (Same.refl _) hd
    · have h5 : c ∈ CH := h5
      rw [if_pos h5] at hR
      walk_at "go"
      exact kk.fin (j := a + 1) hR (by omega) (by omega) (Same.refl _) (by assumption) (by assumption) rfl (by omega)
theorem ok_read_set (T : Txt K mg)  (c_read_items : CalX P w K mg base 3 "_read_items" (sp_read_items K)) {f : Addr} {fd : FuncData} (F : FnP K "_read_set" s_read_set f fd) : FnOk P w K mg base (L2.CX P w) 4 f fd ["text", "at", "end"] (sp_read_set K) := by
  refine F.ok sc_read_set (fun vs H Q E h => ?_) (fun cdv A outer s H vs Q E hr h => ?_)
  · obtain ⟨_, _, _, rfl, _⟩ := h
    rfl
  · have S := sc_read_set
    refine ⟨_, (pss_cons (ps_set (i := 3) S.nd rfl (by first | exact .inl rfl | exact .inr rfl) (pe_bm PySem.F.plainAttrs_str PySem.F.slot_str_find PySem.F.type_str_find mt_find4 (pv 0) (pa_cons pe_str (pa_cons (pv 1) (pa_cons (pv 2) pa_nil)))))
    (pss_cons (ps_if (pt_cmpR op_eq (pv 3) (pe_un un_neg pe_int) (nomark _))
    (pss_one (ps_raiseErr rfl T.er_InvalidPattern.er hr (takes_of rfl rfl rfl rfl) (pa_cons (pv 1) pa_nil)))
    pss_nil)
    (pss_cons (ps_set (i := 4) S.nd rfl (by first | exact .inl rfl | exact .inr rfl) (pe_cmpR op_eq (pe_ix ix_str (pv 0) (pe_op op_add (pv 1) pe_int) (fun _ _ => rfl)) pe_str (nomark _)))
    (pss_cons (ps_set (i := 5) S.nd rfl (by first | exact .inl rfl | exact .inr rfl) (pe_cX c_read_items hr (by decide) (takes_of rfl rfl rfl rfl) (by rfl) (pa_cons (pv 0) (pa_cons (pe_ifExp (pt_val (pv 4)) (pe_op op_add (pv 1) pe_int) (pe_op op_add (pv 1) pe_int)) (pa_cons (pv 3) pa_nil)))))
    (C8.pss_cut (ps_if (pt_val (pv 4))
    (PSs.nox (pss_one (ps_set (i := 6) S.nd rfl (by first | exact .inl rfl | exact .inr rfl) (pe_join pe_str (pe_lc (own := [("char", 7)]) (g := gName 7) rfl S.nd (pi_str (C8.pe_gc (by rfl) T.c_NO_SLASH)) (blkOk_by (N := N_read_set) (sc := defScope s_read_set) (by decide +kernel)) (fun _ _ _ _ _ => (pg_name (i := 7) S.nd rfl (by first | exact .inl rfl | exact .inr rfl))) (fun _ _ _ _ _ => (pts_one (pt_cmp (pc_dnotin (hu_of hr) (pv 7) (pv 5))))) (fun _ _ _ _ _ => (pv 7)))))))
    (PSs.nox (pss_one (ps_set (i := 6) S.nd rfl (by first | exact .inl rfl | exact .inr rfl) (pe_join pe_str (pe_lc (own := [("char", 7)]) (g := gName 7) rfl S.nd (pi_str (C8.pe_gc (by rfl) T.c_CHARACTERS)) (blkOk_by (N := N_read_set) (sc := defScope s_read_set) (by decide +kernel)) (fun _ _ _ _ _ => (pg_name (i := 7) S.nd rfl (by first | exact .inl rfl | exact .inr rfl))) (fun _ _ _ _ _ => (pts_one (pt_cmp (pc_din (hu_of hr) (pv 7) (pv 5))))) (fun _ _ _ _ _ => (pv 7))))))))
    (pss_cons (ps_if (pt_cmpR op_eq (pv 6) pe_str (nomark _))
    (pss_one (ps_raiseErr rfl T.er_InvalidPattern.er hr (takes_of rfl rfl rfl rfl) (pa_cons (pv 1) pa_nil)))
    pss_nil)
    (PSs.nox (pss_one (ps_ret (pe_tup (pa_cons (pe_tup (pa_cons (pv 6) (pa_cons pe_bl pa_nil))) (pa_cons (pe_op op_add (pv 3) pe_int) pa_nil)))))))))))), ?_⟩
    try dsimp only [cxOf, Cx.nox]
    obtain ⟨_, _, _, rfl, z, a, e, rfl, rfl, rfl, hae, hel, h91, hz, kk⟩ := h
    have k2 := kk.2
    walk_at "go"
    refine ⟨rfl, ?_⟩
    walk_at "go"
    refine ⟨_, _, _, _, rfl, rfl, ?_⟩
    have e93 : ("]" : Str) = ⟨#[93]⟩ := str_ext rfl
    rw [e93]
    rcases find_in z 93 a e hel with ⟨h1, h2⟩ | ⟨k, h1, h2, h3, h4, h5⟩
    · rw [h1]
      have h93 := not_mem_at (a := a + 1) (e := e) (c := 93) (l := cp z) fun i p q => h2 i (by omega) q
      have hR : rdSet (((cp z).take e).drop (a + 1)) a = .error a := by
        unfold rdSet
        rw [if_pos h93]
      walk_at "go"
      rw [if_pos (by decide)]
      walk_at "go"
      exact fun d hd => k2 _ _ _ hR (Same.refl _) hd
    rw [h1]
    have hka : a < k := by
      rcases Nat.lt_or_ge a k with h | h
      · exact h
      · have e : a = k := by omega
        rw [e, h4] at h91
        cases h91
    obtain ⟨w1, w2⟩ := while_at hel h3 h4 (k - (a + 1)) (a + 1) (by omega) fun i p q => h5 i (by omega) q
    obtain ⟨c, hc, hb⟩ : ∃ c, (cp z)[a + 1]? = some c ∧ ((((cp z).take k).drop (a + 1)).head? = some 33 ↔ c = 33) := by
      by_cases e : a + 1 = k
      · refine ⟨93, by rw [e]; exact h4, ?_⟩
        rw [e, tk_end]
        simp
      · obtain ⟨c, h1, h2⟩ := tk_drop2 (l := cp z) (i := a + 1) (e := k) (by omega) (by omega)
        refine ⟨c, h1, ?_⟩
        rw [h2]
        simp
    have h93 : ¬ 93 ∉ ((cp z).take e).drop (a + 1) := by
      intro h
      have h7 : 93 ∈ ((cp z).take e).drop (a + 1) := (List.dropWhile_sublist (l := ((cp z).take e).drop (a + 1)) fun c => decide (c ≠ 93)).subset (by rw [w2]; exact List.mem_cons_self ..)
      exact h h7
    have hR : rdSet (((cp z).take e).drop (a + 1)) a = if c = 33 then
        match rdItems (((cp z).take k).drop (a + 2)) (a + 2) with
        | .error e => .error e
        | .ok L => if (NS.filter fun c => decide (c ∉ L)) = [] then .error a else .ok ((NS.filter fun c => decide (c ∉ L), false), ((cp z).take e).drop (k + 1))
      else
        match rdItems (((cp z).take k).drop (a + 1)) (a + 1) with
        | .error e => .error e
        | .ok L => if (CH.filter fun c => decide (c ∈ L)) = [] then .error a else .ok ((CH.filter fun c => decide (c ∈ L), false), ((cp z).take e).drop (k + 1)) := by
      unfold rdSet
      rw [if_neg h93, w1, w2]
      by_cases q : c = 33
      · rw [if_pos q]
        dsimp only
        rw [if_pos (hb.mpr q), List.tail_drop]
        rfl
      · rw [if_neg q]
        dsimp only
        rw [if_neg (fun h => q (hb.mp h))]
        rfl
    clear w1 w2 h93 h5 h1
    walk_at "go"
    rw [if_neg (by rw [decide_eq_true_iff]; omega)]
    walk_at "go"
    refine e_ixS (sz_of hz) (c := c) (at_ofN (by omega) hc) ?_
    walk_at "go"
    rw [one_dec (b := 33) rfl]
    by_cases q : c = 33
    · rw [decide_eq_true q]
      subst q
      have hk2 : a + 2 ≤ k := by
        by_cases e : a + 1 = k
        · rw [e, h4] at hc; cases hc
        · omega
      rw [if_pos rfl] at hR
      walk_at "go"
      refine ⟨_, _, _, rfl, z, a + 2, k, rfl, rfl, rfl, hk2, h4, hz, fun L d H' hr s hk => ?_, fun i d H' hr s hd => ?_⟩
      rotate_left
      · exact k2 _ _ _ (by rw [hR, hr]) s hd
      rw [hr] at hR
      walk_at "go"
      refine e_cut (Mid := fun σ H1 => σ = [some (.str z), some (.int a), some (.int e), some (.int k), some (.bl true), some (.ref d), some (.str (tx (NS.filter fun c => decide (c ∉ L)))), none] ∧ Same H H1) ?_ ?_
      · walk_at "go"
        intro D hD
        refine lc_str (fun pre H1 => Same H' H1 ∧ pre.length ≤ 67 ∧ H1 D = some (.lst ((ones (pre.filter fun c => decide (c ∉ L))).map V.str))) ⟨same_new hD, by decide, upd_same⟩ (fun pre x post H7 e q => ?_) (fun H7 q => ?_)
        · obtain ⟨q1, q2, q3⟩ := q
          have q4 : (pre ++ [x]).length ≤ 67 := Nat.le_trans (pre_le e) (by decide)
          obtain ⟨o, g1, g2⟩ := (hk.same q1).get x
          walk_at "go"
          refine ⟨d, o, rfl, g1, _, rfl, ?_⟩
          rw [g2]
          by_cases hx : x ∈ L
          · rw [if_neg (by simp [hx])]
            refine ⟨q1, q4, ?_⟩
            rw [List.filter_append, List.filter_cons_of_neg (by simp [hx]), List.filter_nil, List.append_nil]
            exact q3
          · rw [if_pos (by simp [hx])]
            walk_at "go"
            refine ⟨_, q3, small (by
              rw [List.length_map, ones, List.length_map]
              have h5 := List.length_filter_le (fun c => decide (c ∉ L)) pre
              omega : _ ≤ 67) (by decide), Same.mut q1 hD, q4, ?_⟩
            rw [upd_same, List.filter_append, List.filter_cons_of_pos (by simp [hx]), ones, ones, List.map_append, List.map_append]
            rfl
        · obtain ⟨q1, q2, q3⟩ := q
          have q3' : H7 D = some (.lst ((ones (NS.filter fun c => decide (c ∉ L))).map V.str)) := q3
          refine ⟨_, _, ones (NS.filter fun c => decide (c ∉ L)), rfl, rfl, .inl (SqL.of q3'), by
            rw [ones_len]
            have := List.length_filter_le (fun c => decide (c ∉ L)) NS
            have e9 : NS.length ≤ 67 := by decide
            show _ + _ * 0 ≤ _
            omega, ?_⟩
          walk_at "go"
          refine ⟨?_, s.trans q1⟩
          rw [cp_eq (cp_ones _)]
          rfl
      · rintro σ H1 ⟨rfl, s1⟩
        walk_at "go"
        have ew : ∀ X : List Nat, decide (tx X = ("" : Str)) = decide (X = []) := fun X => decide_eq_decide.mpr ⟨fun e => by rw [← cp_tx X, e]; rfl, fun e => by rw [e]; rfl⟩
        rw [ew]
        refine i_d (fun h => ?_) (fun h => ?_)
        · walk_at "go"
          exact fun d' hd' => k2 _ _ _ (by rw [hR]; exact if_pos h) s1 hd'
        · walk_at "go"
          exact kk.fin (j := k + 1) (by rw [hR]; exact if_neg h) (by omega) (by omega) s1 (by assumption) (by assumption) (cp_tx _) (by omega)
    · rw [decide_eq_false q]
      have hk2 : a + 1 ≤ k := by omega
      rw [if_neg q] at hR
      walk_at "go"
      refine ⟨_, _, _, rfl, z, a + 1, k, rfl, rfl, rfl, hk2, h4, hz, fun L d H' hr s hk => ?_, fun i d H' hr s hd => ?_⟩
      rotate_left
      · exact k2 _ _ _ (by rw [hR, hr]) s hd
      rw [hr] at hR
      walk_at "go"
      refine e_cut (Mid := fun σ H1 => σ = [some (.str z), some (.int a), some (.int e), some (.int k), some (.bl false), some (.ref d), some (.str (tx (CH.filter fun c => decide (c ∈ L)))), none] ∧ Same H H1) ?_ ?_
      · walk_at "go"
        intro D hD
        refine lc_str (fun pre H1 => Same H' H1 ∧ pre.length ≤ 67 ∧ H1 D = some (.lst ((ones (pre.filter fun c => decide (c ∈ L))).map V.str))) ⟨same_new hD, by decide, upd_same⟩ (fun pre x post H7 e q => ?_) (fun H7 q => ?_)
        · obtain ⟨q1, q2, q3⟩ := q
          have q4 : (pre ++ [x]).length ≤ 67 := Nat.le_trans (pre_le e) (by decide)
          obtain ⟨o, g1, g2⟩ := (hk.same q1).get x
          walk_at "go"
          refine ⟨d, o, rfl, g1, _, rfl, ?_⟩
          rw [g2]
          by_cases hx : x ∈ L
          · rw [if_pos (by simp [hx])]
            walk_at "go"
            refine ⟨_, q3, small (by
              rw [List.length_map, ones, List.length_map]
              have h5 := List.length_filter_le (fun c => decide (c ∈ L)) pre
              omega : _ ≤ 67) (by decide), Same.mut q1 hD, q4, ?_⟩
            rw [upd_same, List.filter_append, List.filter_cons_of_pos (by simp [hx]), ones, ones, List.map_append, List.map_append]
            rfl
          · rw [if_neg (by simp [hx])]
            refine ⟨q1, q4, ?_⟩
            rw [List.filter_append, List.filter_cons_of_neg (by simp [hx]), List.filter_nil, List.append_nil]
            exact q3
        · obtain ⟨q1, q2, q3⟩ := q
          have q3' : H7 D = some (.lst ((ones (CH.filter fun c => decide (c ∈ L))).map V.str)) := q3
          refine ⟨_, _, ones (CH.filter fun c => decide (c ∈ L)), rfl, rfl, .inl (SqL.of q3'), by
            rw [ones_len]
            have := List.length_filter_le (fun c => decide (c ∈ L)) CH
            have e9 : CH.length ≤ 67 := by decide
            show _ + _ * 0 ≤ _
            omega, ?_⟩
          walk_at "go"
          refine ⟨?_, s.trans q1⟩
          rw [cp_eq (cp_ones _)]
          rfl
      · rintro σ H1 ⟨rfl, s1⟩
        walk_at "go"
        have ew : ∀ X : List Nat, decide (tx X = ("" : Str)) = decide (X = []) := fun X => decide_eq_decide.mpr ⟨fun e => by rw [← cp_tx X, e]; rfl, fun e => by rw [e]; rfl⟩
        rw [ew]
        refine i_d (fun h => ?_) (fun h => ?_)
        · walk_at "go"
          exact fun d' hd' => k2 _ _ _ (by rw [hR]; exact if_pos h) s1 hd'
        · walk_at "go"
          exact kk.fin (j := k + 1) (by rw [hR]; exact if_neg h) (by omega) (by omega) s1 (by assumption) (by assumption) (cp_tx _) (by omega)
theorem ok_read_items (T : Txt K mg)  (c_is_item : Cal P w K mg base 1 "_is_item" (sp_is_item K)) {f : Addr} {fd : FuncData} (F : FnP K "_read_items" s_read_items f fd) : FnOk P w K mg base (L2.CX P w) 3 f fd ["text", "at", "close"] (sp_read_items K) := by
  refine F.ok sc_read_items (fun vs H Q E h => ?_) (fun cdv A outer s H vs Q E hr h => ?_)
  · obtain ⟨_, _, _, rfl, _⟩ := h
    rfl
  · have S := sc_read_items
    refine ⟨_, (pss_cons (ps_set (i := 3) S.nd rfl (by first | exact .inl rfl | exact .inr rfl) pe_dnewK)
    (C8.pss_cut (ps_if (pt_cmpR op_eq (pe_ix ix_str (pv 0) (pv 1) (fun _ _ => rfl)) pe_str (nomark _))
    (PSs.nox (pss_cons (ps_dput (hu_of hr) (pv 3) pe_str pe_bl rfl)
      (pss_one (ps_aug (i := 1) S.nd rfl (by first | exact .inl rfl | exact .inr rfl) pe_int ip_add))))
    pss_nil)
    (pss_cons (ps_while (passes_of rfl) (pt_cmpR op_lt (pv 1) (pv 2) (nomark _))
    (pss_cons (ps_set (i := 4) S.nd rfl (by first | exact .inl rfl | exact .inr rfl) (pe_ix ix_str (pv 0) (pv 1) (fun _ _ => rfl)))
      (pss_cons (ps_if (pt_not (pt_val (pe_c c_is_item hr (by decide) (by rfl) (pa_cons (pv 4) pa_nil))))
      (pss_one (ps_raiseErr rfl T.er_InvalidPattern.er hr (takes_of rfl rfl rfl rfl) (pa_cons (pv 1) pa_nil)))
      pss_nil)
      (pss_cons (ps_if (pt_cmpR op_ne (pe_ix ix_str (pv 0) (pe_op op_add (pv 1) pe_int) (fun _ _ => rfl)) pe_str (nomark _))
      (PSs.nox (pss_cons (ps_dput (hu_of hr) (pv 3) (pv 4) pe_bl rfl)
        (pss_cons (ps_aug (i := 1) S.nd rfl (by first | exact .inl rfl | exact .inr rfl) pe_int ip_add)
        (pss_one ps_continue))))
      pss_nil)
      (pss_cons (ps_set (i := 5) S.nd rfl (by first | exact .inl rfl | exact .inr rfl) (pe_ix ix_str (pv 0) (pe_op op_add (pv 1) pe_int) (fun _ _ => rfl)))
      (pss_cons (ps_if (pw_or (pt_not (pt_val (pe_c c_is_item hr (by decide) (by rfl) (pa_cons (pv 5) pa_nil)))) (pw_or1 (pt_cmpR op_le_str (pv 5) (pv 4) (nomark _)))).pt
      (pss_one (ps_raiseErr rfl T.er_InvalidPattern.er hr (takes_of rfl rfl rfl rfl) (pa_cons (pe_op op_add (pv 1) pe_int) pa_nil)))
      pss_nil)
      (PSs.nox (pss_cons (ps_for PassesOwn.never rfl (pi_str (C8.pe_gc (by rfl) T.c_CHARACTERS)) (pg_name (i := 6) S.nd rfl (by first | exact .inl rfl | exact .inr rfl))
      (pss_one (ps_if (pt_chain op_le_str op_le_str (pv 4) (pv 6) (pv 5))
        (pss_one (ps_dput (hu_of hr) (pv 3) (pv 6) pe_bl rfl))
        pss_nil)))
      (pss_one (ps_aug (i := 1) S.nd rfl (by first | exact .inl rfl | exact .inr rfl) pe_int ip_add))))))))))
    (PSs.nox (pss_one (ps_ret (pv 3))))))), ?_⟩
    try dsimp only [cxOf, Cx.nox]
    obtain ⟨_, _, _, rfl, z, a, cl, rfl, rfl, rfl, hac, hcl, hz, k1, k2⟩ := h
    walk_at "go"
    intro d hd
    walk_at "go"
    refine e_cut (Mid := fun σ H1 => ∃ (i : Nat) (L : List Nat), σ = [some (.str z), some (.int i), some (.int cl), some (.ref d), none, none, none] ∧ i ≤ cl ∧ Same H H1 ∧ Ks H1 d L ∧ rdItems (((cp z).take cl).drop a) a = pre1 L (rdI (((cp z).take cl).drop i) i)) ?_ ?_
    · have hc : ∃ c, (cp z)[a]? = some c := by
        by_cases e : a = cl
        · exact ⟨93, by rw [e]; exact hcl⟩
        · obtain ⟨c, h1, h2⟩ := tk_drop (i := a) (by omega) hcl
          exact ⟨c, h1⟩
      obtain ⟨c, hc⟩ := hc
      walk_at "go"
      refine e_ixS (sz_of hz) (c := c) (at_ofN rfl hc) ?_
      walk_at "go"
      rw [one_dec (b := 45) rfl]
      refine i_d (fun e => ?_) (fun e => ?_)
      · subst e
        have hne : a < cl := by
          rcases Nat.lt_or_ge a cl with h | h
          · exact h
          · have e : a = cl := by omega
            subst e
            rw [hcl] at hc
            cases hc
        obtain ⟨c, h1, h2⟩ := tk_drop hne hcl
        rw [hc] at h1
        cases h1
        obtain ⟨o, p1, p2⟩ := Ks.put (H := upd H d (.dK [])) (d := d) Ks.new (c := 45) (by decide) (.bl true)
        walk_at "go"
        refine ⟨d, _, rfl, p1, ?_⟩
        walk_at "go"
        refine ⟨_, _, rfl, rfl, ?_⟩
        refine ⟨a + 1, [45], rfl, by omega, Same.mut (same_new hd) hd, p2, ?_⟩
        rw [h2]
        rfl
      · walk_at "go"
        refine ⟨a, [], rfl, hac, same_new hd, Ks.new, ?_⟩
        rw [pre1_nil]
        by_cases h : a = cl
        · subst h
          rw [tk_end]
          rfl
        · obtain ⟨c', h1, h2⟩ := tk_drop (i := a) (by omega) hcl
          rw [hc] at h1
          cases h1
          rw [h2]
          unfold rdItems
          split
          · rename_i h9
            exact absurd (List.cons.inj h9).1 e
          · rfl
    · rintro σ H1 ⟨i, L, rfl, hi, s1, hk, hr1⟩
      walk_at "go"
      refine ⟨fun m σ H1 => ∃ (i : Nat) (L : List Nat) (v4 v5 v6 : Option V), m = cl - i ∧ σ = [some (.str z), some (.int i), some (.int cl), some (.ref d), v4, v5, v6] ∧ i ≤ cl ∧ Same H H1 ∧ Ks H1 d L ∧ rdItems (((cp z).take cl).drop a) a = pre1 L (rdI (((cp z).take cl).drop i) i), ⟨_, i, L, none, none, none, rfl, rfl, hi, s1, hk, hr1⟩, ?_⟩
      clear hi s1 hk hr1 i L
      rintro m σ H2 ⟨i, L, v4, v5, v6, rfl, rfl, hi, s1, hk, hr1⟩
      walk_at "go"
      refine i_d (fun hlt => ?_) (fun hlt => ?_)
      rotate_left
      · walk_at "go"
        have e : i = cl := by omega
        subst e
        rw [tk_end] at hr1
        refine k1 _ _ _ hr1 s1 (hk.mono fun c => by rw [List.append_nil])
      have hlt : i < cl := by omega
      obtain ⟨c, h1, h2⟩ := tk_drop hlt hcl
      rw [h2] at hr1
      refine ⟨fun σ H1 => ∃ (j : Nat) (L : List Nat) (v4 v5 v6 : Option V), i < j ∧ σ = [some (.str z), some (.int j), some (.int cl), some (.ref d), v4, v5, v6] ∧ j ≤ cl ∧ Same H H1 ∧ Ks H1 d L ∧ rdItems (((cp z).take cl).drop a) a = pre1 L (rdI (((cp z).take cl).drop j) j), ?_, ?_⟩
      · rintro σ' H' ⟨j, L, v4, v5, v6, h1, rfl, h2⟩
        exact ⟨cl - j, by omega, j, L, v4, v5, v6, rfl, rfl, h2⟩
      walk_at "go"
      refine e_ixS (sz_of hz) (c := c) (at_ofN rfl h1) ?_
      walk_at "go"
      refine ⟨_, rfl, c, rfl, ?_⟩
      walk_at "go"
      refine i_b (fun hb => ?_) (fun hb => ?_)
      · have hb : itm c = false := by
          cases e : itm c
          · rfl
          · rw [e] at hb; cases hb
        rw [rdI_bad hb] at hr1
        walk_at "go"
        exact fun d' hd' => k2 _ _ _ hr1 s1 hd'
      have hb : itm c = true := by
        cases e : itm c
        · rw [e] at hb; cases hb
        · rfl
      walk_at "go"
      have hc : ∃ c2, (cp z)[i + 1]? = some c2 ∧ ((i + 1 = cl ∧ c2 = 93) ∨ (i + 1 < cl ∧ ((cp z).take cl).drop (i + 1) = c2 :: ((cp z).take cl).drop (i + 1 + 1))) := by
        by_cases e : i + 1 = cl
        · exact ⟨93, by rw [e]; exact hcl, .inl ⟨e, rfl⟩⟩
        · obtain ⟨c, h1, h2⟩ := tk_drop (i := i + 1) (by omega) hcl
          exact ⟨c, h1, .inr ⟨by omega, h2⟩⟩
      obtain ⟨c2, hc2, h3⟩ := hc
      refine e_ixS (sz_of hz) (c := c2) (at_ofN (by omega) hc2) ?_
      walk_at "go"
      rw [one_dec (b := 45) rfl]
      refine i_nd (fun e45 => ?_) (fun e45 => ?_)
      · obtain ⟨o, p1, p2⟩ := hk.put (itm_CH hb) (.bl true)
        walk_at "go"
        refine ⟨d, _, rfl, p1, ?_⟩
        walk_at "go"
        refine ⟨_, _, rfl, rfl, ?_⟩
        walk_at "go"
        refine ⟨i + 1, L ++ [c], _, _, _, by omega, rfl, by omega, Same.mut s1 hd, p2, ?_⟩
        rw [hr1, rdI_one hb, pre1_pre1]
        intro x R' e
        rcases h3 with ⟨h3, _⟩ | ⟨_, h3⟩
        · rw [h3, tk_end] at e; cases e
        · rw [h3] at e; rw [← (List.cons.inj e).1]; exact e45
      subst e45
      rcases h3 with ⟨_, h3⟩ | ⟨h4, h3⟩
      · cases h3
      rw [h3] at hr1
      have hc : ∃ c3, (cp z)[i + 1 + 1]? = some c3 ∧ ((i + 1 + 1 = cl ∧ c3 = 93) ∨ (i + 1 + 1 < cl ∧ ((cp z).take cl).drop (i + 1 + 1) = c3 :: ((cp z).take cl).drop (i + 1 + 1 + 1))) := by
        by_cases e : i + 1 + 1 = cl
        · exact ⟨93, by rw [e]; exact hcl, .inl ⟨e, rfl⟩⟩
        · obtain ⟨c, h1, h2⟩ := tk_drop (i := i + 1 + 1) (by omega) hcl
          exact ⟨c, h1, .inr ⟨by omega, h2⟩⟩
      obtain ⟨c3, hc3, h5⟩ := hc
      have hend : ¬ (itm c3 = true ∧ c < c3) → rdItems (((cp z).take cl).drop a) a = .error (i + 2) := by
        intro hn
        rw [hr1]
        rcases h5 with ⟨e, _⟩ | ⟨_, h5⟩
        · have e9 : ((cp z).take cl).drop (i + 1 + 1) = [] := by rw [e, tk_end]
          rw [e9, rdI_end hb]
          rfl
        · rw [h5, rdI_rng hb, if_neg hn]; rfl
      have hgo : itm c3 = true → c < c3 → i + 3 ≤ cl ∧ rdItems (((cp z).take cl).drop a) a = pre1 (L ++ rngC c c3) (rdI (((cp z).take cl).drop (i + 3)) (i + 3)) := by
        intro q1 q2
        rcases h5 with ⟨e, h5⟩ | ⟨e, h5⟩
        · rw [h5] at q1; cases q1
        · refine ⟨by omega, ?_⟩
          rw [hr1, h5, rdI_rng hb, if_pos ⟨q1, q2⟩, pre1_pre1]
      clear hr1 h5 h3 h2
      walk_at "go"
      refine e_ixS (sz_of hz) (c := c3) (at_ofN (by omega) hc3) ?_
      walk_at "go"
      refine ⟨_, rfl, c3, rfl, ?_⟩
      walk_at "go"
      have err : ∀ d', H2 d' = none → E (.ref (cIP K)) (some d') (upd H2 d' (.xd [(("place" : Str), .int (↑i + 2))])) → E (.ref (cIP K)) (some d') (upd H2 d' (.xd [(("place" : Str), .int (↑i + 2))])) := fun _ _ h => h
      refine i_b (fun hb3 => ?_) (fun hb3 => ?_)
      · have hb3 : itm c3 = false := by
          cases e : itm c3
          · rfl
          · rw [e] at hb3; cases hb3
        walk_at "go"
        exact fun d' hd' => k2 (i + 2) _ _ (hend (by rw [hb3]; rintro ⟨h, _⟩; cases h)) s1 hd'
      have hb3 : itm c3 = true := by
        cases e : itm c3
        · rw [e] at hb3; cases hb3
        · rfl
      walk_at "go"
      refine ⟨_, _, rfl, rfl, ?_⟩
      have el : (!decide ((⟨#[c]⟩ : Str).cps.toList < (⟨#[c3]⟩ : Str).cps.toList)) = !decide (c < c3) := by rw [← one_lt]
      rw [el]
      walk_at "go"
      refine i_nd (fun hlt3 => ?_) (fun hlt3 => ?_)
      · walk_at "go"
        exact fun d' hd' => k2 (i + 2) _ _ (hend fun h => hlt3 h.2) s1 hd'
      obtain ⟨g1, g2⟩ := hgo hb3 hlt3
      clear hgo hend
      walk_at "go"
      refine for_str (fun pre σ H1 => (∃ v6, σ = [some (.str z), some (.int i), some (.int cl), some (.ref d), some (.str ⟨#[c]⟩), some (.str ⟨#[c3]⟩), v6]) ∧ Same H H1 ∧ Ks H1 d (L ++ pre.filter fun x => decide (c ≤ x) && decide (x ≤ c3))) ⟨⟨_, rfl⟩, s1, by rw [List.filter_nil, List.append_nil]; exact hk⟩ (fun pre x post σ H1 e p => ?_) (fun σ H1 p => ?_)
      · obtain ⟨⟨v6, rfl⟩, s3, hk3⟩ := p
        walk_at "go"
        refine ⟨_, _, rfl, rfl, ?_⟩
        have el : (!decide ((⟨#[x]⟩ : Str).cps.toList < (⟨#[c]⟩ : Str).cps.toList)) = decide (c ≤ x) := by
          show (!decide (([x] : List Nat) < [c])) = _
          rw [one_lt, ← decide_not]
          exact decide_eq_decide.mpr Nat.not_lt
        have el2 : (!decide ((⟨#[c3]⟩ : Str).cps.toList < (⟨#[x]⟩ : Str).cps.toList)) = decide (x ≤ c3) := by
          show (!decide (([c3] : List Nat) < [x])) = _
          rw [one_lt, ← decide_not]
          exact decide_eq_decide.mpr Nat.not_lt
        rw [el]
        walk_at "go"
        have hxC : x ∈ CH := by
          show x ∈ ("-./0123456789ABCDEFGHIJKLMNOPQRSTUVWXYZ_abcdefghijklmnopqrstuvwxyz~" : Str).cps.toList
          rw [e]
          simp
        have no : (decide (c ≤ x) && decide (x ≤ c3)) = false → Ks H1 d (L ++ (pre ++ [x]).filter fun x => decide (c ≤ x) && decide (x ≤ c3)) := by
          intro h
          rw [List.filter_append, List.filter_cons_of_neg (by rw [h]; decide), List.filter_nil, List.append_nil]
          exact hk3
        refine i_d (fun q1 => ?_) (fun q1 => ?_)
        · walk_at "go"
          refine ⟨_, _, rfl, rfl, ?_⟩
          rw [el2]
          walk_at "go"
          refine i_d (fun q2 => ?_) (fun q2 => ?_)
          · obtain ⟨o, p1, p2⟩ := hk3.put hxC (.bl true)
            walk_at "go"
            refine ⟨d, _, rfl, p1, ?_⟩
            walk_at "go"
            refine ⟨⟨_, rfl⟩, Same.mut s3 hd, ?_⟩
            rw [List.filter_append, List.filter_cons_of_pos (by rw [decide_eq_true q1, decide_eq_true q2]; rfl), List.filter_nil, ← List.append_assoc]
            exact p2
          · walk_at "go"
            exact ⟨⟨_, rfl⟩, s3, no (by rw [decide_eq_false q2, Bool.and_false])⟩
        · walk_at "go"
          exact ⟨⟨_, rfl⟩, s3, no (by rw [decide_eq_false q1, Bool.false_and])⟩
      · obtain ⟨⟨v6, rfl⟩, s3, hk3⟩ := p
        walk_at "go"
        refine ⟨_, _, rfl, rfl, ?_⟩
        refine ⟨i + 3, L ++ rngC c c3, _, _, _, by omega, rfl, g1, s3, hk3, g2⟩
theorem ok_is_item (T : Txt K mg)   {f : Addr} {fd : FuncData} (F : FnP K "_is_item" s_is_item f fd) : FnOk P w K mg base CX0 1 f fd ["char"] (sp_is_item K) := by
  refine F.ok sc_is_item (fun vs H Q E h => ?_) (fun cdv A outer s H vs Q E hr h => ?_)
  · obtain ⟨_, rfl, _⟩ := h
    rfl
  · have S := sc_is_item
    refine ⟨_, PSs.nox (pss_one (ps_ret (pe_and (pe_cmpR op_in_sign (pv 0) (C8.pe_gc (by rfl) T.c_CHARACTERS) (by first | rfl | with_unfolding_all rfl)) (pe_one (pe_cmpR op_ne (pv 0) pe_str (nomark _)))))), ?_⟩
    try dsimp only [cxOf, Cx.nox]
    obtain ⟨_, rfl, c, rfl, k⟩ := h
    walk_at "go"
    refine ⟨c, _, rfl, rfl, ?_⟩
    walk_at "go"
    have ei : itm c = (decide (c ∈ ("-./0123456789ABCDEFGHIJKLMNOPQRSTUVWXYZ_abcdefghijklmnopqrstuvwxyz~" : Str).cps.toList) && !decide ((⟨#[c]⟩ : Str) = ("-" : Str))) := by
      rw [one_dec (b := 45) rfl]
      unfold itm
      rw [decide_not]
    rw [ei] at k
    refine i_b (fun h => ?_) (fun h => ?_)
    · walk_at "go"
      have h : decide (c ∈ ("-./0123456789ABCDEFGHIJKLMNOPQRSTUVWXYZ_abcdefghijklmnopqrstuvwxyz~" : Str).cps.toList) = true := h
      rw [h] at k
      exact k
    · have h : decide (c ∈ ("-./0123456789ABCDEFGHIJKLMNOPQRSTUVWXYZ_abcdefghijklmnopqrstuvwxyz~" : Str).cps.toList) = false := h
      rw [h] at k
      exact k
theorem ok_law_draw (T : Txt K mg)   {f : Addr} {fd : FuncData} (F : FnP K "_law_draw" s_law_draw f fd) : FnOk P w K mg base CX0 1 f fd ["state", "script", "size"] (spDraw K) := by
  refine F.ok sc_law_draw (fun vs H Q E h => ?_) (fun cdv A outer s H vs Q E hr h => ?_)
  · obtain ⟨_, _, _, rfl, _⟩ := h
    rfl
  · have S := sc_law_draw
    refine ⟨_, PSs.nox (C8.pss_cut (ps_if (pt_cmpR op_eq (pe_ix ix_list (pv 0) pe_int (fun _ _ => rfl)) pe_int (nomark _))
    (pss_cons (ps_set (i := 3) S.nd rfl (by first | exact .inl rfl | exact .inr rfl) (pe_ix ix_list (pv 0) pe_int (fun _ _ => rfl)))
      (pss_cons (ps_set (i := 4) S.nd rfl (by first | exact .inl rfl | exact .inr rfl) pe_int)
      (C8.pss_cut (ps_if (pt_cmpR op_gt (pe_callB call_len_seq (by rfl) T.f_len (by first | rfl | decide +kernel) (pa_cons (pv 1) pa_nil)) pe_int (nomark _))
      (pss_one (ps_set (i := 4) S.nd rfl (by first | exact .inl rfl | exact .inr rfl) (pe_callTy call_int1 (by rfl) T.f_int (by first | rfl | decide +kernel) (pa_cons (pe_ix ix_list (pv 1) (pe_op op_mod (pv 3) (pe_callB call_len_seq (by rfl) T.f_len (by first | rfl | decide +kernel) (pa_cons (pv 1) pa_nil))) (fun _ _ => rfl)) pa_nil))))
      pss_nil)
      (C8.pss_cut (ps_if (pt_cmpR op_lt (pv 4) pe_int (nomark _))
      (pss_one (ps_set (i := 4) S.nd rfl (by first | exact .inl rfl | exact .inr rfl) (pe_op op_sub pe_int (pe_op op_mul pe_int (pv 4)))))
      pss_nil)
      (C8.pss_cut (ps_if (pw_and (pt_cmpR op_ge (pv 4) (pe_op op_pow pe_int pe_int) (nomark _)) (pw_and1 (pt_cmpR op_lt (pv 3) (pe_callB call_len_seq (by rfl) T.f_len (by first | rfl | decide +kernel) (pa_cons (pv 1) pa_nil)) (nomark _)))).pt
      (pss_one (ps_asg (pv 4) (pg_sub (pv 0) pe_int set_list)))
      (pss_cons (ps_set (i := 5) S.nd rfl (by first | exact .inl rfl | exact .inr rfl) (pe_op op_mod (pe_callTy call_int1 (by rfl) T.f_int (by first | rfl | decide +kernel) (pa_cons (pe_op op_add (pe_op op_add (pe_op op_mul (pv 4) pe_int) (pe_op op_mul (pv 3) pe_int)) pe_int) pa_nil)) pe_int))
        (pss_one (ps_asg (pe_op op_add pe_int (pe_op op_mod (pe_callTy call_int1 (by rfl) T.f_int (by first | rfl | decide +kernel) (pa_cons (pe_op op_add (pe_op op_mul (pv 5) pe_int) (pe_op op_mul (pv 3) pe_int)) pa_nil)) pe_int)) (pg_sub (pv 0) pe_int set_list)))))
      (pss_one (ps_asg (pe_op op_add (pv 3) pe_int) (pg_sub (pv 0) pe_int set_list))))))))
    pss_nil)
    (pss_cons (ps_set (i := 6) S.nd rfl (by first | exact .inl rfl | exact .inr rfl) (pe_op op_mod (pe_callTy call_int1 (by rfl) T.f_int (by first | rfl | decide +kernel) (pa_cons (pe_ix ix_list (pv 0) pe_int (fun _ _ => rfl)) pa_nil)) (pv 2)))
    (pss_cons (ps_asg (pe_op op_fdivW (pe_ix ix_list (pv 0) pe_int (fun _ _ => rfl)) (pv 2)) (pg_sub (pv 0) pe_int set_list))
    (pss_one (ps_ret (pv 6)))))), ?_⟩
    try dsimp only [cxOf, Cx.nox]
    obtain ⟨_, _, _, rfl, st, sc, ns, n, rfl, rfl, rfl, d, hn0, hn1, k⟩ := h
    obtain ⟨ia, ib, ha0, hb0, hs⟩ := d.s
    have h1 : ∀ (x y : Int), 0 ≤ x → 0 ≤ y → Kp st H (upd H st (.lst [.int x, .int y])) ∧ Dr K st sc ns (upd H st (.lst [.int x, .int y])) := fun x y hx hy =>
      have k1 : Kp st H (upd H st (.lst [.int x, .int y])) := Kp.put (Kp.refl st H)
      ⟨k1, d.kp k1 ⟨x, y, hx, hy, upd_same⟩⟩
    refine e_cut (Mid := fun σ' H' => ∃ (v3 v4 v5 : Option V), σ' = [some (.ref st), some (.ref sc), some (.int n), v3, v4, v5, none] ∧ Kp st H H' ∧ Dr K st sc ns H') ?_ ?_
    · walk_at "go"
      refine e_ixL (SqL.of hs) rfl ?_
      walk_at "go"
      refine i_d (fun e => ?_) (fun e => ?_)
      · walk_at "go"
        refine e_ixL (SqL.of hs) rfl ?_
        walk_at "go"
        -- cell = int(script[at % len(script)])
        refine e_cut (Mid := fun σ' H' => ∃ c : Int, σ' = [some (.ref st), some (.ref sc), some (.int n), some (.int ia), some (.int c), none, none] ∧ H' = H) ?_ ?_
        · walk_at "go"
          refine i_d (fun e2 => ?_) (fun e2 => ?_)
          · walk_at "go"
            have hm : 0 ≤ ia % (((ns.map V.int).length : Nat) : Int) := Int.emod_nonneg _ (by omega)
            have hm2 : ia % (((ns.map V.int).length : Nat) : Int) < (((ns.map V.int).length : Nat) : Int) := Int.emod_lt_of_pos _ (by omega)
            have hlt : (ia % (((ns.map V.int).length : Nat) : Int)).toNat < ns.length := by rw [List.length_map] at hm hm2 ⊢; omega
            refine e_ixL (v := .int ns[(ia % (((ns.map V.int).length : Nat) : Int)).toNat]) d.seq (at_of (j := (ia % (((ns.map V.int).length : Nat) : Int)).toNat) (by omega) (by rw [List.getElem?_map, List.getElem?_eq_getElem hlt]; rfl)) ?_
            walk_at "go"
            exact ⟨_, rfl, rfl⟩
          · walk_at "go"
            exact ⟨_, rfl, rfl⟩
        · rintro σ' H' ⟨c, rfl, rfl⟩
          refine e_cut (Mid := fun σ' H'' => ∃ c : Int, 0 ≤ c ∧ σ' = [some (.ref st), some (.ref sc), some (.int n), some (.int ia), some (.int c), none, none] ∧ H'' = H') ?_ ?_
          · walk_at "go"
            refine i_d (fun e2 => ?_) (fun e2 => ?_)
            · walk_at "go"
              exact ⟨_, by omega, rfl, rfl⟩
            · walk_at "go"
              exact ⟨_, by omega, rfl, rfl⟩
          · rintro σ' H'' ⟨c, hc, rfl, rfl⟩
            refine e_cut (Mid := fun σ' H3 => ∃ (v5 : Option V) (b : Int), 0 ≤ b ∧ σ' = [some (.ref st), some (.ref sc), some (.int n), some (.int ia), some (.int c), v5, none] ∧ H3 = upd H'' st (.lst [.int ia, .int b])) ?_ ?_
            · walk_at "go"
              have fin : ∀ (v5 : Option V) (b : Int), 0 ≤ b → ∃ (v5' : Option V) (b' : Int), 0 ≤ b' ∧ [some (V.ref st), some (V.ref sc), some (V.int n), some (V.int ia), some (V.int c), v5, none] = [some (.ref st), some (.ref sc), some (.int n), some (.int ia), some (.int c), v5', none] ∧ upd H'' st (HO.lst [V.int ia, V.int b]) = upd H'' st (.lst [.int ia, .int b']) := fun v5 b hb => ⟨v5, b, hb, rfl, rfl⟩
              have other : ∀ x : Int, 0 ≤ 1 + x % 2305843009213693951 := fun x => by
                have := Int.emod_nonneg x (show (2305843009213693951 : Int) ≠ 0 by decide)
                omega
              refine i_d (fun e2 => ?_) (fun e2 => ?_)
              · walk_at "go"
                refine i_d (fun e3 => ?_) (fun e3 => ?_)
                · walk_at "go"
                  refine e_setL hs rfl ?_
                  exact ⟨none, c, hc, rfl, by rw [e]; rfl⟩
                · walk_at "go"
                  refine e_setL hs rfl ?_
                  exact ⟨_, _, other _, rfl, rfl⟩
              · walk_at "go"
                refine e_setL hs rfl ?_
                exact ⟨_, _, other _, rfl, rfl⟩
            · rintro σ' H3 ⟨v5, b, hb, rfl, rfl⟩
              walk_at "go"
              refine e_setL upd_same rfl ?_
              rw [upd_upd]
              obtain ⟨k1, d1⟩ := h1 (ia + 1) b (by omega) hb
              exact ⟨_, _, _, rfl, k1, d1⟩
      · walk_at "go"
        exact ⟨_, _, _, rfl, Kp.refl _ _, d⟩
    · rintro σ' H' ⟨v3, v4, v5, rfl, k1, d1⟩
      obtain ⟨ja, jb, hja, hjb, hs1⟩ := d1.s
      walk_at "go"
      refine e_ixL (SqL.of hs1) rfl ?_
      walk_at "go"
      refine e_ixL (SqL.of hs1) rfl ?_
      walk_at "go"
      refine e_setL hs1 rfl ?_
      have hj2 : 0 ≤ jb / n := Int.ediv_nonneg hjb (by omega)
      have k2 : Kp st H (upd H' st (.lst [.int ja, .int (jb / n)])) := k1.put
      walk_at "go"
      exact k _ _ (Int.emod_nonneg _ (by omega)) (Int.emod_lt_of_pos _ hn0) k2 (d.kp k2 ⟨ja, jb / n, hja, hj2, upd_same⟩)
theorem ok_law_all (T : Txt K mg)   {f : Addr} {fd : FuncData} (F : FnP K "_law_all" s_law_all f fd) : FnOk P w K mg base CX0 1 f fd [] (sp_law_all K) := by
  refine F.ok sc_law_all (fun vs H Q E h => ?_) (fun cdv A outer s H vs Q E hr h => ?_)
  · obtain ⟨rfl, _⟩ := h
    rfl
  · have S := sc_law_all
    refine ⟨_, PSs.nox (pss_one (ps_ret pe_str)), ?_⟩
    try dsimp only [cxOf, Cx.nox]
    obtain ⟨rfl, k⟩ := h
    walk_at "go"
    exact k
theorem ok_law_told (T : Txt K mg)   {f : Addr} {fd : FuncData} (F : FnP K "_law_told" s_law_told f fd) : FnOk P w K mg base CX0 1 f fd ["actual", "due"] (sp_law_told K) := by
  refine F.ok sc_law_told (fun vs H Q E h => ?_) (fun cdv A outer s H vs Q E hr h => ?_)
  · obtain ⟨_, _, rfl, _⟩ := h
    rfl
  · have S := sc_law_told
    refine ⟨_, PSs.nox (pss_one (ps_ret (pe_and (pe_callB call_isi (by rfl) T.f_isinstance (by first | rfl | decide +kernel) (pa_cons (pv 0) (pa_cons (pe_bltn (v := .ty "bool") (by rfl) T.f_bool (by first | rfl | decide +kernel) rfl) pa_nil))) (pe_one (pe_cmpR op_eq (pv 0) (pv 1) (nomark _)))))), ?_⟩
    try dsimp only [cxOf, Cx.nox]
    obtain ⟨_, _, rfl, x, y, rfl, rfl, k⟩ := h
    walk_at "go"
    exact k
theorem ok_law_same (T : Txt K mg)  (c_law_told : Cal P w K mg base 1 "_law_told" (sp_law_told K)) {f : Addr} {fd : FuncData} (F : FnP K "_law_same" s_law_same f fd) : FnOk P w K mg base CX0 2 f fd ["patterns", "rows"] (sp_law_same K) := by
  refine F.ok sc_law_same (fun vs H Q E h => ?_) (fun cdv A outer s H vs Q E hr h => ?_)
  · obtain ⟨_, _, rfl, _⟩ := h
    rfl
  · have S := sc_law_same
    refine ⟨_, PSs.nox (pss_cons (ps_if (pw_or (pt_not (pt_val (pe_callB call_isi (by rfl) T.f_isinstance (by first | rfl | decide +kernel) (pa_cons (pv 0) (pa_cons (pe_bltn (v := .ty "list") (by rfl) T.f_list (by first | rfl | decide +kernel) rfl) pa_nil))))) (pw_or1 (pt_cmpR op_ne (pe_callB call_len_seq (by rfl) T.f_len (by first | rfl | decide +kernel) (pa_cons (pv 0) pa_nil)) (pe_callB call_len_seq (by rfl) T.f_len (by first | rfl | decide +kernel) (pa_cons (pv 1) pa_nil)) (nomark _)))).pt
    (pss_one (ps_ret pe_bl))
    pss_nil)
    (pss_cons (ps_for PassesOwn.never rfl (pi_range1 (by rfl) T.f_range (pa_cons (pe_callB call_len_seq (by rfl) T.f_len (by first | rfl | decide +kernel) (pa_cons (pv 1) pa_nil)) pa_nil)) (pg_name (i := 2) S.nd rfl (by first | exact .inl rfl | exact .inr rfl))
    (pss_cons (ps_set (i := 3) S.nd rfl (by first | exact .inl rfl | exact .inr rfl) (pe_ix ix_list (pv 0) (pv 2) (fun _ _ => rfl)))
      (pss_one (ps_if (pw_or (pt_not (pt_val (pe_callB call_isi (by rfl) T.f_isinstance (by first | rfl | decide +kernel) (pa_cons (pv 3) (pa_cons (pe_glob (v := V.ref (He.ga K "Pattern")) (by rfl) T.g_Pattern rfl) pa_nil))))) (pw_or (pt_cmpR (op_neP hr.units) (pe_fld (pv 3) rfl) (pe_callTy call_tuple_of (by rfl) T.f_tuple (by first | rfl | decide +kernel) (pa_cons (pe_ix ix_tup (pe_ix ix_list (pv 1) (pv 2) (fun _ _ => rfl)) pe_int (fun _ _ => rfl)) pa_nil)) (nomark _)) (pw_or1 (pt_not (pt_val (pe_c c_law_told hr (by decide) (by rfl) (pa_cons (pe_fld (pv 3) rfl) (pa_cons (pe_ix ix_tup (pe_ix ix_list (pv 1) (pv 2) (fun _ _ => rfl)) pe_int (fun _ _ => rfl)) pa_nil)))))))).pt
      (pss_one (ps_ret pe_bl))
      pss_nil))))
    (pss_one (ps_ret pe_bl)))), ?_⟩
    try dsimp only [cxOf, Cx.nox]
    obtain ⟨_, _, rfl, p, r, qs, xs, rows, rfl, rfl, hp, hr0, hP, hR, h20, k⟩ := h
    have hqx : qs.length = rows.length := hP.length
    have hxx : xs.length = rows.length := hR.length
    have c1 := T.cl_Pattern
    have c2 := T.no_Pattern_atoms
    have c3 := T.no_Pattern_negated
    have ct := T.ct_Pattern
    walk_at "go"
    rw [decide_eq_true (by rw [List.length_map, List.length_map, hqx, hxx])]
    walk_at "go"
    rw [List.length_map]
    refine ⟨by omega, by omega, ?_⟩
    rw [Int.toNat_natCast]
    refine for_rng (fun i σ H1 => (∃ v2 v3, σ = [some (.ref p), some (.ref r), v2, v3]) ∧ Same H H1) ⟨⟨_, _, rfl⟩, Same.refl _⟩ (fun i σ H1 hi q => ?_) (fun σ H1 q => ?_)
    · obtain ⟨⟨v2, v3, rfl⟩, s1⟩ := q
      obtain ⟨qa, row, g1, g2, ⟨ps, ⟨dx, t, fs, ha, f1, f2, ht⟩, hA⟩⟩ := prd_get hP i (by omega)
      obtain ⟨xa, row', g3, g4, al, g5, g6⟩ := prd_get hR i (by omega)
      rw [g2] at g4
      cases g4
      have eq1 : atI (qs.map V.ref) (0 + (i : Int)) = some (.ref qa) := by
        rw [show (0 : Int) + (i : Int) = (i : Int) by omega]
        exact atI_nat (by rw [List.getElem?_map, g1]; rfl)
      have eq2 : atI (xs.map V.ref) (0 + (i : Int)) = some (.ref xa) := by
        rw [show (0 : Int) + (i : Int) = (i : Int) by omega]
        exact atI_nat (by rw [List.getElem?_map, g3]; rfl)
      walk_at "go"
      refine e_ixL (v := .ref qa) (SqL.of (s1 _ _ hp)) eq1 ?_
      walk_at "go"
      refine ⟨.ref qa, .ref _, _, _, true, rfl, .own _, .base (.ins (s1 _ _ ha) c1 ct.ha ct.hn ct.htk ct.hm), ct.own, ?_⟩
      walk_at "go"
      refine ⟨qa, _, dx, _, _, rfl, s1 _ _ ha, c1, c2, f1, ?_⟩
      walk_at "go"
      refine e_ixL (v := .ref xa) (SqL.of (s1 _ _ hr0)) eq2 ?_
      walk_at "go"
      refine e_ixT (same_tup s1 g5) (v := .ref al) rfl ?_
      obtain ⟨es, g7, g8⟩ := g6.same s1
      walk_at "go"
      refine ⟨al, _, rfl, .inl ⟨g7, fun l hl => ?_⟩⟩
      have s2 := s1.trans (same_new (o := .tup (es.map V.ref)) hl)
      refine e_neAT ⟨ps, SqT.of (s2 _ _ ht), ats_same s2 hA⟩ ⟨es, SqT.of upd_same, ats_same (same_new hl) g8⟩ ?_
      rw [decide_eq_true rfl]
      walk_at "go"
      refine ⟨qa, _, dx, _, _, rfl, s2 _ _ ha, c1, c3, f2, ?_⟩
      walk_at "go"
      refine e_ixL (v := .ref xa) (SqL.of (s2 _ _ hr0)) eq2 ?_
      walk_at "go"
      refine e_ixT (same_tup s2 g5) (v := .bl row.2) rfl ?_
      walk_at "go"
      refine ⟨_, _, rfl, row.2, row.2, rfl, rfl, ?_⟩
      rw [beq_self_eq_true]
      walk_at "go"
      exact ⟨⟨_, _, rfl⟩, s2⟩
    · obtain ⟨⟨v2, v3, rfl⟩, s1⟩ := q
      walk_at "go"
      exact k _ s1
theorem ok_law_set (T : Txt K mg)  (c_law_all : Cal P w K mg base 1 "_law_all" (sp_law_all K)) {f : Addr} {fd : FuncData} (F : FnP K "_law_set" s_law_set f fd) : FnOk P w K mg base CX0 2 f fd ["line", "start"] (sp_law_set K) := by
  refine F.ok sc_law_set (fun vs H Q E h => ?_) (fun cdv A outer s H vs Q E hr h => ?_)
  · obtain ⟨_, _, rfl, _⟩ := h
    rfl
  · have S := sc_law_set
    refine ⟨_, PSs.nox (pss_cons (ps_set (i := 2) S.nd rfl (by first | exact .inl rfl | exact .inr rfl) (pe_ix ix_list (pe_split (pe_slice sl_str (pv 0) (po_some (pe_op op_add (pv 1) pe_int)) po_none) pe_str) pe_int (fun _ _ => rfl)))
    (pss_cons (ps_set (i := 3) S.nd rfl (by first | exact .inl rfl | exact .inr rfl) (pe_op op_add (pe_op op_add (pv 1) pe_int) (pe_callB call_len_str (by rfl) T.f_len (by first | rfl | decide +kernel) (pa_cons (pv 2) pa_nil))))
    (pss_cons (ps_if (pt_cmpR op_eq (pv 3) (pe_callB call_len_str (by rfl) T.f_len (by first | rfl | decide +kernel) (pa_cons (pv 0) pa_nil)) (nomark _))
    (pss_one (ps_ret (pv 1)))
    pss_nil)
    (pss_cons (ps_set (i := 4) S.nd rfl (by first | exact .inl rfl | exact .inr rfl) (pe_op op_add (pv 1) pe_int))
    (pss_cons (ps_set (i := 5) S.nd rfl (by first | exact .inl rfl | exact .inr rfl) (pe_cmpR op_eq (pe_slice sl_str (pv 2) po_none (po_some pe_int)) pe_str (nomark _)))
    (C8.pss_cut (ps_if (pt_val (pv 5))
    (pss_one (ps_set (i := 4) S.nd rfl (by first | exact .inl rfl | exact .inr rfl) (pe_op op_add (pv 4) pe_int)))
    pss_nil)
    (pss_cons (ps_set (i := 6) S.nd rfl (by first | exact .inl rfl | exact .inr rfl) pe_str)
    (pss_cons (ps_set (i := 7) S.nd rfl (by first | exact .inl rfl | exact .inr rfl) (pv 4))
    (C8.pss_cut (ps_if (pt_cmpR op_eq (pe_ix ix_str (pv 0) (pv 7) (fun _ _ => rfl)) pe_str (nomark _))
    (pss_cons (ps_set (i := 6) S.nd rfl (by first | exact .inl rfl | exact .inr rfl) pe_str)
      (pss_one (ps_set (i := 7) S.nd rfl (by first | exact .inl rfl | exact .inr rfl) (pe_op op_add (pv 7) pe_int))))
    pss_nil)
    (pss_cons (ps_for PassesOwn.never rfl (pi_range1 (by rfl) T.f_range (pa_cons (pe_callB call_len_str (by rfl) T.f_len (by first | rfl | decide +kernel) (pa_cons (pv 2) pa_nil)) pa_nil)) (pg_name (i := 8) S.nd rfl (by first | exact .inl rfl | exact .inr rfl))
    (pss_one (ps_if (pt_cmpR op_lt (pv 7) (pv 3) (nomark _))
      (pss_cons (ps_set (i := 9) S.nd rfl (by first | exact .inl rfl | exact .inr rfl) (pe_ix ix_str (pv 0) (pv 7) (fun _ _ => rfl)))
        (pss_cons (ps_if (pw_or (pt_cmpR op_eq (pv 9) pe_str (nomark _)) (pw_or1 (pt_cmpR op_notIn_sign (pv 9) (pe_c0 c_law_all hr (by decide) (by rfl)) (by first | rfl | with_unfolding_all rfl)))).pt
        (pss_one (ps_ret (pv 7)))
        pss_nil)
        (pss_cons (ps_set (i := 10) S.nd rfl (by first | exact .inl rfl | exact .inr rfl) (pv 9))
        (C8.pss_cut (ps_if (pt_cmpR op_eq (pe_ix ix_str (pv 0) (pe_op op_add (pv 7) pe_int) (fun _ _ => rfl)) pe_str (nomark _))
        (pss_cons (ps_set (i := 7) S.nd rfl (by first | exact .inl rfl | exact .inr rfl) (pe_op op_add (pv 7) pe_int))
          (pss_cons (ps_set (i := 10) S.nd rfl (by first | exact .inl rfl | exact .inr rfl) (pe_ix ix_str (pv 0) (pv 7) (fun _ _ => rfl)))
          (pss_one (ps_if (pw_or (pt_cmpR op_notIn_sign (pv 10) (pe_c0 c_law_all hr (by decide) (by rfl)) (by first | rfl | with_unfolding_all rfl)) (pw_or1 (pt_cmpR op_le_str (pv 10) (pv 9) (nomark _)))).pt
          (pss_one (ps_ret (pv 7)))
          pss_nil))))
        pss_nil)
        (pss_cons (ps_set (i := 6) S.nd rfl (by first | exact .inl rfl | exact .inr rfl) (pe_op op_add_str (pv 6) (pe_join pe_str (pe_lc (own := [("char", 11)]) (g := gName 11) rfl S.nd (pi_str (pe_c0 c_law_all hr (by decide) (by rfl))) (blkOk_by (N := N_law_set) (sc := defScope s_law_set) (by decide +kernel)) (fun _ _ _ _ _ => (pg_name (i := 11) S.nd rfl (by first | exact .inl rfl | exact .inr rfl))) (fun _ _ _ _ _ => (pts_one (pt_chain op_le_str op_le_str (pv 9) (pv 11) (pv 10)))) (fun _ _ _ _ _ => (pv 11))))))
        (pss_one (ps_set (i := 7) S.nd rfl (by first | exact .inl rfl | exact .inr rfl) (pe_op op_add (pv 7) pe_int))))))))
      pss_nil)))
    (C8.pss_cut (ps_if (pt_val (pv 5))
    (pss_one (ps_set (i := 6) S.nd rfl (by first | exact .inl rfl | exact .inr rfl) (pe_join pe_str (pe_lc (own := [("char", 11)]) (g := gName 11) rfl S.nd (pi_str (pe_c0 c_law_all hr (by decide) (by rfl))) (blkOk_by (N := N_law_set) (sc := defScope s_law_set) (by decide +kernel)) (fun _ _ _ _ _ => (pg_name (i := 11) S.nd rfl (by first | exact .inl rfl | exact .inr rfl))) (fun _ _ _ _ _ => (pts_one (pt_cmpR op_notIn_sign (pv 11) (pe_op op_add_str (pv 6) pe_str) (by first | rfl | with_unfolding_all rfl)))) (fun _ _ _ _ _ => (pv 11))))))
    pss_nil)
    (pss_cons (ps_if (pt_cmpR op_eq (pv 6) pe_str (nomark _))
    (pss_one (ps_ret (pv 1)))
    pss_nil)
    (pss_one (ps_ret (pe_tup (pa_cons (pe_tup (pa_cons (pe_join pe_str (pe_lc (own := [("char", 11)]) (g := gName 11) rfl S.nd (pi_str (pe_c0 c_law_all hr (by decide) (by rfl))) (blkOk_by (N := N_law_set) (sc := defScope s_law_set) (by decide +kernel)) (fun _ _ _ _ _ => (pg_name (i := 11) S.nd rfl (by first | exact .inl rfl | exact .inr rfl))) (fun _ _ _ _ _ => (pts_one (pt_cmpR op_in_sign (pv 11) (pv 6) (by first | rfl | with_unfolding_all rfl)))) (fun _ _ _ _ _ => (pv 11)))) (pa_cons pe_bl pa_nil))) (pa_cons (pe_op op_add (pv 3) pe_int) pa_nil))))))))))))))))), ?_⟩
    try dsimp only [cxOf, Cx.nox]
    obtain ⟨_, _, rfl, z, a, rfl, rfl, h91, hz, kk⟩ := h
    have k2 := kk.2
    have hzl := cp_len z
    have haz := (List.getElem?_eq_some_iff.mp h91).1
    walk_at "go"
    have e1 : (a : Int) + 1 = ((a + 1 : Nat) : Int) := by omega
    have hcut : cp (cutS z (some ((a : Int) + 1)) none) = (cp z).drop (a + 1) := by
      rw [e1]
      exact cp_from _ _ (by omega)
    have hcl : (cutS z (some ((a : Int) + 1)) none).length ≤ 1000 := by
      rw [← cp_len, hcut, List.length_drop]
      omega
    obtain ⟨b, t, hs, hb⟩ := split_93 (cutS z (some ((a : Int) + 1)) none)
    rw [hcut] at hb
    refine ⟨_, _, rfl, rfl, rfl, Nat.le_trans (by omega : (cutS z (some ((a : Int) + 1)) none).length + 2 ≤ 1002) (by decide), ?_⟩
    rw [hs]
    intro q hq
    walk_at "go"
    refine e_ixL (v := .str b) (SqL.of upd_same) (atI_nat (xs := (b :: t).map V.str) (j := 0) (List.getElem?_cons_zero ..)) ?_
    have sq := same_new (o := .lst ((b :: t).map V.str)) hq
    generalize upd H q (.lst ((b :: t).map V.str)) = Hq at sq
    have hbl : b.length ≤ 1000 := by
      rw [← cp_len, hb]
      have := (List.takeWhile_sublist (l := (cp z).drop (a + 1)) fun c => decide (c ≠ 93)).length_le
      rw [List.length_drop] at this
      omega
    have hbs : b.length ≤ sizeLine := Nat.le_trans hbl (by decide)
    have hca := close_at (cp z) a haz
    rw [← hb, cp_len b] at hca
    have ek : (a : Int) + 1 + (b.length : Int) = ((a + 1 + b.length : Nat) : Int) := by omega
    have hb2 : ∀ {k}, (cp z)[k]? = some 93 → (∀ i, a + 1 ≤ i → i < k → (cp z)[i]? ≠ some 93) → a < k → cp b = ((cp z).take k).drop (a + 1) := fun h1 h2 h3 => by rw [hb]; exact tw_eq h1 h2 (by omega)
    obtain ⟨k, hk⟩ : ∃ k, k = a + 1 + b.length := ⟨_, rfl⟩
    rw [← hk] at hca ek
    clear hb hs hcut hcl hq
    walk_at "go"
    rw [ek]
    refine i_d (fun h1 => ?_) (fun h1 => ?_)
    · rcases hca with ⟨h2, _⟩ | ⟨h2, _⟩
      · walk_at "go"
        exact k2 _ _ (by unfold rdSet; rw [if_pos h2]) sq
      · omega
    rcases hca with ⟨_, h2⟩ | ⟨hkl, h9, hn⟩
    · omega
    have hak : a < k := by omega
    obtain ⟨c, hc⟩ : ∃ c, (cp z)[a + 1]? = some c := ⟨_, List.getElem?_eq_getElem (by omega : a + 1 < (cp z).length)⟩
    have hR := rdSet_at h9 hn hak hc
    have hb3 := hb2 h9 hn hak
    have h33 := head_33 h9 hak hc
    rw [← hb3] at h33
    clear hb2 hb3
    walk_at "go"
    rw [cut1_dec, show decide ((cp b).head? = some 33) = decide (c = 33) from decide_eq_decide.mpr h33]
    walk_at "go"
    refine e_cut (Mid := fun σ H1 => H1 = Hq ∧ ∃ f : Nat, σ = [some (.str z), some (.int a), some (.str b), some (.int k), some (.int f), some (.bl (decide (c = 33))), none, none, none, none, none, none] ∧ f = (if c = 33 then a + 2 else a + 1) ∧ f ≤ k) ?_ ?_
    · walk_at "go"
      by_cases q33 : c = 33
      · rw [decide_eq_true q33]
        walk_at "go"
        refine ⟨rfl, a + 2, ?_, by rw [if_pos q33], ?_⟩
        · rw [show ((a + 2 : Nat) : Int) = (a : Int) + 1 + 1 by omega]; rfl
        · rcases Nat.lt_or_ge (a + 1) k with h | h
          · exact h
          · have e : a + 1 = k := by omega
            rw [e, h9, q33] at hc
            cases hc
      · rw [decide_eq_false q33]
        walk_at "go"
        refine ⟨rfl, a + 1, ?_, by rw [if_neg q33], by omega⟩
        rw [show ((a + 1 : Nat) : Int) = (a : Int) + 1 by omega]; rfl
    rintro σ H1 ⟨rfl, f, rfl, hf, hfk⟩
    walk_at "go"
    have chr : ∀ i, i ≤ k → ∃ x, (cp z)[i]? = some x := fun i hi => ⟨_, List.getElem?_eq_getElem (by omega : i < (cp z).length)⟩
    refine e_cut (Mid := fun σ H2 => H2 = H1 ∧ ∃ (p : Nat) (ch : Str), σ = [some (.str z), some (.int a), some (.str b), some (.int k), some (.int f), some (.bl (decide (c = 33))), some (.str ch), some (.int p), none, none, none, none] ∧ a + 1 ≤ p ∧ p ≤ k ∧ rdItems (((cp z).take k).drop f) f = pre1 (cp ch) (rdI (((cp z).take k).drop p) p) ∧ (∀ x ∈ cp ch, x ∈ CH) ∧ ch.length ≤ 1) ?_ ?_
    · obtain ⟨x, hx⟩ := chr f hfk
      walk_at "go"
      refine e_ixS (sz_of (Nat.le_trans hz (by decide))) (c := x) (at_ofN (by omega) hx) ?_
      walk_at "go"
      rw [one_dec (b := 45) rfl]
      have haf : a + 1 ≤ f := by rw [hf]; split <;> omega
      refine i_d (fun e => ?_) (fun e => ?_)
      · subst e
        have hne : f < k := by
          rcases Nat.lt_or_ge f k with h | h
          · exact h
          · have e : f = k := by omega
            rw [e, h9] at hx
            cases hx
        obtain ⟨c', g1, g2⟩ := tk_drop hne h9
        rw [hx] at g1
        cases g1
        walk_at "go"
        refine ⟨rfl, f + 1, ("-" : Str), ?_, by omega, by omega, by rw [g2]; rfl, by decide, by decide⟩
        rw [show ((f + 1 : Nat) : Int) = (f : Int) + 1 by omega]; rfl
      · walk_at "go"
        refine ⟨rfl, f, ("" : Str), rfl, haf, hfk, ?_, fun x hx => (nomatch hx), Nat.zero_le _⟩
        show _ = pre1 [] _
        rw [pre1_nil]
        by_cases h : f = k
        · rw [h, tk_end]; rfl
        · obtain ⟨c', g1, g2⟩ := tk_drop (i := f) (by omega) h9
          rw [hx] at g1
          cases g1
          rw [g2]
          exact rdItems_plain (by simpa using e)
    rintro σ H2 ⟨rfl, p, ch, rfl, hap, hpk, hrd, hch, hcl⟩
    walk_at "go"
    rw [Int.toNat_natCast]
    refine for_rng (fun i σ H3 => ∃ (p : Nat) (ch : Str) (v8 v9 v10 : Option V), σ = [some (.str z), some (.int a), some (.str b), some (.int k), some (.int f), some (.bl (decide (c = 33))), some (.str ch), some (.int p), v8, v9, v10, none] ∧ (a + 1 + i ≤ p ∨ p = k) ∧ p ≤ k ∧ Same H H3 ∧ rdItems (((cp z).take k).drop f) f = pre1 (cp ch) (rdI (((cp z).take k).drop p) p) ∧ (∀ x ∈ cp ch, x ∈ CH) ∧ ch.length ≤ 1 + 67 * i)
      ⟨p, ch, none, none, none, rfl, .inl (by omega), hpk, sq, hrd, hch, by omega⟩ (fun i σ H3 hi q => ?_) (fun σ H3 q => ?_)
    · clear hrd hch hcl hap hpk p ch
      obtain ⟨p, ch, v8, v9, v10, rfl, hap, hpk, s3, hrd, hch, hcl⟩ := q
      walk_at "go"
      refine i_d (fun hlt => ?_) (fun hlt => ?_)
      rotate_left
      · walk_at "go"
        exact ⟨p, ch, _, _, _, rfl, .inr (by omega), hpk, s3, hrd, hch, by omega⟩
      have hlt : p < k := by omega
      obtain ⟨lo, g1, g2⟩ := tk_drop hlt h9
      rw [g2] at hrd
      walk_at "go"
      refine e_ixS (sz_of (Nat.le_trans hz (by decide))) (c := lo) (at_ofN (by omega) g1) ?_
      walk_at "go"
      rw [one_dec (b := 45) rfl]
      have bad : itm lo = false → rdSet ((cp z).drop (a + 1)) a = .error p := fun hb => by
        rw [rdI_bad hb] at hrd
        rw [hR]
        by_cases q33 : c = 33
        · rw [if_pos q33] at hf ⊢
          rw [← hf, hrd]
          rfl
        · rw [if_neg q33] at hf ⊢
          rw [← hf, hrd]
          rfl
      refine i_d (fun e45 => ?_) (fun e45 => ?_)
      · walk_at "go"
        exact k2 _ _ (bad (by rw [e45]; rfl)) s3
      walk_at "go"
      refine ⟨_, _, rfl, rfl, ?_⟩
      walk_at "go"
      refine i_nd (fun hin => ?_) (fun hin => ?_)
      · walk_at "go"
        exact k2 _ _ (bad (by unfold itm; rw [decide_eq_false hin]; rfl)) s3
      have hin : lo ∈ CH := hin
      have hit : itm lo = true := by unfold itm; rw [decide_eq_true hin, decide_eq_true e45]; rfl
      clear bad
      walk_at "go"
      refine e_cut (Mid := fun σ H4 => H4 = H3 ∧ ∃ (p' hi : Nat), σ = [some (.str z), some (.int a), some (.str b), some (.int k), some (.int f), some (.bl (decide (c = 33))), some (.str ch), some (.int p'), some (.int (0 + (i : Int))), some (.str ⟨#[lo]⟩), some (.str ⟨#[hi]⟩), none] ∧ p ≤ p' ∧ p' + 1 ≤ k ∧ rdItems (((cp z).take k).drop f) f = pre1 (cp ch ++ rngC lo hi) (rdI (((cp z).take k).drop (p' + 1)) (p' + 1))) ?_ ?_
      · obtain ⟨c2, hc2⟩ := chr (p + 1) (by omega)
        have h3 : (p + 1 = k ∧ c2 = 93) ∨ (p + 1 < k ∧ ((cp z).take k).drop (p + 1) = c2 :: ((cp z).take k).drop (p + 1 + 1)) := by
          by_cases e : p + 1 = k
          · rw [e, h9] at hc2
            cases hc2
            exact .inl ⟨e, rfl⟩
          · obtain ⟨c', h1, h2⟩ := tk_drop (i := p + 1) (by omega) h9
            rw [hc2] at h1
            cases h1
            exact .inr ⟨by omega, h2⟩
        walk_at "go"
        refine e_ixS (sz_of (Nat.le_trans hz (by decide))) (c := c2) (at_ofN (by omega) hc2) ?_
        walk_at "go"
        rw [one_dec (b := 45) rfl]
        refine i_d (fun e2 => ?_) (fun e2 => ?_)
        rotate_left
        · walk_at "go"
          refine ⟨rfl, p, lo, rfl, Nat.le_refl _, hlt, ?_⟩
          rw [hrd, rdI_one hit, pre1_pre1, rng_one hin]
          intro x R' e
          rcases h3 with ⟨h3, _⟩ | ⟨_, h3⟩
          · rw [h3, tk_end] at e; cases e
          · rw [h3] at e; rw [← (List.cons.inj e).1]; exact e2
        subst e2
        rcases h3 with ⟨_, h3⟩ | ⟨h4, h3⟩
        · cases h3
        rw [h3] at hrd
        obtain ⟨c3, hc3⟩ := chr (p + 1 + 1) (by omega)
        have h5 : (p + 1 + 1 = k ∧ c3 = 93) ∨ (p + 1 + 1 < k ∧ ((cp z).take k).drop (p + 1 + 1) = c3 :: ((cp z).take k).drop (p + 1 + 1 + 1)) := by
          by_cases e : p + 1 + 1 = k
          · rw [e, h9] at hc3
            cases hc3
            exact .inl ⟨e, rfl⟩
          · obtain ⟨c', h1, h2⟩ := tk_drop (i := p + 1 + 1) (by omega) h9
            rw [hc3] at h1
            cases h1
            exact .inr ⟨by omega, h2⟩
        have bad : ¬ (itm c3 = true ∧ lo < c3) → rdSet ((cp z).drop (a + 1)) a = .error (p + 2) := fun hn => by
          have he : rdItems (((cp z).take k).drop f) f = .error (p + 2) := by
            rw [hrd]
            rcases h5 with ⟨e, _⟩ | ⟨_, h5⟩
            · have e9 : ((cp z).take k).drop (p + 1 + 1) = [] := by rw [e, tk_end]
              rw [e9, rdI_end hit]
              rfl
            · rw [h5, rdI_rng hit, if_neg hn]; rfl
          rw [hR]
          by_cases q33 : c = 33
          · rw [if_pos q33] at hf ⊢
            rw [← hf, he]
          · rw [if_neg q33] at hf ⊢
            rw [← hf, he]
        have e2 : (p : Int) + 2 = ((p + 2 : Nat) : Int) := by omega
        walk_at "go"
        rw [e2]
        refine e_ixS (sz_of (Nat.le_trans hz (by decide))) (c := c3) (at_ofN (by omega) hc3) ?_
        walk_at "go"
        refine ⟨_, _, rfl, rfl, ?_⟩
        walk_at "go"
        refine i_nd (fun hin3 => ?_) (fun hin3 => ?_)
        · walk_at "go"
          exact k2 (p + 2) _ (bad (by rintro ⟨h, _⟩; exact hin3 (itm_CH h))) s3
        have hin3 : c3 ∈ CH := hin3
        walk_at "go"
        refine ⟨_, _, rfl, rfl, ?_⟩
        have el : (!decide ((⟨#[lo]⟩ : Str).cps.toList < (⟨#[c3]⟩ : Str).cps.toList)) = !decide (lo < c3) := by rw [← one_lt]
        rw [el]
        walk_at "go"
        refine i_nd (fun hlt3 => ?_) (fun hlt3 => ?_)
        · walk_at "go"
          exact k2 (p + 2) _ (bad fun h => hlt3 h.2) s3
        have hit3 : itm c3 = true := by
          have := ch_ge lo hin
          unfold itm
          rw [decide_eq_true hin3, decide_eq_true (by omega : c3 ≠ 45)]; rfl
        walk_at "go"
        rcases h5 with ⟨e, h5⟩ | ⟨e, h5⟩
        · rw [h5] at hit3; cases hit3
        refine ⟨rfl, p + 2, c3, rfl, by omega, by omega, ?_⟩
        rw [hrd, h5, rdI_rng hit, if_pos ⟨hit3, hlt3⟩, pre1_pre1]
      rintro σ H4 ⟨rfl, p', hi, rfl, hp1, hp2, hrd'⟩
      clear hrd g2
      walk_at "go"
      intro D hD
      refine lc_str (fun pre H1 => Same H4 H1 ∧ pre.length ≤ 67 ∧ H1 D = some (.lst ((ones (pre.filter fun x => decide (lo ≤ x) && decide (x ≤ hi))).map V.str))) ⟨same_new hD, by decide, upd_same⟩ (fun pre x post H7 e q => ?_) (fun H7 q => ?_)
      · obtain ⟨q1, q2, q3⟩ := q
        have q4 : (pre ++ [x]).length ≤ 67 := Nat.le_trans (pre_le e) (by decide)
        walk_at "go"
        refine ⟨_, _, rfl, rfl, _, rfl, ?_⟩
        have el : (!decide ((⟨#[x]⟩ : Str).cps.toList < (⟨#[lo]⟩ : Str).cps.toList)) = decide (lo ≤ x) := by
          show (!decide (([x] : List Nat) < [lo])) = _
          rw [one_lt, ← decide_not]
          exact decide_eq_decide.mpr Nat.not_lt
        have el2 : (!decide ((⟨#[hi]⟩ : Str).cps.toList < (⟨#[x]⟩ : Str).cps.toList)) = decide (x ≤ hi) := by
          show (!decide (([hi] : List Nat) < [x])) = _
          rw [one_lt, ← decide_not]
          exact decide_eq_decide.mpr Nat.not_lt
        rw [el]
        have no : (decide (lo ≤ x) && decide (x ≤ hi)) = false → Same H4 H7 ∧ (pre ++ [x]).length ≤ 67 ∧ H7 D = some (.lst ((ones ((pre ++ [x]).filter fun x => decide (lo ≤ x) && decide (x ≤ hi))).map V.str)) := by
          intro h
          refine ⟨q1, q4, ?_⟩
          rw [List.filter_append, List.filter_cons_of_neg (by rw [h]; decide), List.filter_nil, List.append_nil]
          exact q3
        by_cases c1 : lo ≤ x
        · rw [if_pos (decide_eq_true c1)]
          walk_at "go"
          refine ⟨_, _, rfl, rfl, _, rfl, ?_⟩
          rw [el2]
          by_cases c2 : x ≤ hi
          · rw [if_pos (decide_eq_true c2)]
            walk_at "go"
            refine ⟨_, q3, small (by
              rw [List.length_map, ones, List.length_map]
              have h5 := List.length_filter_le (fun x => decide (lo ≤ x) && decide (x ≤ hi)) pre
              omega : _ ≤ 67) (by decide), Same.mut q1 hD, q4, ?_⟩
            rw [upd_same, List.filter_append, List.filter_cons_of_pos (by rw [decide_eq_true c1, decide_eq_true c2]; rfl), ones, ones, List.map_append, List.map_append]
            rfl
          · rw [if_neg (by rw [decide_eq_false c2]; decide)]
            exact no (by rw [decide_eq_false c2, Bool.and_false])
        · rw [if_neg (by rw [decide_eq_false c1]; decide)]
          refine ⟨_, rfl, ?_⟩
          rw [if_neg (by decide)]
          exact no (by rw [decide_eq_false c1, Bool.false_and])
      obtain ⟨q1, _, q3⟩ := q
      have q3' : H7 D = some (.lst ((ones (rngC lo hi)).map V.str)) := q3
      have hrl : (rngC lo hi).length ≤ 67 := Nat.le_trans (List.length_filter_le ..) (by decide)
      refine ⟨_, _, ones (rngC lo hi), rfl, rfl, .inl (SqL.of q3'), by
        rw [ones_len]
        show _ + _ * 0 ≤ _
        omega, ?_⟩
      have hw := cp_ones (rngC lo hi)
      generalize Txt.join ("" : Str) (ones (rngC lo hi)) = w at hw
      have hwl : w.length ≤ 67 := by rw [← cp_len, hw]; exact hrl
      refine ⟨_, _, rfl, rfl, sz_le (by omega), ?_⟩
      walk_at "go"
      rw [show (p' : Int) + 1 = ((p' + 1 : Nat) : Int) by omega]
      refine ⟨p' + 1, ch ++ w, _, _, _, rfl, by omega, hp2, s3.trans q1, ?_, ?_, ?_⟩
      · rw [hrd', cp_app, hw]
      · intro x hx
        rw [cp_app, hw] at hx
        rcases List.mem_append.mp hx with h | h
        · exact hch x h
        · exact (List.mem_filter.mp h).1
      · rw [← cp_len, cp_app, List.length_append, cp_len, cp_len]
        omega
    · clear hrd hch hcl hap hpk p ch
      obtain ⟨p, ch, v8, v9, v10, rfl, hap, hpk, s3, hrd, hch, hcl⟩ := q
      have hpe : p = k := by omega
      rw [hpe, tk_end] at hrd
      have hrd : rdItems (((cp z).take k).drop f) f = .ok (cp ch) := by
        rw [hrd]
        show Except.ok (cp ch ++ []) = _
        rw [List.append_nil]
      subst hpe
      clear hap
      walk_at "go"
      refine e_cut (Mid := fun σ H4 => ∃ u : Str, σ = [some (.str z), some (.int a), some (.str b), some (.int p), some (.int f), some (.bl (decide (c = 33))), some (.str u), some (.int p), v8, v9, v10, none] ∧ Same H H4 ∧ rdSet ((cp z).drop (a + 1)) a = if cp u = [] then .error a else .ok ((CH.filter fun x => decide (x ∈ cp u), false), (cp z).drop (p + 1))) ?_ ?_
      · walk_at "go"
        by_cases q33 : c = 33
        · rw [decide_eq_true q33]
          rw [if_pos q33] at hf hR
          rw [hf] at hrd
          rw [hrd] at hR
          walk_at "go"
          intro D hD
          refine lc_str (fun pre H1 => Same H3 H1 ∧ pre.length ≤ 67 ∧ H1 D = some (.lst ((ones (pre.filter fun c => decide (c ∉ cp ch ++ [47]))).map V.str))) ⟨same_new hD, by decide, upd_same⟩ (fun pre x post H7 e q => ?_) (fun H7 q => ?_)
          · obtain ⟨q1, q2, q3⟩ := q
            have q4 : (pre ++ [x]).length ≤ 67 := Nat.le_trans (pre_le e) (by decide)
            walk_at "go"
            refine ⟨_, _, rfl, rfl, sz_le (by show ch.length + 1 ≤ _; omega), ?_⟩
            have ecp : ((ch ++ ("/" : Str)) : Str).cps.toList = cp ch ++ [47] := by show cp (ch ++ ("/" : Str)) = _; rw [cp_app]; rfl
            refine ⟨x, _, rfl, rfl, _, rfl, ?_⟩
            rw [ecp]
            by_cases hx : x ∈ cp ch ++ [47]
            · rw [if_neg (by simp only [hx, decide_true, Bool.not_true]; decide)]
              refine ⟨q1, q4, ?_⟩
              rw [List.filter_append, List.filter_cons_of_neg (by simp only [hx]; decide), List.filter_nil, List.append_nil]
              exact q3
            · rw [if_pos (by simp only [hx, decide_false, Bool.not_false])]
              walk_at "go"
              refine ⟨_, q3, small (by
                rw [List.length_map, ones, List.length_map]
                have h5 := List.length_filter_le (fun c => decide (c ∉ cp ch ++ [47])) pre
                omega : _ ≤ 67) (by decide), Same.mut q1 hD, q4, ?_⟩
              rw [upd_same, List.filter_append, List.filter_cons_of_pos (p := fun c => decide (c ∉ cp ch ++ [47])) (decide_eq_true hx), ones, ones, List.map_append, List.map_append]
              rfl
          obtain ⟨q1, _, q3⟩ := q
          have q3' : H7 D = some (.lst ((ones (NS.filter fun c => decide (c ∉ cp ch))).map V.str)) := by rw [← ns_not]; exact q3
          have hrl : (NS.filter fun c => decide (c ∉ cp ch)).length ≤ 67 := Nat.le_trans (List.length_filter_le ..) (by decide)
          have hsub : (NS.filter fun c => decide (c ∉ cp ch)).Sublist CH := List.filter_sublist.trans ns_sub
          have hR2 : rdSet ((cp z).drop (a + 1)) a = if (NS.filter fun c => decide (c ∉ cp ch)) = [] then .error a else .ok ((NS.filter fun c => decide (c ∉ cp ch), false), (cp z).drop (p + 1)) := hR
          clear hR q3
          generalize (NS.filter fun c => decide (c ∉ cp ch)) = L at q3' hrl hsub hR2
          refine ⟨_, _, ones L, rfl, rfl, .inl (SqL.of q3'), by
            rw [ones_len]
            show _ + _ * 0 ≤ _
            omega, ?_⟩
          have hw := cp_ones L
          generalize Txt.join ("" : Str) (ones L) = w at hw
          walk_at "go"
          refine ⟨w, rfl, s3.trans q1, ?_⟩
          rw [hw, ch_in hsub]
          exact hR2
        · rw [decide_eq_false q33]
          rw [if_neg q33] at hf hR
          rw [hf] at hrd
          rw [hrd] at hR
          walk_at "go"
          refine ⟨ch, rfl, s3, ?_⟩
          rw [hR]
          show (if (CH.filter fun c => decide (c ∈ cp ch)) = [] then _ else _) = _
          by_cases h : cp ch = []
          · rw [if_pos h, if_pos (by rw [h]; exact List.filter_eq_nil_iff.mpr fun x _ => by simp)]
          · rw [if_neg h, if_neg]
            intro h2
            obtain ⟨x, hx⟩ := List.exists_mem_of_ne_nil _ h
            have := List.filter_eq_nil_iff.mp h2 x (hch x hx)
            exact this (decide_eq_true hx)
      clear hR hrd hch hcl s3 hf
      rintro σ H4 ⟨u, rfl, s4, hR⟩
      walk_at "go"
      have ew : decide (u = ("" : Str)) = decide (cp u = []) := decide_eq_decide.mpr ⟨fun e => by rw [e]; rfl, fun e => str_ext (by rw [e]; rfl)⟩
      rw [ew]
      refine i_d (fun h0 => ?_) (fun h0 => ?_)
      · walk_at "go"
        exact k2 _ _ (by rw [hR, if_pos h0]) s4
      rw [if_neg h0] at hR
      walk_at "go"
      intro D hD
      refine lc_str (fun pre H1 => Same H4 H1 ∧ pre.length ≤ 67 ∧ H1 D = some (.lst ((ones (pre.filter fun c => decide (c ∈ cp u))).map V.str))) ⟨same_new hD, by decide, upd_same⟩ (fun pre x post H7 e q => ?_) (fun H7 q => ?_)
      · obtain ⟨q1, q2, q3⟩ := q
        have q4 : (pre ++ [x]).length ≤ 67 := Nat.le_trans (pre_le e) (by decide)
        walk_at "go"
        refine ⟨x, _, rfl, rfl, _, rfl, ?_⟩
        by_cases hx : x ∈ cp u
        · rw [if_pos (decide_eq_true hx)]
          walk_at "go"
          refine ⟨_, q3, small (by
            rw [List.length_map, ones, List.length_map]
            have h5 := List.length_filter_le (fun c => decide (c ∈ cp u)) pre
            omega : _ ≤ 67) (by decide), Same.mut q1 hD, q4, ?_⟩
          rw [upd_same, List.filter_append, List.filter_cons_of_pos (by simp [hx]), ones, ones, List.map_append, List.map_append]
          rfl
        · rw [if_neg (by rw [decide_eq_false hx]; decide)]
          refine ⟨q1, q4, ?_⟩
          rw [List.filter_append, List.filter_cons_of_neg (by simp [hx]), List.filter_nil, List.append_nil]
          exact q3
      obtain ⟨q1, _, q3⟩ := q
      have q3' : H7 D = some (.lst ((ones (CH.filter fun c => decide (c ∈ cp u))).map V.str)) := q3
      have hrl : (CH.filter fun c => decide (c ∈ cp u)).length ≤ 67 := Nat.le_trans (List.length_filter_le ..) (by decide)
      clear q3
      generalize (CH.filter fun c => decide (c ∈ cp u)) = L at q3' hrl hR
      refine ⟨_, _, ones L, rfl, rfl, .inl (SqL.of q3'), by
        rw [ones_len]
        show _ + _ * 0 ≤ _
        omega, ?_⟩
      have hw := cp_ones L
      generalize Txt.join ("" : Str) (ones L) = w at hw
      have s7 := s4.trans q1
      clear q1 s4 hD q3'
      walk_at "go"
      have fin : ∀ {p1 p2 : Addr} {i : Int}, H7 p1 = none → upd H7 p1 (.tup [.str w, .bl false]) p2 = none → i = ((p + 1 : Nat) : Int) →
          Q (.ref p2) (upd (upd H7 p1 (.tup [.str w, .bl false])) p2 (.tup [.ref p1, .int i])) := fun hp1 hp2 hi => by
        subst hi
        rw [cp_eq hw] at hp2 ⊢
        refine kk.1 _ _ _ _ _ _ hR (by omega) (by omega) (s7.trans ((same_new hp1).trans (same_new hp2))) (SqT.of upd_same) (SqT.of ?_)
        exact same_new hp2 _ _ upd_same
      exact fin (by assumption) (by assumption) (by omega)
theorem ok_law_read (T : Txt K mg)  (c_law_all : Cal P w K mg base 1 "_law_all" (sp_law_all K)) (c_law_set : Cal P w K mg base 2 "_law_set" (sp_law_set K)) {f : Addr} {fd : FuncData} (F : FnP K "_law_read" s_law_read f fd) : FnOk P w K mg base CX0 3 f fd ["line", "at"] (sp_law_read K) := by
  refine F.ok sc_law_read (fun vs H Q E h => ?_) (fun cdv A outer s H vs Q E hr h => ?_)
  · obtain ⟨_, _, rfl, _⟩ := h
    rfl
  · have S := sc_law_read
    refine ⟨_, PSs.nox (pss_cons (ps_set (i := 2) S.nd rfl (by first | exact .inl rfl | exact .inr rfl) (pe_join pe_str (pe_lc (own := [("char", 3)]) (g := gName 3) rfl S.nd (pi_str (pe_c0 c_law_all hr (by decide) (by rfl))) (blkOk_by (N := N_law_read) (sc := defScope s_law_read) (by decide +kernel)) (fun _ _ _ _ _ => (pg_name (i := 3) S.nd rfl (by first | exact .inl rfl | exact .inr rfl))) (fun _ _ _ _ _ => (pts_one (pt_cmpR op_ne (pv 3) pe_str (nomark _)))) (fun _ _ _ _ _ => (pv 3)))))
    (pss_cons (ps_if (pt_cmpR op_eq (pe_slice sl_str (pv 0) (po_some (pv 1)) (po_some (pe_op op_add (pv 1) pe_int))) pe_str (nomark _))
    (pss_one (ps_ret (pe_tup (pa_cons (pe_tup (pa_cons (pe_c0 c_law_all hr (by decide) (by rfl)) (pa_cons pe_bl pa_nil))) (pa_cons (pe_op op_add (pv 1) pe_int) pa_nil)))))
    pss_nil)
    (pss_cons (ps_if (pt_cmpR op_eq (pe_ix ix_str (pv 0) (pv 1) (fun _ _ => rfl)) pe_str (nomark _))
    (pss_one (ps_ret (pe_c c_law_set hr (by decide) (by rfl) (pa_cons (pv 0) (pa_cons (pv 1) pa_nil)))))
    pss_nil)
    (pss_cons (ps_if (pw_or (pt_cmpR op_eq (pe_ix ix_str (pv 0) (pv 1) (fun _ _ => rfl)) pe_str (nomark _)) (pw_or1 (pt_cmpR op_eq (pe_ix ix_str (pv 0) (pv 1) (fun _ _ => rfl)) pe_str (nomark _)))).pt
    (pss_one (ps_ret (pe_tup (pa_cons (pe_tup (pa_cons (pv 2) (pa_cons (pe_cmpR op_eq (pe_ix ix_str (pv 0) (pv 1) (fun _ _ => rfl)) pe_str (nomark _)) pa_nil))) (pa_cons (pe_op op_add (pv 1) pe_int) pa_nil)))))
    pss_nil)
    (pss_cons (ps_if (pt_cmpR op_in_sign (pe_ix ix_str (pv 0) (pv 1) (fun _ _ => rfl)) (pe_c0 c_law_all hr (by decide) (by rfl)) (by first | rfl | with_unfolding_all rfl))
    (pss_one (ps_ret (pe_tup (pa_cons (pe_tup (pa_cons (pe_ix ix_str (pv 0) (pv 1) (fun _ _ => rfl)) (pa_cons pe_bl pa_nil))) (pa_cons (pe_op op_add (pv 1) pe_int) pa_nil)))))
    pss_nil)
    (pss_one (ps_ret (pv 1)))))))), ?_⟩
    try dsimp only [cxOf, Cx.nox]
    obtain ⟨_, _, rfl, z, a, rfl, rfl, ha, hz, kk⟩ := h
    have k2 := kk.2
    have hzl := cp_len z
    obtain ⟨c, hc, hd⟩ := tk_drop2 (l := cp z) (i := a) (e := (cp z).length) (by omega) (Nat.le_refl _)
    rw [List.take_length] at hd
    rw [hd] at kk k2
    have h42 : (cp z)[(cp z).length]? ≠ some 42 := by simp
    have hts := two_stars (z := z) (a := a) (e := (cp z).length) (c := c) (by omega) (Nat.le_refl _) h42 hc
    rw [List.take_length] at hts
    have hR := rdAtom_cons c ((cp z).drop (a + 1)) a
    walk_at "go"
    intro D hD
    refine lc_str (fun pre H1 => Same H H1 ∧ pre.length ≤ 67 ∧ H1 D = some (.lst ((ones (pre.filter fun c => decide (c ≠ 47))).map V.str))) ⟨same_new hD, by decide, upd_same⟩ (fun pre x post H7 e q => ?_) (fun H7 q => ?_)
    · obtain ⟨q1, q2, q3⟩ := q
      have q4 : (pre ++ [x]).length ≤ 67 := Nat.le_trans (pre_le e) (by decide)
      walk_at "go"
      rw [one_dec (b := 47) rfl]
      refine i_nd (fun hx => ?_) (fun hx => ?_)
      · walk_at "go"
        refine ⟨_, q3, small (by
          rw [List.length_map, ones, List.length_map]
          have h5 := List.length_filter_le (fun c => decide (c ≠ 47)) pre
          omega : _ ≤ 67) (by decide), Same.mut q1 hD, q4, ?_⟩
        rw [upd_same, List.filter_append, List.filter_cons_of_pos (by simpa using hx), ones, ones, List.map_append, List.map_append]
        rfl
      · refine ⟨q1, q4, ?_⟩
        rw [List.filter_append, List.filter_cons_of_neg (by simpa using hx), List.filter_nil, List.append_nil]
        exact q3
    obtain ⟨s7, _, q3⟩ := q
    have q3' : H7 D = some (.lst ((ones NS).map V.str)) := q3
    refine ⟨_, _, ones NS, rfl, rfl, .inl (SqL.of q3'), by
      rw [ones_len]
      have e9 : NS.length ≤ 67 := by decide
      show _ + _ * 0 ≤ _
      omega, ?_⟩
    have hw := cp_ones NS
    generalize Txt.join ("" : Str) (ones NS) = w at hw
    clear q3 q3' hD
    have fin : ∀ {S : List Nat} {b b' : Bool} {j : Nat} {p1 p2 : Addr} {u : Str} {i : Int} {H1 : Hp}, rdAtom (c :: (cp z).drop (a + 1)) a = .ok ((S, b), (cp z).drop j) → a < j → j ≤ z.length → Same H H1 → H1 p1 = none → upd H1 p1 (.tup [.str u, .bl b']) p2 = none → cp u = S → i = (j : Int) → b' = b →
        Q (.ref p2) (upd (upd H1 p1 (.tup [.str u, .bl b'])) p2 (.tup [.ref p1, .int i])) := fun hr h1 h2 s hp1 hp2 hu hi hb => by
      subst hi
      subst hb
      rw [cp_eq hu] at hp2 ⊢
      refine kk.1 _ _ _ _ _ _ hr h1 h2 (s.trans ((same_new hp1).trans (same_new hp2))) (SqT.of upd_same) (SqT.of ?_)
      exact same_new hp2 _ _ upd_same
    walk_at "go"
    rw [hts]
    refine i_d (fun h1 => ?_) (fun h1 => ?_)
    · rw [if_pos h1.1, if_pos h1.2, List.tail_drop] at hR
      have h7 : a + 1 < z.length := by
        rcases Nat.lt_or_ge (a + 1) z.length with h | h
        · exact h
        · have h2 := h1.2
          rw [List.drop_eq_nil_of_le (by omega)] at h2
          cases h2
      walk_at "go"
      exact fin (j := a + 2) hR (by omega) (by omega) s7 (by assumption) (by assumption) rfl (by omega) rfl
    walk_at "go"
    refine e_ixS (sz_of (Nat.le_trans hz (by decide))) (c := c) (at_ofN (by omega) hc) ?_
    walk_at "go"
    rw [one_dec (b := 91) rfl]
    refine i_d (fun h4 => ?_) (fun h4 => ?_)
    · rw [h4, if_neg (by decide), if_neg (by decide), if_pos rfl] at hR
      rw [h4, hR] at kk
      walk_at "go"
      refine ⟨_, _, rfl, z, a, rfl, rfl, by rw [hc, h4], hz, fun S b j p q H' hr h1 h2 s hp hq => kk.1 S b j p q H' hr h1 h2 (s7.trans s) hp hq, fun i H' hr s => kk.2 i H' hr (s7.trans s)⟩
    walk_at "go"
    refine e_ixS (sz_of (Nat.le_trans hz (by decide))) (c := c) (at_ofN (by omega) hc) ?_
    walk_at "go"
    rw [one_dec (b := 42) rfl]
    refine i_d (fun h2 => ?_) (fun h2 => ?_)
    · rw [if_pos h2, if_neg (fun h => h1 ⟨h2, h⟩)] at hR
      walk_at "go"
      refine e_ixS (sz_of (Nat.le_trans hz (by decide))) (c := c) (at_ofN (by omega) hc) ?_
      walk_at "go"
      exact fin (j := a + 1) hR (by omega) (by omega) s7 (by assumption) (by assumption) hw (by omega) (by rw [one_dec (b := 42) rfl]; exact decide_eq_true h2)
    rw [if_neg h2] at hR
    walk_at "go"
    refine e_ixS (sz_of (Nat.le_trans hz (by decide))) (c := c) (at_ofN (by omega) hc) ?_
    walk_at "go"
    rw [one_dec (b := 63) rfl]
    refine i_d (fun h3 => ?_) (fun h3 => ?_)
    · rw [if_pos h3] at hR
      walk_at "go"
      refine e_ixS (sz_of (Nat.le_trans hz (by decide))) (c := c) (at_ofN (by omega) hc) ?_
      walk_at "go"
      exact fin (j := a + 1) hR (by omega) (by omega) s7 (by assumption) (by assumption) hw (by omega) (by rw [one_dec (b := 42) rfl]; exact decide_eq_false h2)
    rw [if_neg h3, if_neg h4] at hR
    walk_at "go"
    refine e_ixS (sz_of (Nat.le_trans hz (by decide))) (c := c) (at_ofN (by omega) hc) ?_
    walk_at "go"
    refine ⟨_, _, rfl, rfl, ?_⟩
    walk_at "go"
    refine i_d (fun h5 => ?_) (fun h5 => ?_)
    · have h5 : c ∈ CH := h5
      rw [if_pos h5] at hR
      walk_at "go"
      refine e_ixS (sz_of (Nat.le_trans hz (by decide))) (c := c) (at_ofN (by omega) hc) ?_
      walk_at "go"
      exact fin (j := a + 1) hR (by omega) (by omega) s7 (by assumption) (by assumption) rfl (by omega) rfl
    · have h5 : c ∉ CH := h5
      rw [if_neg h5] at hR
      walk_at "go"
      exact k2 _ _ hR s7
theorem ok_law_line (T : Txt K mg)  (c_law_read : Cal P w K mg base 3 "_law_read" (sp_law_read K)) {f : Addr} {fd : FuncData} (F : FnP K "_law_line" s_law_line f fd) : FnOk P w K mg base CX0 4 f fd ["line"] (sp_law_line K) := by
  refine F.ok sc_law_line (fun vs H Q E h => ?_) (fun cdv A outer s H vs Q E hr h => ?_)
  · obtain ⟨_, rfl, _⟩ := h
    rfl
  · have S := sc_law_line
    refine ⟨_, PSs.nox (pss_cons (ps_set (i := 1) S.nd rfl (by first | exact .inl rfl | exact .inr rfl) (pe_lst pa_nil))
    (pss_cons (ps_set (i := 2) S.nd rfl (by first | exact .inl rfl | exact .inr rfl) (pe_cmpR op_eq (pe_ix ix_str (pv 0) pe_int (fun _ _ => rfl)) pe_str (nomark _)))
    (pss_cons (ps_set (i := 3) S.nd rfl (by first | exact .inl rfl | exact .inr rfl) (pe_callTy call_int1 (by rfl) T.f_int (by first | rfl | decide +kernel) (pa_cons (pv 2) pa_nil)))
    (pss_cons (ps_if (pt_cmpR op_eq (pv 0) pe_str (nomark _))
    (pss_one (ps_ret pe_int))
    pss_nil)
    (pss_cons (ps_for PassesOwn.never rfl (pi_range1 (by rfl) T.f_range (pa_cons (pe_callB call_len_str (by rfl) T.f_len (by first | rfl | decide +kernel) (pa_cons (pv 0) pa_nil)) pa_nil)) (pg_name (i := 4) S.nd rfl (by first | exact .inl rfl | exact .inr rfl))
    (pss_one (ps_if (pt_cmpR op_lt (pv 3) (pe_callB call_len_str (by rfl) T.f_len (by first | rfl | decide +kernel) (pa_cons (pv 0) pa_nil)) (nomark _))
      (pss_cons (ps_set (i := 5) S.nd rfl (by first | exact .inl rfl | exact .inr rfl) (pe_c c_law_read hr (by decide) (by rfl) (pa_cons (pv 0) (pa_cons (pv 3) pa_nil))))
        (pss_cons (ps_if (pt_val (pe_callB call_isi (by rfl) T.f_isinstance (by first | rfl | decide +kernel) (pa_cons (pv 5) (pa_cons (pe_bltn (v := .ty "int") (by rfl) T.f_int (by first | rfl | decide +kernel) rfl) pa_nil))))
        (pss_one (ps_ret (pv 5)))
        pss_nil)
        (pss_cons (ps_if (pw_or (pt_cmpR op_eq (pe_callB call_len_seq (by rfl) T.f_len (by first | rfl | decide +kernel) (pa_cons (pv 1) pa_nil)) pe_int (nomark _)) (pw_or1 (pw_and (pt_val (pe_ix ix_seq (pe_ix ix_seq (pv 5) pe_int (fun _ _ => rfl)) pe_int (fun _ _ => rfl))) (pw_and (pt_cmpR op_gt (pe_callB call_len_seq (by rfl) T.f_len (by first | rfl | decide +kernel) (pa_cons (pv 1) pa_nil)) pe_int (nomark _)) (pw_and1 (pt_val (pe_ix ix_tup (pe_ix ix_list (pv 1) (pe_un un_neg pe_int) (fun _ _ => rfl)) pe_int (fun _ _ => rfl)))))).pt)).pt
        (pss_one (ps_ret (pv 3)))
        pss_nil)
        (pss_cons (ps_expr (pe_bm PySem.F.plainAttrs_list PySem.F.slot_list_append PySem.F.type_list_append mt_append (pv 1) (pa_cons (pe_ix ix_seq (pv 5) pe_int (fun _ _ => rfl)) pa_nil)))
        (pss_one (ps_set (i := 3) S.nd rfl (by first | exact .inl rfl | exact .inr rfl) (pe_ix ix_seq (pv 5) pe_int (fun _ _ => rfl))))))))
      pss_nil)))
    (pss_one (ps_ret (pe_tup (pa_cons (pv 1) (pa_cons (pv 2) pa_nil)))))))))), ?_⟩
    try dsimp only [cxOf, Cx.nox]
    obtain ⟨_, rfl, z, rfl, h0, hz, k1, k2⟩ := h
    have hzl := cp_len z
    walk_at "go"
    rename_i D hD
    obtain ⟨c, r, hcr⟩ : ∃ c r, cp z = c :: r := by
      cases h : cp z with
      | nil => rw [h] at hzl; simp at hzl; omega
      | cons c r => exact ⟨c, r, rfl⟩
    have hc : (cp z)[0]? = some c := by rw [hcr]; rfl
    have hP := rdPat_cons (c := c) (a := 0) (r := r)
    rw [← hcr] at hP
    have hrl : r.length + 1 = z.length := by rw [← hzl, hcr]; rfl
    have hr0 : (cp z).drop 1 = r := by rw [hcr]; rfl
    refine e_ixS (sz_of (Nat.le_trans hz (by decide))) (c := c) (at_ofN rfl hc) ?_
    walk_at "go"
    rw [one_dec (b := 33) rfl]
    walk_at "go"
    obtain ⟨s0, hs0⟩ : ∃ s0 : Nat, s0 = if c = 33 then 1 else 0 := ⟨_, rfl⟩
    refine .inr ⟨_, rfl, ?_⟩
    have es : (if decide (c = 33) = true then (1 : Int) else 0) = ((s0 : Nat) : Int) := by
      rw [hs0]
      by_cases q : c = 33
      · rw [decide_eq_true q, if_pos q]; rfl
      · rw [decide_eq_false q, if_neg q]; rfl
    rw [es]
    walk_at "go"
    have ez : decide (z = ("!" : Str)) = decide (c = 33 ∧ r = []) := decide_eq_decide.mpr ⟨fun e => by
      rw [e] at hcr
      have h2 : [33] = c :: r := hcr
      injection h2 with h3 h4
      exact ⟨h3.symm, h4.symm⟩, fun e => str_ext (by rw [hcr, e.1, e.2]; rfl)⟩
    rw [ez]
    refine i_d (fun h1 => ?_) (fun h1 => ?_)
    · walk_at "go"
      exact k2 1 _ (by rw [hP, if_pos h1.1, if_pos h1.2]) (same_new hD)
    walk_at "go"
    have hlen : ∀ i, i ≤ z.length → ((cp z).drop i).length = z.length - i := fun i hi => by rw [List.length_drop]; omega
    have hstart : rdPat (cp z) 0 = negd (decide (c = 33)) (rdAtoms z.length ((cp z).drop s0) s0 []) ∨ rdPat (cp z) 0 = negd (decide (c = 33)) (rdAtoms (z.length - 1) ((cp z).drop s0) s0 []) := by
      rw [hP, hs0]
      by_cases q : c = 33
      · refine .inr ?_
        rw [if_pos q, if_neg (fun h => h1 ⟨q, h⟩), if_pos q, hr0, decide_eq_true q, show z.length - 1 = r.length by omega]
      · refine .inl ?_
        rw [if_neg q, if_neg q, decide_eq_false q]
        show _ = negd false (rdAtoms z.length (cp z) 0 [])
        rw [hcr, ← hzl, hcr]
    have hn0 : ∃ n, rdPat (cp z) 0 = negd (decide (c = 33)) (rdAtoms n ((cp z).drop s0) s0 []) ∧ z.length - s0 ≤ n := by
      by_cases q : c = 33
      · rcases hstart with h | h
        · exact ⟨_, h, by omega⟩
        · exact ⟨_, h, by rw [hs0, if_pos q]; omega⟩
      · refine ⟨z.length, ?_, by omega⟩
        rw [hP, hs0, if_neg q, if_neg q, decide_eq_false q]
        show _ = negd false (rdAtoms z.length (cp z) 0 [])
        rw [hcr, ← hzl, hcr]
    obtain ⟨n0, hn0, hn1⟩ := hn0
    have hs1 : s0 ≤ z.length := by rw [hs0]; split <;> omega
    clear hstart hP ez es hr0 hrl h1
    generalize decide (c = 33) = neg at hn0 ⊢
    clear hs0 hc
    have hnz := Int.toNat_natCast z.length
    refine for_rng (fun i σ H3 => ∃ (p : Nat) (acc : List PA) (qs : List Addr) (n : Nat) (v4 v5 : Option V), σ = [some (.str z), some (.ref D), some (.bl neg), some (.int p), v4, v5] ∧ (i ≤ p ∨ p = z.length) ∧ p ≤ z.length ∧ Same H H3 ∧ H3 D = some (.lst (qs.map V.ref)) ∧ Ats K H3 qs (ats acc) ∧ acc.length ≤ 40 ∧ z.length - p ≤ n ∧ rdPat (cp z) 0 = negd neg (rdAtoms n ((cp z).drop p) p acc))
      ⟨s0, [], [], n0, none, none, rfl, .inl (Nat.zero_le _), hs1, same_new hD, upd_same, .nil, by decide, hn1, hn0⟩ (fun i σ H3 hi q => ?_) (fun σ H3 q => ?_)
    · obtain ⟨p, acc, qs, n, v4, v5, rfl, hip, hpl, s3, hD3, hA3, ha40, hn, hr1⟩ := q
      walk_at "go"
      refine i_d (fun hlt => ?_) (fun hlt => ?_)
      rotate_left
      · walk_at "go"
        exact ⟨p, acc, qs, n, _, _, rfl, .inr (by omega), hpl, s3, hD3, hA3, ha40, hn, hr1⟩
      have hlt : p < z.length := by omega
      obtain ⟨x, hx, hd⟩ := tk_drop2 (l := cp z) (i := p) (e := (cp z).length) (by omega) (Nat.le_refl _)
      rw [List.take_length] at hd
      obtain ⟨n, rfl⟩ : ∃ n', n = n' + 1 := ⟨n - 1, by omega⟩
      rw [hd] at hr1
      walk_at "go"
      refine ⟨_, _, rfl, z, p, rfl, rfl, hlt, hz, fun S b j a1 a2 H4 hr h1 h2 s hp hq => ?_, fun i' H4 hr s => ?_⟩
      rotate_left
      · rw [hd] at hr
        rw [rdAtoms_err hr] at hr1
        walk_at "go"
        exact k2 _ _ hr1 (s3.trans s)
      rw [hd] at hr
      rw [rdAtoms_ok hr, ← hd, hlen _ hpl, hlen _ h2] at hr1
      have hql : qs.length = acc.length := by rw [hA3.length]; unfold ats; rw [List.length_map]
      have hD4 := s _ _ hD3
      have hA4 := ats_same s hA3
      have s4 := s3.trans s
      clear hD3 hA3 s s3
      walk_at "go"
      refine isi_ti hp ?_
      walk_at "go"
      have no : ¬ (acc.length = 40 ∨ (b = true ∧ lastRep acc = true)) → ∀ H5, H5 = upd H4 D (.lst (qs.map V.ref ++ [.ref a2])) → ∃ (p : Nat) (acc : List PA) (qs : List Addr) (n : Nat) (v4 v5 : Option V), [some (V.str z), some (V.ref D), some (V.bl neg), some (V.int j), some (V.int (0 + (i : Int))), some (V.ref a1)] = [some (.str z), some (.ref D), some (.bl neg), some (.int p), v4, v5] ∧ (i + 1 ≤ p ∨ p = z.length) ∧ p ≤ z.length ∧ Same H H5 ∧ H5 D = some (.lst (qs.map V.ref)) ∧ Ats K H5 qs (ats acc) ∧ acc.length ≤ 40 ∧ z.length - p ≤ n ∧ rdPat (cp z) 0 = negd neg (rdAtoms n ((cp z).drop p) p acc) := by
        rintro hn9 _ rfl
        rw [if_neg hn9] at hr1
        have hn40 : acc.length < 40 := by
          rcases Nat.lt_or_ge acc.length 40 with h | h
          · exact h
          · exact absurd (.inl (by omega)) hn9
        refine ⟨j, acc ++ [(S, b)], qs ++ [a2], n, _, _, rfl, .inl (by omega), h2, Same.mut s4 hD, by rw [upd_same, List.map_append]; rfl, ?_, by rw [List.length_append]; show _ + 1 ≤ 40; omega, by omega, ?_⟩
        · have e1 : ats (acc ++ [(S, b)]) = ats acc ++ [(tx S, b)] := by unfold ats; rw [List.map_append]; rfl
          rw [e1]
          exact prd_snoc (ats_lst hD4 hA4) (sqt_lst hD4 hq)
        · have e1 : p + (z.length - p - (z.length - j)) = j := by omega
          rw [e1] at hr1
          exact hr1
      have bad : (acc.length = 40 ∨ (b = true ∧ lastRep acc = true)) → Q (.int p) H4 := fun h => k2 p H4 (by rw [hr1, if_pos h]; rfl) s4
      clear hr1 hr k1 k2
      rw [List.length_map, hql]
      have e40 : decide (((acc.length : Nat) : Int) = 40) = decide (acc.length = 40) := decide_eq_decide.mpr (by omega)
      rw [e40]
      refine i_d (fun h40 => ?_) (fun h40 => ?_)
      · walk_at "go"
        exact bad (.inl h40)
      walk_at "go"
      refine .inr (.inl (e_ixT hp (v := .ref a2) rfl ?_))
      walk_at "go"
      refine .inr (.inl (e_ixT hq (v := .bl b) rfl ?_))
      walk_at "go"
      cases b with
      | false =>
        walk_at "go"
        refine .inr (.inl (e_ixT hp (v := .ref a2) rfl ?_))
        walk_at "go"
        refine e_app hD4 (small (by rw [List.length_map, hql]; exact ha40 : _ ≤ 40) (by decide)) ?_
        walk_at "go"
        refine .inr (.inl (e_ixT (sqt_lst hD4 hp) (v := .int j) rfl ?_))
        walk_at "go"
        refine no (fun h => ?_) _ rfl
        rcases h with h | ⟨h, _⟩
        · exact h40 h
        · cases h
      | true =>
        walk_at "go"
        refine i_d (fun h0 => ?_) (fun h0 => ?_)
        · rw [List.length_map, hql] at h0
          obtain ⟨w9, c9, hw, hc9, hR⟩ := prd_get hA4 (acc.length - 1) (by unfold ats; rw [List.length_map]; omega)
          walk_at "go"
          refine e_ixL (v := .ref w9) (SqL.of hD4) (at_lastR (n := acc.length - 1) hw (by omega)) ?_
          walk_at "go"
          refine e_ixT hR (v := .bl c9.2) rfl ?_
          walk_at "go"
          have hlr : lastRep acc = c9.2 := by
            unfold ats at hc9
            rw [List.getElem?_map] at hc9
            unfold lastRep
            rw [List.getLast?_eq_getElem?]
            cases h : acc[acc.length - 1]? with
            | none => rw [h] at hc9; cases hc9
            | some x =>
              rw [h] at hc9
              have hc9 : (tx x.1, x.2) = c9 := Option.some.inj hc9
              rw [← hc9]
              rfl
          cases h9 : c9.2 with
          | true =>
            walk_at "go"
            exact bad (.inr ⟨rfl, by rw [hlr, h9]⟩)
          | false =>
            walk_at "go"
            refine .inr (.inl (e_ixT hp (v := .ref a2) rfl ?_))
            walk_at "go"
            refine e_app hD4 (small (by rw [List.length_map, hql]; exact ha40 : _ ≤ 40) (by decide)) ?_
            walk_at "go"
            refine .inr (.inl (e_ixT (sqt_lst hD4 hp) (v := .int j) rfl ?_))
            walk_at "go"
            refine no (fun h => ?_) _ rfl
            rcases h with h | ⟨_, h⟩
            · exact h40 h
            · rw [hlr, h9] at h; cases h
        · rw [List.length_map, hql] at h0
          have e1 : acc = [] := List.eq_nil_of_length_eq_zero (by omega)
          walk_at "go"
          refine .inr (.inl (e_ixT hp (v := .ref a2) rfl ?_))
          walk_at "go"
          refine e_app hD4 (small (by rw [List.length_map, hql]; exact ha40 : _ ≤ 40) (by decide)) ?_
          walk_at "go"
          refine .inr (.inl (e_ixT (sqt_lst hD4 hp) (v := .int j) rfl ?_))
          walk_at "go"
          refine no (fun h => ?_) _ rfl
          rcases h with h | ⟨_, h⟩
          · exact h40 h
          · rw [e1] at h; cases h
    · obtain ⟨p, acc, qs, n, v4, v5, rfl, hip, hpl, s3, hD3, hA3, ha40, hn, hr1⟩ := q
      have hpe : p = z.length := by omega
      rw [hpe, List.drop_eq_nil_of_le (by omega), rdAtoms_nil] at hr1
      walk_at "go"
      rename_i P hP
      have s5 := same_new (o := .tup [.ref D, .bl neg]) hP
      exact k1 _ _ P D _ hr1 (s3.trans s5) hD (SqT.of upd_same) ⟨qs, s5 _ _ hD3, ats_same s5 hA3⟩
theorem ok_law_due (T : Txt K mg)  (c_law_line : Cal P w K mg base 4 "_law_line" (sp_law_line K)) {f : Addr} {fd : FuncData} (F : FnP K "_law_due" s_law_due f fd) : FnOk P w K mg base CX0 5 f fd ["text"] (sp_law_due K) := by
  refine F.ok sc_law_due (fun vs H Q E h => ?_) (fun cdv A outer s H vs Q E hr h => ?_)
  · obtain ⟨_, rfl, _⟩ := h
    rfl
  · have S := sc_law_due
    refine ⟨_, PSs.nox (pss_cons (ps_set (i := 1) S.nd rfl (by first | exact .inl rfl | exact .inr rfl) (pe_lst pa_nil))
    (pss_cons (ps_set (i := 2) S.nd rfl (by first | exact .inl rfl | exact .inr rfl) pe_int)
    (pss_cons (ps_for PassesOwn.never rfl (pi_list (pe_split (pv 0) pe_str)) (pg_name (i := 3) S.nd rfl (by first | exact .inl rfl | exact .inr rfl))
    (C8.pss_cut (ps_if (pw_and (pt_cmpR op_ne (pv 3) pe_str (nomark _)) (pw_and1 (pt_cmpR op_ne (pe_ix ix_str (pv 3) pe_int (fun _ _ => rfl)) pe_str (nomark _)))).pt
      (pss_cons (ps_if (pt_cmpR op_eq (pe_callB call_len_seq (by rfl) T.f_len (by first | rfl | decide +kernel) (pa_cons (pv 1) pa_nil)) pe_int (nomark _))
        (pss_one (ps_ret (pv 2)))
        pss_nil)
        (pss_cons (ps_set (i := 4) S.nd rfl (by first | exact .inl rfl | exact .inr rfl) (pe_c c_law_line hr (by decide) (by rfl) (pa_cons (pv 3) pa_nil)))
        (pss_cons (ps_if (pt_val (pe_callB call_isi (by rfl) T.f_isinstance (by first | rfl | decide +kernel) (pa_cons (pv 4) (pa_cons (pe_bltn (v := .ty "int") (by rfl) T.f_int (by first | rfl | decide +kernel) rfl) pa_nil))))
        (pss_one (ps_ret (pe_op op_add (pv 2) (pv 4))))
        pss_nil)
        (pss_one (ps_expr (pe_bm PySem.F.plainAttrs_list PySem.F.slot_list_append PySem.F.type_list_append mt_append (pv 1) (pa_cons (pv 4) pa_nil)))))))
      pss_nil)
      (pss_one (ps_set (i := 2) S.nd rfl (by first | exact .inl rfl | exact .inr rfl) (pe_op op_add (pe_op op_add (pv 2) (pe_callB call_len_str (by rfl) T.f_len (by first | rfl | decide +kernel) (pa_cons (pv 3) pa_nil))) pe_int)))))
    (pss_one (ps_ret (pv 1)))))), ?_⟩
    try dsimp only [cxOf, Cx.nox]
    obtain ⟨_, rfl, z, rfl, hz, k1, k2⟩ := h
    walk_at "go"
    rename_i D hD
    refine ⟨z, _, rfl, rfl, by decide, Nat.le_trans (by omega : z.length + 2 ≤ 1002) (by decide), ?_⟩
    intro q hq
    have nDq : D ≠ q := fun e => by rw [← e, upd_same] at hq; cases hq
    have hq0 : H q = none := by rw [← hq, upd_ne (Ne.symm nDq)]
    have hsp := split_lns z
    generalize Txt.split z ("\n" : Str) = ys at hsp
    have hJ : joinN (ys.map cp) = cp z := by rw [hsp, join_lns]
    have s0 : Same H (upd (upd H D (.lst [])) q (.lst (ys.map V.str))) := (same_new hD).trans (same_new hq)
    refine ⟨q, rfl, ⟨_, SqL.of upd_same⟩, ?_⟩
    rw [← hsp] at k1 k2
    refine for_strs (ys := ys) (fun pre σ H1 => ∃ (a : Nat) (v3 v4 : Option V) (rows : List RowQ) (xs : List Addr), σ = [some (.str z), some (.ref D), some (.int a), v3, v4] ∧ a = ((pre.map cp).map fun x => x.length + 1).sum ∧ Same H H1 ∧ H1 q = some (.lst (ys.map V.str)) ∧ H1 D = some (.lst (xs.map V.ref)) ∧ RwD K D H1 xs (rows.map rp) ∧ rows.length ≤ 20 ∧ ∀ post, ys = pre ++ post → rdLines (ys.map cp) 0 [] = rdLines (post.map cp) a rows)
      ⟨0, none, none, [], [], rfl, rfl, s0, upd_same, by rw [upd_ne nDq]; exact upd_same, .nil, by decide, fun post e => by rw [e]; rfl⟩ (fun pre σ H1 p => ?_) (fun pre x post σ H1 e p => ?_) (fun σ H1 p => ?_)
    · obtain ⟨a, v3, v4, rows, qs, _, _, _, h, _⟩ := p
      exact SqL.of h
    · obtain ⟨a, v3, v4, rows, xs, rfl, ha, s1, hq1, hD1, hR, h20, hrd⟩ := p
      have hrd := hrd _ e
      have hdr : (cp z).drop a = joinN (cp x :: post.map cp) := by
        rw [← hJ, e, List.map_append, ha]
        exact join_drop _ (by simp)
      have hql : xs.length = rows.length := by rw [hR.length, List.length_map]
      have hxl : (cp x).length = x.length := cp_len x
      have hx6 : x.length ≤ 1000 := by
        by_cases h0 : cp x = []
        · rw [← hxl, h0]; exact Nat.zero_le _
        · have := (line_at hdr h0).1
          have := cp_len z
          omega
      refine e_cut (Mid := fun σ H1 => ∃ (v4 : Option V) (rows : List RowQ) (xs : List Addr), σ = [some (.str z), some (.ref D), some (.int a), some (.str x), v4] ∧ Same H H1 ∧ H1 q = some (.lst (ys.map V.str)) ∧ H1 D = some (.lst (xs.map V.ref)) ∧ RwD K D H1 xs (rows.map rp) ∧ rows.length ≤ 20 ∧ rdLines (ys.map cp) 0 [] = rdLines (post.map cp) (a + (cp x).length + 1) rows) ?_ ?_
      · walk_at "go"
        have ew : decide (x = ("" : Str)) = decide (cp x = []) := decide_eq_decide.mpr ⟨fun e => by rw [e]; rfl, fun e => str_ext (by rw [e]; rfl)⟩
        rw [ew]
        refine i_nd (fun hx0 => ?_) (fun hx0 => ?_)
        rotate_left
        · walk_at "go"
          exact ⟨v4, rows, xs, rfl, s1, hq1, hD1, hR, h20, by rw [hrd, List.map_cons, rdLines_skip (.inl hx0)]⟩
        obtain ⟨c, r, hcr⟩ : ∃ c r, cp x = c :: r := by
          cases h : cp x with
          | nil => exact absurd h hx0
          | cons c r => exact ⟨c, r, rfl⟩
        walk_at "go"
        refine e_ixS (sz_of (Nat.le_trans hx6 (by decide))) (c := c) (at_ofN rfl (show (cp x)[0]? = some c by rw [hcr]; rfl)) ?_
        walk_at "go"
        rw [one_dec (b := 35) rfl]
        refine i_nd (fun h35 => ?_) (fun h35 => ?_)
        rotate_left
        · walk_at "go"
          exact ⟨v4, rows, xs, rfl, s1, hq1, hD1, hR, h20, by rw [hrd, List.map_cons, rdLines_skip (.inr (by rw [hcr, h35]; rfl))]⟩
        have hno : ¬ (cp x = [] ∨ (cp x).head? = some 35) := by
          rintro (h | h)
          · exact hx0 h
          · rw [hcr] at h
            exact h35 (Option.some.inj h)
        have hx1 : 0 < x.length := by rw [← hxl, hcr]; simp
        walk_at "go"
        rw [List.length_map, hql]
        refine i_d (fun h9 => ?_) (fun h9 => ?_)
        · walk_at "go"
          exact k2 _ _ (by rw [hrd, List.map_cons, rdLines_20 hno (by omega)]) s1
        have h9 : rows.length ≠ 20 := by omega
        have hsh := rdPat_sh a (cp x) 0
        rw [Nat.add_zero] at hsh
        walk_at "go"
        refine ⟨_, rfl, x, rfl, hx1, hx6, fun as neg p al H3 hr s3 hal hp hA => ?_, fun i H3 hr s3 => ?_⟩
        rotate_left
        · rw [hr] at hsh
          walk_at "go"
          have e9 : (a : Int) + (i : Int) = ((a + i : Nat) : Int) := by omega
          rw [e9]
          exact k2 _ _ (by rw [hrd, List.map_cons, rdLines_err hno h9 hsh]) (s1.trans s3)
        rw [hr] at hsh
        have hD3 := s3 _ _ hD1
        have aD : al ≠ D := fun e => by rw [e, hD1] at hal; cases hal
        walk_at "go"
        refine isi_ti hp ?_
        walk_at "go"
        refine e_app hD3 (small (by rw [List.length_map, hql]; exact h20 : _ ≤ 20) (by decide)) ?_
        walk_at "go"
        refine ⟨_, rows ++ [(as, neg)], xs ++ [p], rfl, Same.mut (s1.trans s3) hD, by rw [upd_ne (Ne.symm nDq)]; exact s3 _ _ hq1, by rw [upd_same, List.map_append]; rfl, ?_, by rw [List.length_append]; show _ + 1 ≤ 20; omega, by rw [hrd, List.map_cons, rdLines_ok hno h9 hsh]⟩
        rw [List.map_append]
        exact prd_snoc ((hR.same s3).updL hD3) ⟨al, tup_updL hD3 hp, aD, hA.updL hD3 aD⟩
      · rintro σ H2 ⟨v4, rows, xs, rfl, s1, hq1, hD1, hR, h20, hrd⟩
        walk_at "go"
        rw [show (a : Int) + (x.length : Int) + 1 = ((a + (cp x).length + 1 : Nat) : Int) by omega]
        refine ⟨a + (cp x).length + 1, some (.str x), v4, rows, xs, rfl, ?_, s1, hq1, hD1, hR, h20, fun post' e' => ?_⟩
        · rw [List.map_append, List.map_append, List.sum_append, ← ha]
          simp [hxl]
          omega
        · have : post' = post := by
            rw [e, List.append_assoc] at e'
            have := List.append_cancel_left e'
            exact (List.cons.inj this).2.symm
          rw [this]
          exact hrd
    · obtain ⟨a, v3, v4, rows, xs, rfl, ha, s1, hq1, hD1, hR, h20, hrd⟩ := p
      have hrd := hrd [] (by simp)
      walk_at "go"
      exact k1 rows D xs H1 hrd s1 hD1 hR.rows
theorem ok_law_text (T : Txt K mg)  (c_law_draw : Cal P w K mg base 1 "_law_draw" (spDraw K)) {f : Addr} {fd : FuncData} (F : FnP K "_law_text" s_law_text f fd) : FnOk P w K mg base CX0 2 f fd ["state", "script"] (sp_law_text K) := by
  refine F.ok sc_law_text (fun vs H Q E h => ?_) (fun cdv A outer s H vs Q E hr h => ?_)
  · obtain ⟨_, _, rfl, _⟩ := h
    rfl
  · have S := sc_law_text
    refine ⟨_, PSs.nox (pss_cons (ps_set (i := 2) S.nd rfl (by first | exact .inl rfl | exact .inr rfl) (pe_lst (pa_cons pe_str (pa_cons pe_str (pa_cons pe_str (pa_cons pe_str (pa_cons pe_str (pa_cons pe_str (pa_cons pe_str (pa_cons pe_str (pa_cons pe_str (pa_cons pe_str (pa_cons pe_str (pa_cons pe_str (pa_cons pe_str (pa_cons pe_str (pa_cons pe_str (pa_cons pe_str (pa_cons pe_str (pa_cons pe_str (pa_cons pe_str pa_nil)))))))))))))))))))))
    (pss_cons (ps_set (i := 2) S.nd rfl (by first | exact .inl rfl | exact .inr rfl) (pe_op op_cat (pv 2) (pe_lst (pa_cons pe_str (pa_cons pe_str (pa_cons pe_str (pa_cons pe_str (pa_cons pe_str (pa_cons pe_str (pa_cons pe_str (pa_cons pe_str (pa_cons pe_str (pa_cons pe_str (pa_cons pe_str (pa_cons pe_str (pa_cons pe_str (pa_cons pe_str (pa_cons pe_str (pa_cons pe_str pa_nil)))))))))))))))))))
    (pss_cons (ps_set (i := 3) S.nd rfl (by first | exact .inl rfl | exact .inr rfl) pe_str)
    (pss_cons (ps_for PassesOwn.never rfl (pi_range1 (by rfl) T.f_range (pa_cons (pe_c c_law_draw hr (by decide) (by rfl) (pa_cons (pv 0) (pa_cons (pv 1) (pa_cons pe_int pa_nil)))) pa_nil)) (pg_name (i := 4) S.nd rfl (by first | exact .inl rfl | exact .inr rfl))
    (pss_one (ps_set (i := 3) S.nd rfl (by first | exact .inl rfl | exact .inr rfl) (pe_op op_add_str (pv 3) (pe_ix ix_list (pv 2) (pe_c c_law_draw hr (by decide) (by rfl) (pa_cons (pv 0) (pa_cons (pv 1) (pa_cons (pe_callB call_len_seq (by rfl) T.f_len (by first | rfl | decide +kernel) (pa_cons (pv 2) pa_nil)) pa_nil)))) (fun _ _ => rfl))))))
    (pss_cons (ps_set (i := 5) S.nd rfl (by first | exact .inl rfl | exact .inr rfl) (pe_c c_law_draw hr (by decide) (by rfl) (pa_cons (pv 0) (pa_cons (pv 1) (pa_cons pe_int pa_nil)))))
    (C8.pss_cut (ps_if (pt_cmpR op_eq (pv 5) pe_int (nomark _))
    (pss_one (ps_set (i := 3) S.nd rfl (by first | exact .inl rfl | exact .inr rfl) (pe_op op_add_str (pe_op op_add_str (pe_op op_repS pe_str (pe_c c_law_draw hr (by decide) (by rfl) (pa_cons (pv 0) (pa_cons (pv 1) (pa_cons pe_int pa_nil))))) (pe_op op_repS pe_str (pe_op op_add pe_int (pe_c c_law_draw hr (by decide) (by rfl) (pa_cons (pv 0) (pa_cons (pv 1) (pa_cons pe_int pa_nil))))))) (pv 3))))
    pss_nil)
    (C8.pss_cut (ps_if (pt_cmpR op_eq (pv 5) pe_int (nomark _))
    (pss_one (ps_set (i := 3) S.nd rfl (by first | exact .inl rfl | exact .inr rfl) (pe_op op_add_str (pe_op op_repS pe_str (pe_op op_add pe_int (pe_c c_law_draw hr (by decide) (by rfl) (pa_cons (pv 0) (pa_cons (pv 1) (pa_cons pe_int pa_nil)))))) (pv 3))))
    pss_nil)
    (pss_one (ps_ret (pv 3)))))))))), ?_⟩
    try dsimp only [cxOf, Cx.nox]
    obtain ⟨_, _, rfl, st, sc, ns, rfl, rfl, d, k⟩ := h
    walk_at "go"
    rename_i l1 h1 l2 h2
    refine cat_new h1 h2 (by decide) fun lp G s0 hlp e0 => ?_
    replace e0 : G lp = some (.lst (pcs.map V.str)) := e0
    have d0 := d.same s0
    have k0 : Kp st H G := Kp.of s0
    have npl := d.ne hlp
    clear h1 h2 hlp s0
    walk_at "go"
    intro v1 H1 a1 b1 k1 d1
    have kk1 := k0.trans k1
    have e1 := k1 _ _ npl e0
    clear k0 k1 d0 e0
    walk_at "go"
    have hn : v1.toNat ≤ 24 := by omega
    generalize v1.toNat = n at hn ⊢
    refine for_rng (fun i σ H3 => ∃ (w : Str) (v4 : Option V), σ = [some (.ref st), some (.ref sc), some (.ref lp), some (.str w), v4, none] ∧ Kp st H H3 ∧ Dr K st sc ns H3 ∧ H3 lp = some (.lst (pcs.map V.str)) ∧ w.length ≤ 8 * i)
      ⟨("" : Str), none, rfl, kk1, d1, e1, Nat.le_refl _⟩ (fun i σ H3 hi q => ?_) (fun σ H3 q => ?_)
    · obtain ⟨w, v4, rfl, k3, d3, e3, hw⟩ := q
      walk_at "go"
      intro v2 H4 a2 b2 k4 d4
      rw [List.length_map, pcs_n] at b2
      obtain ⟨z, hz, ez⟩ := pick_str (l := pcs) a2 (by rw [pcs_n]; exact b2)
      have e4 := k4 _ _ npl e3
      refine e_ixL (v := .str z) (SqL.of e4) ez ?_
      have hz8 := pcs_len hz
      walk_at "go"
      refine ⟨_, _, rfl, rfl, sz_le (by omega), ?_⟩
      walk_at "go"
      refine ⟨w ++ z, _, rfl, k3.trans k4, d4, e4, ?_⟩
      rw [← cp_len, cp_app, List.length_append, cp_len, cp_len]
      omega
    · obtain ⟨w, v4, rfl, k3, d3, e3, hw⟩ := q
      have hw2 : w.length ≤ 192 := by omega
      clear hw kk1 e1 d1
      walk_at "go"
      intro v2 H4 a2 b2 k4 d4
      have k5 := k3.trans k4
      walk_at "go"
      refine e_cut (Mid := fun σ H5 => ∃ w2 : Str, σ = [some (.ref st), some (.ref sc), some (.ref lp), some (.str w2), v4, some (.int v2)] ∧ Kp st H H5 ∧ Dr K st sc ns H5 ∧ w2.length ≤ 300) ?_ ?_
      · walk_at "go"
        refine i_d (fun h0 => ?_) (fun h0 => ?_)
        · walk_at "go"
          intro v3 H5 a3 b3 k6 d5
          refine e_repS (by omega) (by omega) (by decide) fun u1 _ hu1 => ?_
          walk_at "go"
          intro v5 H6 a5 b5 k7 d6
          walk_at "go"
          refine e_repS (by omega) (by omega) (by decide) fun u2 _ hu2 => ?_
          have hu1 : u1.length ≤ 8 := by
            rw [hu1]
            show v3.toNat * 4 ≤ 8
            omega
          have hu2 : u2.length ≤ 42 := by
            rw [hu2]
            show _ * 1 ≤ 42
            omega
          refine ⟨_, _, rfl, rfl, sz_le (by omega), ?_⟩
          have h12 : (u1 ++ u2).length ≤ 50 := by rw [← cp_len, cp_app, List.length_append, cp_len, cp_len]; omega
          walk_at "go"
          refine ⟨_, _, rfl, rfl, sz_le (by omega), ?_⟩
          walk_at "go"
          refine ⟨_, rfl, k5.trans (k6.trans k7), d6, ?_⟩
          rw [← cp_len, cp_app, List.length_append, cp_len, cp_len]
          omega
        · walk_at "go"
          exact ⟨w, rfl, k5, d4, by omega⟩
      · rintro σ H5 ⟨w2, rfl, k6, d5, hw5⟩
        refine e_cut (Mid := fun σ H6 => ∃ w3 : Str, σ = [some (.ref st), some (.ref sc), some (.ref lp), some (.str w3), v4, some (.int v2)] ∧ Kp st H H6 ∧ Dr K st sc ns H6 ∧ w3.length ≤ 400) ?_ ?_
        · walk_at "go"
          refine i_d (fun h0 => ?_) (fun h0 => ?_)
          · walk_at "go"
            intro v5 H6 a5 b5 k7 d6
            walk_at "go"
            refine e_repS (by omega) (by omega) (by decide) fun u2 _ hu2 => ?_
            have hu2 : u2.length ≤ 66 := by
              rw [hu2]
              show _ * 3 ≤ 66
              omega
            walk_at "go"
            refine ⟨_, _, rfl, rfl, sz_le (by omega), ?_⟩
            walk_at "go"
            refine ⟨_, rfl, k6.trans k7, d6, ?_⟩
            rw [← cp_len, cp_app, List.length_append, cp_len, cp_len]
            omega
          · walk_at "go"
            exact ⟨w2, rfl, k6, d5, by omega⟩
        · rintro σ H6 ⟨w3, rfl, k7, d6, hw6⟩
          walk_at "go"
          exact k _ _ (by omega) k7 d6
theorem ok_law_told_of (T : Txt K mg)  (c_parse_patterns : CalX P w K mg base 7 "parse_patterns" (sp_parse_patterns K)) {f : Addr} {fd : FuncData} (F : FnP K "_law_told_of" s_law_told_of f fd) : FnOk P w K mg base CX0 8 f fd ["text"] (sp_law_told_of K) := by
  refine F.ok sc_law_told_of (fun vs H Q E h => ?_) (fun cdv A outer s H vs Q E hr h => ?_)
  · obtain ⟨_, rfl, _⟩ := h
    rfl
  · have S := sc_law_told_of
    refine ⟨_, (pss_one (ps_try_as (i := 1) (tb := fun W => tRet (tCallS (sp_parse_patterns K) (WE W) (tCons (tVar 0) tNil))) (ts := tsOut K) (Wout := fun _ _ _ _ => False) rfl rfl S.nd rfl rfl ⟨rfl, by decide, Or.inl T.er_InvalidPattern.er.gC⟩ takes0 (fun W pn xe tk _ => pss_one (ps_ret (by exact (pe_cX c_parse_patterns hr (by decide) tk (by rfl) (pa_cons (pv 0) pa_nil)))))
      (fun a oe cls d pn hz hf => pss_cons (ps_if (pw_or (pt_not (pt_val (pe_callB (call_isP T.er_InvalidPattern.ec hz hf) (by rfl) T.f_isinstance (by first | rfl | decide +kernel) (pa_cons (pv 1) (pa_cons (pe_glob (by rfl) T.er_InvalidPattern.gB (show RelV (.ref (cFE K)) (.ref (cFE K)) from rfl)) pa_nil))))) (pw_or1 (pt_not (pt_val (pe_callB (call_isP T.er_InvalidPattern.ec hz hf) (by rfl) T.f_isinstance (by first | rfl | decide +kernel) (pa_cons (pv 1) (pa_cons (pe_bltn (v := .ty "ValueError") (by rfl) T.f_ValueError (by first | rfl | decide +kernel) rfl) pa_nil))))))).pt (pss_one (ps_ret pe_non)) pss_nil) (pss_one (ps_ret (pe_plcErr T.er_InvalidPattern.er hz hf (pv 1))))))), ?_⟩
    try dsimp only [cxOf, Cx.nox]
    obtain ⟨_, rfl, z, rfl, hz, k1, k2⟩ := h
    walk_at "go"
    refine ⟨_, rfl, z, rfl, hz, fun rows p qs H' hr s hp hq hP => k1 rows p qs H' hr s hq hP, fun i d H' hr s hd => ?_⟩
    refine ⟨true, T.er_InvalidPattern.er.te, fun _ a ha => ?_, fun q => Bool.noConfusion q⟩
    unfold tsOut
    walk_at "go"
    refine ⟨rfl, d, _, _, _, true, rfl, upd_same, rfl, fun u r => r, T.er_InvalidPattern.ib, ?_⟩
    walk_at "go"
    refine ⟨rfl, d, _, _, _, true, rfl, upd_same, rfl, fun u r => r, T.er_InvalidPattern.iv, ?_⟩
    walk_at "go"
    refine ⟨_, rfl, rfl, rfl, d, _, rfl, upd_same, ?_⟩
    exact k2 i _ hr (s.trans (same_new hd))
theorem ok_law (T : Txt K mg)  (c_law_text : Cal P w K mg base 2 "_law_text" (sp_law_text K)) (c_law_due : Cal P w K mg base 5 "_law_due" (sp_law_due K)) (c_law_told_of : Cal P w K mg base 8 "_law_told_of" (sp_law_told_of K)) (c_law_same : Cal P w K mg base 2 "_law_same" (sp_law_same K)) (c_parse_patterns : CalX P w K mg base 7 "parse_patterns" (sp_parse_patterns K)) (c_format_patterns : Cal P w K mg base 5 "format_patterns" (sp_format_patterns K)) {f : Addr} {fd : FuncData} (F : FnP K "law" s_law f fd) : FnOk P w K mg base CX0 9 f fd ["script"] (sp_law K) := by
  refine F.ok sc_law (fun vs H Q E h => ?_) (fun cdv A outer s H vs Q E hr h => ?_)
  · obtain ⟨_, rfl, _⟩ := h
    rfl
  · have S := sc_law
    refine ⟨_, PSs.nox (pss_cons (ps_set (i := 1) S.nd rfl (by first | exact .inl rfl | exact .inr rfl) (pe_lst (pa_cons pe_int (pa_cons pe_int pa_nil))))
    (pss_cons (ps_set (i := 2) S.nd rfl (by first | exact .inl rfl | exact .inr rfl) (pe_c c_law_text hr (by decide) (by rfl) (pa_cons (pv 1) (pa_cons (pv 0) pa_nil))))
    (pss_cons (ps_set (i := 3) S.nd rfl (by first | exact .inl rfl | exact .inr rfl) (pe_c c_law_due hr (by decide) (by rfl) (pa_cons (pv 2) pa_nil)))
    (pss_cons (ps_set (i := 4) S.nd rfl (by first | exact .inl rfl | exact .inr rfl) (pe_c c_law_told_of hr (by decide) (by rfl) (pa_cons (pv 2) pa_nil)))
    (pss_cons (ps_if (pt_val (pe_callB call_isi (by rfl) T.f_isinstance (by first | rfl | decide +kernel) (pa_cons (pv 3) (pa_cons (pe_bltn (v := .ty "int") (by rfl) T.f_int (by first | rfl | decide +kernel) rfl) pa_nil))))
    (pss_one (ps_ret (pe_and (pe_callB call_isi (by rfl) T.f_isinstance (by first | rfl | decide +kernel) (pa_cons (pv 4) (pa_cons (pe_bltn (v := .ty "int") (by rfl) T.f_int (by first | rfl | decide +kernel) rfl) pa_nil))) (pe_and (pe_not (pe_callB call_isi (by rfl) T.f_isinstance (by first | rfl | decide +kernel) (pa_cons (pv 4) (pa_cons (pe_bltn (v := .ty "bool") (by rfl) T.f_bool (by first | rfl | decide +kernel) rfl) pa_nil)))) (pe_one (pe_cmpR op_eq (pv 4) (pv 3) (nomark _)))))))
    pss_nil)
    (pss_cons (ps_if (pt_not (pt_val (pe_c c_law_same hr (by decide) (by rfl) (pa_cons (pv 4) (pa_cons (pv 3) pa_nil)))))
    (pss_one (ps_ret pe_bl))
    pss_nil)
    (pss_one (ps_ret (pe_and (pe_c c_law_same hr (by decide) (by rfl) (pa_cons (pe_cA c_parse_patterns hr (by decide) (by rfl) (pa_cons (pe_c c_format_patterns hr (by decide) (by rfl) (pa_cons (pv 4) pa_nil)) pa_nil)) (pa_cons (pv 3) pa_nil))) (pe_one (pe_c c_law_same hr (by decide) (by rfl) (pa_cons (pe_c c_law_told_of hr (by decide) (by rfl) (pa_cons (pv 2) pa_nil)) (pa_cons (pv 3) pa_nil))))))))))))), ?_⟩
    try dsimp only [cxOf, Cx.nox]
    obtain ⟨_, rfl, sa, ns, rfl, hS, hlen, k⟩ := h
    walk_at "go"
    rename_i p hp
    have d0 : Dr K p sa ns (upd H p (.lst [.int 0, .int 0])) := Dr.start hS hp hlen
    refine ⟨_, _, rfl, p, sa, ns, rfl, rfl, d0, fun z H1 hz k1 d1 => ?_⟩
    clear d0 k1
    walk_at "go"
    refine ⟨_, rfl, z, rfl, hz, fun rows r xs H2 hr s2 hr2 hR => ?_, fun i H2 hr s2 => ?_⟩
    rotate_left
    · walk_at "go"
      refine ⟨_, rfl, z, rfl, Nat.le_trans hz (by decide), fun rows r xs H3 hr3 s3 hr2 hR => ?_, fun i3 H3 hr3 s3 => ?_⟩
      · rw [hr] at hr3; cases hr3
      rw [hr] at hr3
      cases hr3
      walk_at "go"
      rw [decide_eq_true rfl]
      exact k _
    have hg := rdLines_good _ 0 [] rows (fun r h => (nomatch h)) (by decide) hr
    walk_at "go"
    refine ⟨_, rfl, z, rfl, Nat.le_trans hz (by decide), fun rows' p' qs H3 hr3 s3 hr4 hP => ?_, fun i3 H3 hr3 s3 => ?_⟩
    rotate_left
    · rw [hr] at hr3; cases hr3
    rw [hr] at hr3
    cases hr3
    have hRr := hR.same s3
    walk_at "go"
    refine isi_li (s3 _ _ hr2) ?_
    walk_at "go"
    have hP2 : Paired (fun q (r : RowP) => PatA K H3 q r.1 r.2) qs (rows.map rp) := Pats.rows (by rw [rqs_rp]; exact hP)
    have hg1 : ∀ r ∈ rows.map rp, GoodR r.1 := fun r hr => by
      obtain ⟨x, hx, rfl⟩ := List.mem_map.mp hr
      exact hg.1 x hx
    have hrl : (rows.map rp).length ≤ 20 := by rw [List.length_map]; exact hg.2
    have hlen2 : ∀ r ∈ rows.map rp, r.1.length ≤ 40 ∧ ∀ c ∈ r.1, c.1.length ≤ 100 := fun r hr => ⟨(hg1 r hr).le, good_len (hg1 r hr)⟩
    refine ⟨_, _, rfl, p', r, qs, xs, rows.map rp, rfl, rfl, hr4, s3 _ _ hr2, hP2, hRr, hrl, fun H4 s4 => ?_⟩
    walk_at "go"
    have hr4' := s4 _ _ hr4
    have hP4 := prd_imp (fun {q} {r : RowP} (h : PatA K H3 q r.1 r.2) => h.same s4) hP2
    have hr24 := s4 _ _ (s3 _ _ hr2)
    have hR4 := hRr.same s4
    clear hP hP2 hRr hr4 hR hr2
    refine ⟨_, rfl, p', qs, rows.map rp, rfl, SqL.of hr4', hP4, hrl, hlen2, fun H5 s5 => ?_⟩
    have hfl : (fmtAll (rows.map rp)).length ≤ 300000 := by
      rw [fmtAll_join]
      have := szfmt hg1
      exact Nat.le_trans (join_sz _) (by omega)
    walk_at "go"
    have hrd := rd_fmtAll hg1 hrl
    rw [rqs_rp] at hrd
    refine ⟨_, rfl, tx (fmtAll (rows.map rp)), rfl, by rw [tx_len]; omega, fun rows' p2 qs2 H6 hr6 s6 hp2 hq2 hP6 => ?_, fun i d H9 hr6 s9 hd => ?_⟩
    rotate_left
    · rw [cp_tx, hrd] at hr6
      cases hr6
    rw [cp_tx, hrd] at hr6
    cases hr6
    have hP7 : Paired (fun q (r : RowP) => PatA K H6 q r.1 r.2) qs2 (rows.map rp) := Pats.rows (by rw [rqs_rp]; exact hP6)
    have hr26 := s6 _ _ (s5 _ _ hr24)
    have hR6 := (hR4.same s5).same s6
    clear hP4 hr24 hR4 hP6
    walk_at "go"
    refine ⟨_, _, rfl, p2, r, qs2, xs, rows.map rp, rfl, rfl, hq2, hr26, hP7, hR6, hrl, fun H7 s7 => ?_⟩
    have hr27 := s7 _ _ hr26
    have hR7 := hR6.same s7
    clear hP7 hR6 hr26 hq2
    walk_at "go"
    refine ⟨_, rfl, z, rfl, Nat.le_trans hz (by decide), fun rows' p3 qs3 H8 hr8 s8 hq8 hP8 => ?_, fun i3 H8 hr8 s8 => ?_⟩
    rotate_left
    · rw [hr] at hr8; cases hr8
    rw [hr] at hr8
    cases hr8
    have hP9 : Paired (fun q (r : RowP) => PatA K H8 q r.1 r.2) qs3 (rows.map rp) := Pats.rows (by rw [rqs_rp]; exact hP8)
    walk_at "go"
    refine ⟨_, _, rfl, p3, r, qs3, xs, rows.map rp, rfl, rfl, hq8, s8 _ _ hr27, hP9, hR7.same s8, hrl, fun H9 s9 => ?_⟩
    exact k _
end
theorem facts {P : Program} {w : World} {K : PySem.W.Frag} {h : Heap} {mg : Str → Option Value} {f : Addr} (X : K.In h) (G : h.Ns mainGlobals mg) (hfa : mg ("law" : Str) = some (.ref f)) (cc : SaysX fa fn ex K) :
    ∃ fd : FuncData, (∀ (s : Shared) (v : Value), BindsTo s fd ⟨[v], []⟩ [("script", v)]) ∧ ∀ base : Heap, K.In base → base.Ns mainGlobals mg → FnOk P w K mg base CX0 9 f fd ["script"] (sp_law K) := by
  have c : He.SaysD fa fn K := cc.1
  have k_CHARACTERS : ∃ u, mg "CHARACTERS" = some u ∧ RelV (.str "-./0123456789ABCDEFGHIJKLMNOPQRSTUVWXYZ_abcdefghijklmnopqrstuvwxyz~") u := by
    obtain ⟨t, e⟩ := He.str_ok X G (c.fact 33 (f := .str "CHARACTERS" "-./0123456789ABCDEFGHIJKLMNOPQRSTUVWXYZ_abcdefghijklmnopqrstuvwxyz~") rfl)
    exact ⟨_, e, t, rfl⟩
  have k_MOST_ATOMS : ∃ u, mg "MOST_ATOMS" = some u ∧ RelV (.int 40) u := by
    obtain ⟨t, e⟩ := He.int_ok X G (c.fact 34 (f := .int "MOST_ATOMS" 40) rfl)
    exact ⟨_, e, t, rfl⟩
  have k_MOST_PATTERNS : ∃ u, mg "MOST_PATTERNS" = some u ∧ RelV (.int 20) u := by
    obtain ⟨t, e⟩ := He.int_ok X G (c.fact 35 (f := .int "MOST_PATTERNS" 20) rfl)
    exact ⟨_, e, t, rfl⟩
  have k_NO_SLASH : ∃ u, mg "NO_SLASH" = some u ∧ RelV (.str "-.0123456789ABCDEFGHIJKLMNOPQRSTUVWXYZ_abcdefghijklmnopqrstuvwxyz~") u := by
    obtain ⟨t, e⟩ := He.str_ok X G (c.fact 36 (f := .str "NO_SLASH" "-.0123456789ABCDEFGHIJKLMNOPQRSTUVWXYZ_abcdefghijklmnopqrstuvwxyz~") rfl)
    exact ⟨_, e, t, rfl⟩
  have k__LEAST_RUN : ∃ u, mg "_LEAST_RUN" = some u ∧ RelV (.int 3) u := by
    obtain ⟨t, e⟩ := He.int_ok X G (c.fact 37 (f := .int "_LEAST_RUN" 3) rfl)
    exact ⟨_, e, t, rfl⟩
  have k__MOST_LISTED : ∃ u, mg "_MOST_LISTED" = some u ∧ RelV (.int 33) u := by
    obtain ⟨t, e⟩ := He.int_ok X G (c.fact 38 (f := .int "_MOST_LISTED" 33) rfl)
    exact ⟨_, e, t, rfl⟩
  obtain ⟨fi_InvalidPattern, Fi_InvalidPattern⟩ := c.def_ 23 (d := d_init_FolderkinError) rfl
  have er_InvalidPattern : ErrAll K mg "InvalidPattern" "FolderkinError" := errAll_ok X G (c.fact 22 (f := .glo "InvalidPattern") rfl) (c.fact 23 (f := .glo "FolderkinError") rfl) (cc.more 0 rfl) (by exact Fi_InvalidPattern)
  have T : Txt K mg := ⟨He.free_ok X G (c.fact 25 (f := .free "ValueError") rfl), He.free_ok X G (c.fact 26 (f := .free "bool") rfl), He.free_ok X G (c.fact 27 (f := .free "int") rfl), He.free_ok X G (c.fact 28 (f := .free "isinstance") rfl), He.free_ok X G (c.fact 29 (f := .free "len") rfl), He.free_ok X G (c.fact 30 (f := .free "list") rfl), He.free_ok X G (c.fact 31 (f := .free "range") rfl), He.free_ok X G (c.fact 32 (f := .free "tuple") rfl), k_CHARACTERS, k_MOST_ATOMS, k_MOST_PATTERNS, k_NO_SLASH, k__LEAST_RUN, k__MOST_LISTED, er_InvalidPattern, He.cls_ok (c.fact 39 (f := .cls "Pattern") rfl), He.glo_ok X G (c.fact 24 (f := .glo "Pattern") rfl), He.noat_ok (c.fact 40 (f := .noat "Pattern" "atoms") rfl), He.noat_ok (c.fact 41 (f := .noat "Pattern" "negated") rfl), clsB_ok (cc.more 1 rfl)⟩
  obtain ⟨fd_Pattern___init__, F_Pattern___init__⟩ := c.def_ 0 (d := d_Pattern___init__) rfl
  have M_Pattern := He.mkr_ok (c.fact 42 (f := .mkr "Pattern") rfl)
  have c_Pattern : ∀ base : Heap, C8.Mak P w K mg base 1 "Pattern" (He.ga K "Pattern") (sp_Pattern___init__ K) [] := fun base => by
    obtain ⟨ds, hv, hb⟩ := FunD.binds1 (ps := ["self", "atoms", "negated"]) F_Pattern___init__ 3 1 (fun e => nomatch e) rfl (fun T kV doc pm an cdv ct us its h1 h2 => match us, its, h1, h2 with | [_, _, _], [_], _, _ => ⟨_, rfl, by first | with_unfolding_all rfl | kernel_rfl⟩)
    exact ⟨_, _, _, ds, M_Pattern, ok_Pattern___init__ T  F_Pattern___init__, He.glo_ok X G (c.fact 24 (f := .glo "Pattern") rfl), hb, hv⟩
  have cd_Pattern : ∀ base : Heap, C8.Mak P w K mg base 1 "Pattern" (He.ga K "Pattern") (sp_Pattern___init__ K) [.bl false] := fun base => by
    obtain ⟨ds, hv, hb⟩ := FunD.binds1 (ps := ["self", "atoms", "negated"]) F_Pattern___init__ 2 0 (fun e => nomatch e) rfl (fun T kV doc pm an cdv ct us its h1 h2 => match us, its, h1, h2 with | [_, _], [_], _, _ => ⟨_, rfl, by first | with_unfolding_all rfl | kernel_rfl⟩)
    exact ⟨_, _, _, ds, M_Pattern, ok_Pattern___init__ T  F_Pattern___init__, He.glo_ok X G (c.fact 24 (f := .glo "Pattern") rfl), hb, hv⟩
  obtain ⟨fd_format_run, F_format_run⟩ := c.def_ 5 (d := d_format_run) rfl
  have c_format_run : ∀ base : Heap, Cal P w K mg base 1 "_format_run" (sp_format_run K) := fun base => ⟨_, _, ["run"], ok_format_run T  F_format_run, He.glo_ok X G (c.fact 4 (f := .glo "_format_run") rfl), F_format_run.kp, FunD.bindsN F_format_run fun _ _ _ _ _ _ us hl => match us, hl with | [_], _ => rfl⟩
  obtain ⟨fd_is_item, F_is_item⟩ := c.def_ 11 (d := d_is_item) rfl
  have c_is_item : ∀ base : Heap, Cal P w K mg base 1 "_is_item" (sp_is_item K) := fun base => ⟨_, _, ["char"], ok_is_item T  F_is_item, He.glo_ok X G (c.fact 10 (f := .glo "_is_item") rfl), F_is_item.kp, FunD.bindsN F_is_item fun _ _ _ _ _ _ us hl => match us, hl with | [_], _ => rfl⟩
  obtain ⟨fd_law_draw, F_law_draw⟩ := c.def_ 12 (d := d_law_draw) rfl
  have c_law_draw : ∀ base : Heap, Cal P w K mg base 1 "_law_draw" (spDraw K) := fun base => ⟨_, _, ["state", "script", "size"], ok_law_draw T  F_law_draw, He.glo_ok X G (c.fact 11 (f := .glo "_law_draw") rfl), F_law_draw.kp, FunD.bindsN F_law_draw fun _ _ _ _ _ _ us hl => match us, hl with | [_, _, _], _ => rfl⟩
  obtain ⟨fd_law_all, F_law_all⟩ := c.def_ 13 (d := d_law_all) rfl
  have c_law_all : ∀ base : Heap, Cal P w K mg base 1 "_law_all" (sp_law_all K) := fun base => ⟨_, _, [], ok_law_all T  F_law_all, He.glo_ok X G (c.fact 12 (f := .glo "_law_all") rfl), F_law_all.kp, FunD.bindsN F_law_all fun _ _ _ _ _ _ us hl => match us, hl with | [], _ => rfl⟩
  obtain ⟨fd_law_told, F_law_told⟩ := c.def_ 14 (d := d_law_told) rfl
  have c_law_told : ∀ base : Heap, Cal P w K mg base 1 "_law_told" (sp_law_told K) := fun base => ⟨_, _, ["actual", "due"], ok_law_told T  F_law_told, He.glo_ok X G (c.fact 13 (f := .glo "_law_told") rfl), F_law_told.kp, FunD.bindsN F_law_told fun _ _ _ _ _ _ us hl => match us, hl with | [_, _], _ => rfl⟩
  obtain ⟨fd_format_items, F_format_items⟩ := c.def_ 4 (d := d_format_items) rfl
  have c_format_items : ∀ base : Heap, Cal P w K mg base 2 "_format_items" (sp_format_items K) := fun base => ⟨_, _, ["chars"], ok_format_items T (c_format_run base) F_format_items, He.glo_ok X G (c.fact 3 (f := .glo "_format_items") rfl), F_format_items.kp, FunD.bindsN F_format_items fun _ _ _ _ _ _ us hl => match us, hl with | [_], _ => rfl⟩
  obtain ⟨fd_law_same, F_law_same⟩ := c.def_ 15 (d := d_law_same) rfl
  have c_law_same : ∀ base : Heap, Cal P w K mg base 2 "_law_same" (sp_law_same K) := fun base => ⟨_, _, ["patterns", "rows"], ok_law_same T (c_law_told base) F_law_same, He.glo_ok X G (c.fact 14 (f := .glo "_law_same") rfl), F_law_same.kp, FunD.bindsN F_law_same fun _ _ _ _ _ _ us hl => match us, hl with | [_, _], _ => rfl⟩
  obtain ⟨fd_law_set, F_law_set⟩ := c.def_ 16 (d := d_law_set) rfl
  have c_law_set : ∀ base : Heap, Cal P w K mg base 2 "_law_set" (sp_law_set K) := fun base => ⟨_, _, ["line", "start"], ok_law_set T (c_law_all base) F_law_set, He.glo_ok X G (c.fact 15 (f := .glo "_law_set") rfl), F_law_set.kp, FunD.bindsN F_law_set fun _ _ _ _ _ _ us hl => match us, hl with | [_, _], _ => rfl⟩
  obtain ⟨fd_law_text, F_law_text⟩ := c.def_ 20 (d := d_law_text) rfl
  have c_law_text : ∀ base : Heap, Cal P w K mg base 2 "_law_text" (sp_law_text K) := fun base => ⟨_, _, ["state", "script"], ok_law_text T (c_law_draw base) F_law_text, He.glo_ok X G (c.fact 19 (f := .glo "_law_text") rfl), F_law_text.kp, FunD.bindsN F_law_text fun _ _ _ _ _ _ us hl => match us, hl with | [_, _], _ => rfl⟩
  obtain ⟨fd_format_atom, F_format_atom⟩ := c.def_ 3 (d := d_format_atom) rfl
  have c_format_atom : ∀ base : Heap, Cal P w K mg base 3 "_format_atom" (sp_format_atom K) := fun base => ⟨_, _, ["chars", "repeats"], ok_format_atom T (c_format_items base) F_format_atom, He.glo_ok X G (c.fact 2 (f := .glo "_format_atom") rfl), F_format_atom.kp, FunD.bindsN F_format_atom fun _ _ _ _ _ _ us hl => match us, hl with | [_, _], _ => rfl⟩
  obtain ⟨fd_read_items, F_read_items⟩ := c.def_ 10 (d := d_read_items) rfl
  have c_read_items : ∀ base : Heap, CalX P w K mg base 3 "_read_items" (sp_read_items K) := fun base => ⟨_, _, ["text", "at", "close"], ok_read_items T (c_is_item base) F_read_items, He.glo_ok X G (c.fact 9 (f := .glo "_read_items") rfl), F_read_items.kp, FunD.bindsN F_read_items fun _ _ _ _ _ _ us hl => match us, hl with | [_, _, _], _ => rfl⟩
  obtain ⟨fd_law_read, F_law_read⟩ := c.def_ 17 (d := d_law_read) rfl
  have c_law_read : ∀ base : Heap, Cal P w K mg base 3 "_law_read" (sp_law_read K) := fun base => ⟨_, _, ["line", "at"], ok_law_read T (c_law_all base) (c_law_set base) F_law_read, He.glo_ok X G (c.fact 16 (f := .glo "_law_read") rfl), F_law_read.kp, FunD.bindsN F_law_read fun _ _ _ _ _ _ us hl => match us, hl with | [_, _], _ => rfl⟩
  obtain ⟨fd_format_pattern, F_format_pattern⟩ := c.def_ 2 (d := d_format_pattern) rfl
  have c_format_pattern : ∀ base : Heap, Cal P w K mg base 4 "_format_pattern" (sp_format_pattern K) := fun base => ⟨_, _, ["pattern"], ok_format_pattern T (c_format_atom base) F_format_pattern, He.glo_ok X G (c.fact 1 (f := .glo "_format_pattern") rfl), F_format_pattern.kp, FunD.bindsN F_format_pattern fun _ _ _ _ _ _ us hl => match us, hl with | [_], _ => rfl⟩
  obtain ⟨fd_read_set, F_read_set⟩ := c.def_ 9 (d := d_read_set) rfl
  have c_read_set : ∀ base : Heap, CalX P w K mg base 4 "_read_set" (sp_read_set K) := fun base => ⟨_, _, ["text", "at", "end"], ok_read_set T (c_read_items base) F_read_set, He.glo_ok X G (c.fact 8 (f := .glo "_read_set") rfl), F_read_set.kp, FunD.bindsN F_read_set fun _ _ _ _ _ _ us hl => match us, hl with | [_, _, _], _ => rfl⟩
  obtain ⟨fd_law_line, F_law_line⟩ := c.def_ 18 (d := d_law_line) rfl
  have c_law_line : ∀ base : Heap, Cal P w K mg base 4 "_law_line" (sp_law_line K) := fun base => ⟨_, _, ["line"], ok_law_line T (c_law_read base) F_law_line, He.glo_ok X G (c.fact 17 (f := .glo "_law_line") rfl), F_law_line.kp, FunD.bindsN F_law_line fun _ _ _ _ _ _ us hl => match us, hl with | [_], _ => rfl⟩
  obtain ⟨fd_format_patterns, F_format_patterns⟩ := c.def_ 1 (d := d_format_patterns) rfl
  have c_format_patterns : ∀ base : Heap, Cal P w K mg base 5 "format_patterns" (sp_format_patterns K) := fun base => ⟨_, _, ["patterns"], ok_format_patterns T (c_format_pattern base) F_format_patterns, He.glo_ok X G (c.fact 0 (f := .glo "format_patterns") rfl), F_format_patterns.kp, FunD.bindsN F_format_patterns fun _ _ _ _ _ _ us hl => match us, hl with | [_], _ => rfl⟩
  obtain ⟨fd_read_atom, F_read_atom⟩ := c.def_ 8 (d := d_read_atom) rfl
  have c_read_atom : ∀ base : Heap, CalX P w K mg base 5 "_read_atom" (sp_read_atom K) := fun base => ⟨_, _, ["text", "at", "end"], ok_read_atom T (c_read_set base) F_read_atom, He.glo_ok X G (c.fact 7 (f := .glo "_read_atom") rfl), F_read_atom.kp, FunD.bindsN F_read_atom fun _ _ _ _ _ _ us hl => match us, hl with | [_, _, _], _ => rfl⟩
  obtain ⟨fd_law_due, F_law_due⟩ := c.def_ 19 (d := d_law_due) rfl
  have c_law_due : ∀ base : Heap, Cal P w K mg base 5 "_law_due" (sp_law_due K) := fun base => ⟨_, _, ["text"], ok_law_due T (c_law_line base) F_law_due, He.glo_ok X G (c.fact 18 (f := .glo "_law_due") rfl), F_law_due.kp, FunD.bindsN F_law_due fun _ _ _ _ _ _ us hl => match us, hl with | [_], _ => rfl⟩
  obtain ⟨fd_read_pattern, F_read_pattern⟩ := c.def_ 7 (d := d_read_pattern) rfl
  have c_read_pattern : ∀ base : Heap, CalX P w K mg base 6 "_read_pattern" (sp_read_pattern K) := fun base => ⟨_, _, ["text", "at", "end"], ok_read_pattern T (c_Pattern base) (cd_Pattern base) (c_read_atom base) F_read_pattern, He.glo_ok X G (c.fact 6 (f := .glo "_read_pattern") rfl), F_read_pattern.kp, FunD.bindsN F_read_pattern fun _ _ _ _ _ _ us hl => match us, hl with | [_, _, _], _ => rfl⟩
  obtain ⟨fd_parse_patterns, F_parse_patterns⟩ := c.def_ 6 (d := d_parse_patterns) rfl
  have c_parse_patterns : ∀ base : Heap, CalX P w K mg base 7 "parse_patterns" (sp_parse_patterns K) := fun base => ⟨_, _, ["text"], ok_parse_patterns T (c_read_pattern base) F_parse_patterns, He.glo_ok X G (c.fact 5 (f := .glo "parse_patterns") rfl), F_parse_patterns.kp, FunD.bindsN F_parse_patterns fun _ _ _ _ _ _ us hl => match us, hl with | [_], _ => rfl⟩
  obtain ⟨fd_law_told_of, F_law_told_of⟩ := c.def_ 21 (d := d_law_told_of) rfl
  have c_law_told_of : ∀ base : Heap, Cal P w K mg base 8 "_law_told_of" (sp_law_told_of K) := fun base => ⟨_, _, ["text"], ok_law_told_of T (c_parse_patterns base) F_law_told_of, He.glo_ok X G (c.fact 20 (f := .glo "_law_told_of") rfl), F_law_told_of.kp, FunD.bindsN F_law_told_of fun _ _ _ _ _ _ us hl => match us, hl with | [_], _ => rfl⟩
  obtain ⟨fd_law, F_law⟩ := c.def_ 22 (d := d_law) rfl
  have e := hfa.symm.trans (He.glo_ok X G (c.fact 21 (f := .glo "law") rfl))
  cases e
  have b := FunD.bindsA (ps := ["script"]) F_law fun _ _ _ _ _ _ us hl => match us, hl with | [_], _ => rfl
  exact ⟨fd_law, fun s v => b s [v] rfl, fun base _ _ => ok_law T (c_law_text base) (c_law_due base) (c_law_told_of base) (c_law_same base) (c_parse_patterns base) (c_format_patterns base) F_law⟩
end Vk42
set_option maxHeartbeats 0
open PySem PySem.W PySem.Calls PyProof.Rows
theorem PySem.Challenge.cw_folderkin_k42_any_text_as_patterns_holds : PySem.Challenge.rw_folderkin_k42_any_text_as_patterns.Holds := by
  w_on; o_law
  refine HandSHeadRun.head_any (r := OpenLaw.row PySem.Challenge.rw_folderkin_k42_any_text_as_patterns) (q := view (OpenLaw.row PySem.Challenge.rw_folderkin_k42_any_text_as_patterns).prog [33]) (H := Vk42.hk) (ob := Vk42.ob) (M := 8000) (loose := [PySem.Str.ofString "FolderkinError", PySem.Str.ofString "InvalidPattern", PySem.Str.ofString "CHARACTERS", PySem.Str.ofString "NO_SLASH", PySem.Str.ofString "MOST_PATTERNS", PySem.Str.ofString "MOST_ATOMS", PySem.Str.ofString "_MOST_LISTED", PySem.Str.ofString "_LEAST_RUN", PySem.Str.ofString "Pattern", PySem.Str.ofString "format_patterns", PySem.Str.ofString "_format_pattern", PySem.Str.ofString "_format_atom", PySem.Str.ofString "_format_items", PySem.Str.ofString "_format_run", PySem.Str.ofString "parse_patterns", PySem.Str.ofString "_read_pattern", PySem.Str.ofString "_read_atom", PySem.Str.ofString "_read_set", PySem.Str.ofString "_read_items", PySem.Str.ofString "_is_item", PySem.Str.ofString "_law_draw", PySem.Str.ofString "_law_all", PySem.Str.ofString "_law_told", PySem.Str.ofString "_law_same", PySem.Str.ofString "_law_set", PySem.Str.ofString "_law_read", PySem.Str.ofString "_law_line", PySem.Str.ofString "_law_due", PySem.Str.ofString "_law_text", PySem.Str.ofString "_law_told_of"]) (d := HandSHeadRun.topDef (OpenLaw.row PySem.Challenge.rw_folderkin_k42_any_text_as_patterns).prog 33) (kwd := []) Vk42.ob_eq
    (by kernel_rfl) (fun s => by kernel_rfl) Vk42.run (by kernel_rfl) (by kernel_rfl) (by kernel_rfl) (by rfl) (by first | assumption | decide +kernel) (by decide +kernel) ⟨rfl, rfl, rfl, rfl, rfl, by decide +kernel⟩ ?hw ?hc
  case hw => w_witness2
  case hc =>
    refine L2.walk_ofE (l := PySem.Challenge.rw_folderkin_k42_any_text_as_patterns) (n := 63) (k := 9) (x := "script") (CX := L2.CX0) rfl (by decide) (by kernel_rfl) ⟨rfl, by decide, by decide⟩ ?F (fun _ _ _ _ z => z)
    intro w mg fa h Y G hmg0
    obtain ⟨K, KX, c⟩ := Y
    have hmg : mg ("law" : PySem.Str) = some (.ref fa) := by
      have e : (HandSHeadRun.topDef (OpenLaw.row PySem.Challenge.rw_folderkin_k42_any_text_as_patterns).prog 33).name = ("law" : PySem.Str) := by kernel_rfl
      rw [← e]
      exact hmg0
    obtain ⟨fd, hb, hF⟩ := Vk42.facts (P := (PySem.Challenge.rw_folderkin_k42_any_text_as_patterns).prog) (w := w) KX G hmg c
    exact ⟨K, fd, Vk42.sp_law K, KX, hb, fun H a ns hl _ hS => ⟨_, rfl, a, ns, rfl, hS, hl, fun _ => rfl⟩, hF⟩
