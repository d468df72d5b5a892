import PyProof.Rows.All
import Wide.All
import OpenK.AllK
import Wide.FinOn
import KE.KStateDown
import HandS.ForMost
import HandS.Codes
import HandS.Defaults
import HandS.Flow
import HandS.Walk
import HandS.Wide
import HandS.IsInst
import HandS.Iter
import KE.GoesMore
import KE.GoesEnum
import KE.LtData
import KE.DataCmp
import HandS.WideBits
import HandS.RevRange
import HandS.TupLe
import HandS.TupAny
import HandS.Style
import HandS.Dict
import HandS.More
import KE.KDictPairs
import KE.OsGo
import HandS.ForSpec
import HandS.ExcIs
import KE.KExcIs
import HandS.Head0
import HandS.Head1
import HandS.Head2
import HandS.HeadEnd
import HandS.HeadHook1
import HandS.HeadHook2
import HandS.OwnEq
import HandS.MakeKw
import KE.DataEq
import HandS.DictTup
import HandS.Deep
import KE.KDictWalk
import HandS.Gcd
import HandS.Text
import HandS.StrMore
import HandS.SortKw
import KE.DataMinKey
import HandS.FStr
import PyProof.NeKinds
import HandS.DictComp
import HandS.SetKeys
import KE.KEqDict
import HandS.SetFor
import HandS.Strs
import KE.DataFind
import HandS.Zip
import KE.KDictZip
import PyProof.InstNe
import HandS.HotCalls
import KE.GoesRaise
import HandS.CallSlots
import HandS.TryOnly
import Lean
import PySem.Challenge.RW_folderkin_k26_whole_pulls
set_option Elab.async false
set_option linter.all false
set_option maxRecDepth 100000
set_option maxHeartbeats 4000000
namespace Vf
open PySem L2 PySem.Spec PyProof.Rows

/-- what is left of a loop, of a comprehension, behind what it walks -/
def ForB (J : It) (g : TG) (t : TS) (D : Ends) (σ : L2.St) (H1 : Hp) : Prop := ∃ W : Nat → Nat → L2.St → Hp → Prop, (∃ m, W 0 m σ H1) ∧ ∀ i m σ H, W i m σ H →
  (J.stop i H ∧ D.nx σ H) ∨ (J.go i H ∧ ∃ N : L2.St → Hp → Prop, (∀ σ' H', N σ' H' → ∃ m', m' < m ∧ W (i + 1) m' σ' H') ∧ ∀ x H', J.yld i H x H' → g x σ H' fun σ2 H2 => t { D with nx := N, ct := N, bk := D.nx } σ2 H2)
def LcB (J : It) (g : TG) (tt : TT) (te : TE) (vs : List Nat) (σ : L2.St) (D : Addr) (H1 : Hp) (Q : VK) : Prop := ∃ W : Nat → Nat → Hp → Prop, (∃ m, W 0 m (upd H1 D (.lst []))) ∧ ∀ i m H, W i m H →
  (J.stop i H ∧ Q (.ref D) H) ∨ (J.go i H ∧
    ∃ Nx : Hp → Prop, (∀ H', Nx H' → ∃ m', m' < m ∧ W (i + 1) m' H') ∧
    ∀ x H', J.yld i H x H' → g x (wipe σ vs) H' fun σ2 H2 => wipe σ2 vs = wipe σ vs ∧ tt σ2 H2 fun b H3 =>
    if b = true then te σ2 H3 fun y H4 => 
      ∃ acc, H4 D = some (.lst acc) ∧ acc.length < sizeLine ∧
      Nx (upd H4 D (.lst (acc ++ [y]))) else Nx H3)
section
variable {K : PySem.W.Frag} {g : TG} {t : TS} {D : Ends} {σ : L2.St} {H : Hp} {tt : TT} {te : TE} {vs : List Nat} {Q : VK} {Da : Addr}
/-- for c in z, a text: Pv by the signs gone -/
theorem for_str {z : Str} (Pv : List Nat → L2.St → Hp → Prop) (h0 : Pv [] σ H)
    (hs : ∀ (pre : List Nat) (c : Nat) (post : List Nat) σ H, z.cps.toList = pre ++ c :: post → Pv pre σ H → g (.str ⟨#[c]⟩) σ H fun σ2 H2 => t { D with nx := Pv (pre ++ [c]), ct := Pv (pre ++ [c]), bk := D.nx } σ2 H2)
    (hd : ∀ σ H, Pv z.cps.toList σ H → D.nx σ H) : ForB (Its z) g t D σ H := by
  refine for_it walk_str (fun i => Pv (z.cps.toList.take i)) (by simpa using h0) (fun _ _ _ _ _ => trivial) (fun i x σ H H' hi p y => ?_) (fun σ H p => ?_)
  · obtain ⟨e, c, hc, hx⟩ := y
    subst e hx
    have hc' : z.cps.toList[i]? = some c := by simpa using hc
    have hi' : i < z.cps.toList.length := by simpa using hi
    have e1 : z.cps.toList = z.cps.toList.take i ++ c :: z.cps.toList.drop (i + 1) := by
      have e2 := (List.getElem?_eq_some_iff.mp hc').2
      rw [← e2, List.getElem_cons_drop, List.take_append_drop]
    have e3 : z.cps.toList.take (i + 1) = z.cps.toList.take i ++ [c] := by
      rw [List.take_add_one, hc']; rfl
    rw [e3]
    exact hs _ c _ σ _ e1 p
  · refine hd σ H ?_
    have e : z.cps.toList.take z.cps.size = z.cps.toList := List.take_of_length_le (by simp)
    rw [← e]
    exact p
theorem lc_str {z : Str} (Pv : List Nat → Hp → Prop) (h0 : Pv [] (upd H Da (.lst [])))
    (hs : ∀ (pre : List Nat) (c : Nat) (post : List Nat) H, z.cps.toList = pre ++ c :: post → Pv pre H → g (.str ⟨#[c]⟩) (wipe σ vs) H fun σ2 H2 => wipe σ2 vs = wipe σ vs ∧ tt σ2 H2 fun b H3 =>
      if b = true then te σ2 H3 fun y H4 => ∃ acc, H4 Da = some (.lst acc) ∧ acc.length < sizeLine ∧ Pv (pre ++ [c]) (upd H4 Da (.lst (acc ++ [y]))) else Pv (pre ++ [c]) H3)
    (hd : ∀ H, Pv z.cps.toList H → Q (.ref Da) H) : LcB (Its z) g tt te vs σ Da H Q := by
  refine lc_it walk_str (fun i => Pv (z.cps.toList.take i)) (by simpa using h0) (fun _ _ _ _ => trivial) (fun i x H H' hi p y => ?_) (fun H p => ?_)
  · obtain ⟨e, c, hc, hx⟩ := y
    subst e hx
    have hc' : z.cps.toList[i]? = some c := by simpa using hc
    have e1 : z.cps.toList = z.cps.toList.take i ++ c :: z.cps.toList.drop (i + 1) := by
      have e2 := (List.getElem?_eq_some_iff.mp hc').2
      rw [← e2, List.getElem_cons_drop, List.take_append_drop]
    have e3 : z.cps.toList.take (i + 1) = z.cps.toList.take i ++ [c] := by
      rw [List.take_add_one, hc']; rfl
    rw [e3]
    exact hs _ c _ _ e1 p
  · refine hd H ?_
    have e : z.cps.toList.take z.cps.size = z.cps.toList := List.take_of_length_le (by simp)
    rw [← e]
    exact p
theorem for_rng {lo : Int} {n : Nat} (Pv : Nat → L2.St → Hp → Prop) (h0 : Pv 0 σ H)
    (hs : ∀ i σ H, i < n → Pv i σ H → g (.int (lo + i)) σ H fun σ2 H2 => t { D with nx := Pv (i + 1), ct := Pv (i + 1), bk := D.nx } σ2 H2) (hd : ∀ σ H, Pv n σ H → D.nx σ H) : ForB (Itr lo n) g t D σ H := for_range Pv h0 hs hd
theorem lc_rng {lo : Int} {n : Nat} (Pv : Nat → Hp → Prop) (h0 : Pv 0 (upd H Da (.lst [])))
    (hs : ∀ i H, i < n → Pv i H → g (.int (lo + i)) (wipe σ vs) H 
      fun σ2 H2 => wipe σ2 vs = wipe σ vs ∧ tt σ2 H2 fun b H3 =>
      if b = true then te σ2 H3 fun y H4 => ∃ acc, H4 Da = some (.lst acc) ∧ acc.length < sizeLine ∧ Pv (i + 1) (upd H4 Da (.lst (acc ++ [y]))) else Pv (i + 1) H3) (hd : ∀ H, Pv n H → Q (.ref Da) H) :
    LcB (Itr lo n) g tt te vs σ Da H Q := lc_range Pv h0 hs hd
/-- for x in xs, a list: Pv by what was taken -/
theorem for_lst {a : Addr} {xs : List V} (Pv : List V → L2.St → Hp → Prop) (h0 : Pv [] σ H) (hl : ∀ pre σ H, Pv pre σ H → SqL K H a xs)
    (hs : ∀ (pre : List V) (x : V) (post : List V) σ H, xs = pre ++ x :: post → Pv pre σ H → g x σ H fun σ2 H2 => t { D with nx := Pv (pre ++ [x]), ct := Pv (pre ++ [x]), bk := D.nx } σ2 H2)
    (hd : ∀ σ H, Pv xs σ H → D.nx σ H) : ForB (Itl K a) g t D σ H := by
  refine for_list (xs := xs) (fun i => Pv (xs.take i)) (by simpa using h0) (fun i σ H _ p => hl _ σ H p) (fun i x σ H hx p => ?_) (fun σ H p => ?_)
  · have e1 : xs = xs.take i ++ x :: xs.drop (i + 1) := by
      have e2 := (List.getElem?_eq_some_iff.mp hx).2
      rw [← e2, List.getElem_cons_drop, List.take_append_drop]
    have e3 : xs.take (i + 1) = xs.take i ++ [x] := by
      rw [List.take_add_one, hx]; rfl
    rw [e3]
    exact hs _ x _ σ H e1 p
  · rw [List.take_length] at p
    exact hd σ H p
theorem lc_lst {a : Addr} {xs : List V} (Pv : List V → Hp → Prop) (h0 : Pv [] (upd H Da (.lst []))) (hl : ∀ pre H, Pv pre H → SqL K H a xs)
    (hs : ∀ (pre : List V) (x : V) (post : List V) H, xs = pre ++ x :: post → Pv pre H → g x (wipe σ vs) H fun σ2 H2 => wipe σ2 vs = wipe σ vs ∧ tt σ2 H2 fun b H3 =>
      if b = true then te σ2 H3 fun y H4 => ∃ acc, H4 Da = some (.lst acc) ∧ acc.length < sizeLine ∧ Pv (pre ++ [x]) (upd H4 Da (.lst (acc ++ [y]))) else Pv (pre ++ [x]) H3)
    (hd : ∀ H, Pv xs H → Q (.ref Da) H) : LcB (Itl K a) g tt te vs σ Da H Q := by
  refine lc_list (xs := xs) (fun i => Pv (xs.take i)) (by simpa using h0) (fun i H _ p => hl _ H p) (fun i x H hx p => ?_) (fun H p => ?_)
  · have e1 : xs = xs.take i ++ x :: xs.drop (i + 1) := by
      have e2 := (List.getElem?_eq_some_iff.mp hx).2
      rw [← e2, List.getElem_cons_drop, List.take_append_drop]
    have e3 : xs.take (i + 1) = xs.take i ++ [x] := by
      rw [List.take_add_one, hx]; rfl
    rw [e3]
    exact hs _ x _ H e1 p
  · rw [List.take_length] at p
    exact hd H p
theorem for_tpl {a : Addr} {xs : List V} (Pv : List V → L2.St → Hp → Prop) (h0 : Pv [] σ H) (hl : ∀ pre σ H, Pv pre σ H → SqT K H a xs)
    (hs : ∀ (pre : List V) (x : V) (post : List V) σ H, xs = pre ++ x :: post → Pv pre σ H → g x σ H fun σ2 H2 => t { D with nx := Pv (pre ++ [x]), ct := Pv (pre ++ [x]), bk := D.nx } σ2 H2)
    (hd : ∀ σ H, Pv xs σ H → D.nx σ H) : ForB (Itt K a) g t D σ H := by
  refine for_tup (xs := xs) (fun i => Pv (xs.take i)) (by simpa using h0) (fun i σ H _ p => hl _ σ H p) (fun i x σ H hx p => ?_) (fun σ H p => ?_)
  · have e1 : xs = xs.take i ++ x :: xs.drop (i + 1) := by
      have e2 := (List.getElem?_eq_some_iff.mp hx).2
      rw [← e2, List.getElem_cons_drop, List.take_append_drop]
    have e3 : xs.take (i + 1) = xs.take i ++ [x] := by
      rw [List.take_add_one, hx]; rfl
    rw [e3]
    exact hs _ x _ σ H e1 p
  · rw [List.take_length] at p
    exact hd σ H p
end

/-! ### readings, one lemma a head -/
section
variable {σ : L2.St} {H : Hp} {Q : VK} {D : Ends} {te ta tb tx : TE} {tt tu : TT} {t u : TS} {as : TA} {r r' : R2} {x y v : V} {K : PySem.W.Frag}
theorem e_var {i : Nat} (h : σ[i]? = some (some v)) (q : Q v H) : tVar i σ H Q := ⟨v, h, q⟩
theorem e_c (q : Q v H) : tC v σ H Q := q
theorem e_op (q : ta σ H fun x H1 => tb σ H1 fun y H2 => r x y H2 Q) : tOp r ta tb σ H Q := q
theorem e_un {r : V → Hp → VK → Prop} (q : ta σ H fun x H1 => r x H1 Q) : tUn r ta σ H Q := q
theorem e_I0 {g : Int → Int → V} {i j : Int} (q : Q (g i j) H) : rI0 g (.int i) (.int j) H Q := ⟨i, j, rfl, rfl, q⟩
theorem e_I {C : Int → Int → Prop} {g : Int → Int → V} {i j : Int} (c : C i j) (q : Q (g i j) H) : rI C g (.int i) (.int j) H Q := ⟨i, j, rfl, rfl, c, q⟩
theorem e_U {g : Int → V} {i : Int} (q : Q (g i) H) : rU g (.int i) H Q := ⟨i, rfl, q⟩
theorem e_eq (s : scal x y = true) (q : Q (.bl (decide (x = y))) H) : rEq x y H Q := ⟨s, q⟩
theorem e_ne (s : scal x y = true) (q : Q (.bl (!decide (x = y))) H) : rNe x y H Q := ⟨s, q⟩
theorem e_eqI {i j : Int} (q : Q (.bl (decide (i = j))) H) : rEq (.int i) (.int j) H Q := ⟨rfl, by
  have e : decide (V.int i = V.int j) = decide (i = j) := by
    by_cases h : i = j
    · rw [h]; simp
    · rw [decide_eq_false h, decide_eq_false (fun z => h (V.int.inj z))]
  rw [e]; exact q⟩
theorem e_neI {i j : Int} (q : Q (.bl (!decide (i = j))) H) : rNe (.int i) (.int j) H Q := ⟨rfl, by
  have e : decide (V.int i = V.int j) = decide (i = j) := by
    by_cases h : i = j
    · rw [h]; simp
    · rw [decide_eq_false h, decide_eq_false (fun z => h (V.int.inj z))]
  rw [e]; exact q⟩
theorem e_eqS {i j : Str} (q : Q (.bl (decide (i = j))) H) : rEq (.str i) (.str j) H Q := ⟨rfl, by
  have e : decide (V.str i = V.str j) = decide (i = j) := by
    by_cases h : i = j
    · rw [h]; simp
    · rw [decide_eq_false h, decide_eq_false (fun z => h (V.str.inj z))]
  rw [e]; exact q⟩
theorem e_neS {i j : Str} (q : Q (.bl (!decide (i = j))) H) : rNe (.str i) (.str j) H Q := ⟨rfl, by
  have e : decide (V.str i = V.str j) = decide (i = j) := by
    by_cases h : i = j
    · rw [h]; simp
    · rw [decide_eq_false h, decide_eq_false (fun z => h (V.str.inj z))]
  rw [e]; exact q⟩
theorem e_eqB {i j : Bool} (q : Q (.bl (i == j)) H) : rEq (.bl i) (.bl j) H Q := ⟨rfl, by
  have e : decide (V.bl i = V.bl j) = (i == j) := by cases i <;> cases j <;> rfl
  rw [e]; exact q⟩
theorem e_neB {i j : Bool} (q : Q (.bl (i != j)) H) : rNe (.bl i) (.bl j) H Q := ⟨rfl, by
  have e : (!decide (V.bl i = V.bl j)) = (i != j) := by cases i <;> cases j <;> rfl
  rw [e]; exact q⟩
theorem e_test {Q : Bool → Hp → Prop} (q : te σ H fun x H' => ∃ k, x = .bl k ∧ Q k H') : tTest te σ H Q := q
theorem e_B {Q : Bool → Hp → Prop} (q : te σ H fun x H' => ∃ k, x = .bl k ∧ Q k H') : tB te σ H Q := q
theorem e_ex {b : Bool} {P : Bool → Prop} (q : P b) : ∃ k, V.bl b = .bl k ∧ P k := ⟨b, rfl, q⟩
theorem e_and {Q : Bool → Hp → Prop} (q : tt σ H fun c H1 => if c = true then tu σ H1 Q else Q false H1) : tAnd tt tu σ H Q := q
theorem e_or {Q : Bool → Hp → Prop} (q : tt σ H fun c H1 => if c = true then Q true H1 else tu σ H1 Q) : tOr tt tu σ H Q := q
theorem e_not {Q : Bool → Hp → Prop} (q : tt σ H fun c H1 => Q (!c) H1) : tNot tt σ H Q := q
theorem e_yes {Q : Bool → Hp → Prop} (q : Q true H) : tYes σ H Q := q
theorem e_andV (q : ta σ H fun x H1 => ∃ c, x = .bl c ∧ if c = true then tb σ H1 Q else Q (.bl false) H1) : tAndV ta tb σ H Q := q
theorem e_orV (q : ta σ H fun x H1 => ∃ c, x = .bl c ∧ if c = true then Q (.bl true) H1 else tb σ H1 Q) : tOrV ta tb σ H Q := q
theorem e_notV (q : ta σ H fun x H1 => ∃ c, x = .bl c ∧ Q (.bl (!c)) H1) : tNotV ta σ H Q := q
theorem e_if (q : tt σ H fun c H1 => if c = true then ta σ H1 Q else tb σ H1 Q) : tIf tt ta tb σ H Q := q
theorem e_chain (q : ta σ H fun x H1 => tb σ H1 fun y H2 => r x y H2 fun z H3 => ∃ k, z = .bl k ∧ (if k = true then tx σ H3 fun w' H4 => r' y w' H4 Q else Q (.bl false) H3)) : tChain r r' ta tb tx σ H Q := q
theorem e_seq (q : t { D with nx := u D } σ H) : tSeq t u D σ H := q
theorem e_next (q : D.nx σ H) : tNext D σ H := q
theorem e_break (q : D.bk σ H) : tBreak D σ H := q
theorem e_cont (q : D.ct σ H) : tCont D σ H := q
theorem e_drop (q : te σ H fun _ H1 => D.nx σ H1) : tDrop te D σ H := q
theorem e_ret (q : te σ H D.rt) : tRet te D σ H := q
theorem e_retN (q : D.rt .non H) : tRetN D σ H := q
theorem e_ifS (q : tt σ H fun b H1 => if b = true then t D σ H1 else u D σ H1) : tIfS tt t u D σ H := q
theorem e_asg {g : TG} (q : te σ H fun x H1 => g x σ H1 D.nx) : tAsg te g D σ H := q
theorem e_name {i : Nat} {Q : L2.St → Hp → Prop} (q : Q (σ.set i (some v)) H) : gName i v σ H Q := q
theorem e_sub {to ti : TE} {st : TSet} {Q : L2.St → Hp → Prop} (q : to σ H fun o H1 => ti σ H1 fun i H2 => st o i v H2 fun H3 => Q σ H3) : gSub to ti st v σ H Q := q
theorem e_aug {i : Nat} {ti : TIp} (h : σ[i]? = some (some x)) (q : te σ H fun y H1 => ti x y H1 fun z H2 => D.nx (σ.set i (some z)) H2) : tAug i te ti D σ H := ⟨x, h, q⟩
theorem e_nil {Q : List V → Hp → Prop} (q : Q [] H) : tNil σ H Q := q
theorem e_cons {Q : List V → Hp → Prop} (q : ta σ H fun x H1 => as σ H1 fun xs H2 => Q (x :: xs) H2) : tCons ta as σ H Q := q
theorem e_call {sp : Sp} {dvs : List V} {E : XK} (q : as σ H fun vs H1 => sp (vs ++ dvs) H1 Q E) : tCall sp dvs E as σ H Q := q
theorem e_CB {r : List V → Hp → VK → Prop} (q : as σ H fun vs H1 => r vs H1 Q) : tCB r as σ H Q := q
theorem e_tup (q : as σ H fun xs H1 => xs.length ≤ sizeLine ∧ ∀ p, H1 p = none → Q (.ref p) (upd H1 p (.tup xs))) : tTup as σ H Q := q
theorem e_lst (q : as σ H fun xs H1 => xs.length ≤ sizeLine ∧ ∀ p, H1 p = none → Q (.ref p) (upd H1 p (.lst xs))) : tLst as σ H Q := q
theorem e_sl {r : V → Option Int → Option Int → Hp → VK → Prop} {tl th : TO} (q : te σ H fun x H1 => tl σ H1 fun l H2 => th σ H2 fun u H3 => r x l u H3 Q) : tSl r te tl th σ H Q := q
theorem e_noP {Q : Option Int → Hp → Prop} (q : Q none H) : tNoPart σ H Q := q
theorem e_part {Q : Option Int → Hp → Prop} (q : te σ H fun x H1 => ∃ i, x = .int i ∧ Q (some i) H1) : tPart te σ H Q := q
theorem e_exI {i : Int} {P : Int → Prop} (q : P i) : ∃ k, V.int i = .int k ∧ P k := ⟨i, rfl, q⟩
theorem e_bm {T : String} {r : V → List V → Hp → VK → Prop} {to : TE} (q : to σ H fun x H1 => tyV K T x H1 ∧ as σ H1 fun xs H2 => r x xs H2 Q) : tBM K T r to as σ H Q := q
theorem e_for {wi : TI} {g : TG} (q : wi σ H fun J H1 => ForB J g t D σ H1) : tFor wi g t D σ H := q
theorem e_lc {wi : TI} {g : TG} {vs : List Nat} (q : wi σ H fun J H1 => ∀ D, H1 D = none → LcB J g tt te vs σ D H1 Q) : tLc wi g tt te vs σ H Q := q
theorem e_exS {i : Str} {P : Str → Prop} (q : P i) : ∃ k, V.str i = .str k ∧ P k := ⟨i, rfl, q⟩
theorem e_exR {a : Addr} {xs : List V} {P : Addr → Prop} (h : SqL K H a xs) (q : P a) : ∃ k, V.ref a = .ref k ∧ (∃ xs, SqL K H k xs) ∧ P k := ⟨a, rfl, ⟨xs, h⟩, q⟩
theorem e_exRT {a : Addr} {xs : List V} {P : Addr → Prop} (h : SqT K H a xs) (q : P a) : ∃ k, V.ref a = .ref k ∧ (∃ xs, SqT K H k xs) ∧ P k := ⟨a, rfl, ⟨xs, h⟩, q⟩
theorem e_rng1 {n : Int} {P : Int → Prop} (h1 : -(2 ^ 62) ≤ n) (h2 : n < 2 ^ 62) (q : P n) : ∃ j : Int, [V.int n] = [.int j] ∧ -(2 ^ 62) ≤ j ∧ j < 2 ^ 62 ∧ P j := ⟨n, rfl, h1, h2, q⟩
theorem e_rng2 {m n : Int} {P : Int → Int → Prop} (h : -(2 ^ 62) ≤ m ∧ m < 2 ^ 62 ∧ -(2 ^ 62) ≤ n ∧ n < 2 ^ 62) (q : P m n) : ∃ i j : Int, [V.int m, V.int n] = [.int i, .int j] ∧ (-(2 ^ 62) ≤ i ∧ i < 2 ^ 62 ∧ -(2 ^ 62) ≤ j ∧ j < 2 ^ 62) ∧ P i j := ⟨m, n, rfl, h, q⟩
theorem e_m0 {r : V → List V → Hp → VK → Prop} {to : TE} (q : to σ H fun x H1 => (∃ a, x = .str a) ∧ r x [] H1 Q) : tM0 r to σ H Q := q
theorem e_m1 {r : V → List V → Hp → VK → Prop} {to : TE} (q : to σ H fun x H1 => (∃ a, x = .str a) ∧ te σ H1 fun y H2 => r x [y] H2 Q) : tM1 r to te σ H Q := q
theorem e_slS {z : Str} {lo hi : Option Int} (h : z.length ≤ sizeLine) (q : Q (.str (cutS z lo hi)) H) : rSlS (.str z) lo hi H Q := ⟨z, rfl, h, q⟩
theorem e_iList {R : It → Hp → Prop} {tl : TE} (q : tl σ H fun x H1 => ∃ a, x = .ref a ∧ (∃ xs, SqL K H1 a xs) ∧ R (Itl K a) H1) : iList K tl σ H R := q
theorem e_iTup {R : It → Hp → Prop} {tl : TE} (q : tl σ H fun x H1 => ∃ a, x = .ref a ∧ (∃ xs, SqT K H1 a xs) ∧ R (Itt K a) H1) : iTup K tl σ H R := q
theorem e_iStr {R : It → Hp → Prop} {tl : TE} (q : tl σ H fun v H1 => ∃ x, v = .str x ∧ R (Its x) H1) : iStr tl σ H R := q
theorem e_iRng1 {R : It → Hp → Prop} (q : as σ H fun vs H1 => ∃ j : Int, vs = [.int j] ∧ -(2 ^ 62) ≤ j ∧ j < 2 ^ 62 ∧ R (Itr 0 j.toNat) H1) : iRng1 as σ H R := q
theorem e_iRng2 {R : It → Hp → Prop} (q : as σ H fun vs H1 => ∃ i j : Int, vs = [.int i, .int j] ∧ (-(2 ^ 62) ≤ i ∧ i < 2 ^ 62 ∧ -(2 ^ 62) ≤ j ∧ j < 2 ^ 62) ∧ R (Itr i (j - i).toNat) H1) : iRng2 as σ H R := q
theorem e_ixL {p : Addr} {xs : List V} {i : Int} (h : SqL K H p xs) (ha : atI xs i = some v) (q : Q v H) : rIxL K (.ref p) (.int i) H Q := ⟨p, xs, i, v, rfl, rfl, h, ha, q⟩
theorem e_ixT {p : Addr} {xs : List V} {i : Int} (h : SqT K H p xs) (ha : atI xs i = some v) (q : Q v H) : rIxT K (.ref p) (.int i) H Q := ⟨p, xs, i, v, rfl, rfl, h, ha, q⟩
theorem e_ixS {z : Str} {i : Int} {c : Nat} (hz : z.length ≤ sizeLine) (ha : atI z.cps.toList i = some c) (q : Q (.str ⟨#[c]⟩) H) : rIxS (.str z) (.int i) H Q := ⟨z, i, c, rfl, rfl, hz, ha, q⟩
theorem e_len {p : Addr} {ys : List V} (h : SqL K H p ys) (q : Q (.int ys.length) H) : ∃ p' ys', [V.ref p] = [V.ref p'] ∧ (SqL K H p' ys' ∨ SqT K H p' ys') ∧ Q (.int (ys'.length : Nat)) H := ⟨p, ys, rfl, .inl h, q⟩
theorem e_lenT {p : Addr} {ys : List V} (h : SqT K H p ys) (q : Q (.int ys.length) H) : ∃ p' ys', [V.ref p] = [V.ref p'] ∧ (SqL K H p' ys' ∨ SqT K H p' ys') ∧ Q (.int (ys'.length : Nat)) H := ⟨p, ys, rfl, .inr h, q⟩
theorem e_lenS {z : Str} (h : z.length ≤ sizeLine) (q : Q (.int z.length) H) : ∃ z', [V.str z] = [V.str z'] ∧ z'.length ≤ sizeLine ∧ Q (.int (z'.length : Nat)) H := ⟨z, rfl, h, q⟩
theorem e_int1 {i : Int} (q : Q (.int i) H) : (∃ i', [V.int i] = [V.int i'] ∧ Q (.int i') H) ∨ ∃ k, [V.int i] = [V.bl k] ∧ Q (.int (if k = true then 1 else 0)) H := .inl ⟨i, rfl, q⟩
theorem e_setL {p : Addr} {xs : List V} {k : Int} {j : Nat} {Q : Hp → Prop} (h : H p = some (.lst xs)) (hj : ixN xs.length k = some j) (q : Q (upd H p (.lst (xs.set j v)))) : rSetL (.ref p) (.int k) v H Q := ⟨p, xs, k, j, rfl, rfl, h, hj, q⟩
theorem e_cut {Mid : L2.St → Hp → Prop} (h1 : t { D with nx := Mid } σ H) (h2 : ∀ σ' H', Mid σ' H' → u D σ' H') : C8.tCut t u D σ H := ⟨Mid, h1, h2⟩
/-- a test that is known, or open -/
theorem i_T {A B : Prop} (h : A) : if true = true then A else B := by rw [if_pos rfl]; exact h
theorem i_F {A B : Prop} (h : B) : if false = true then A else B := by rw [if_neg Bool.false_ne_true]; exact h
theorem i_d {p : Prop} [Decidable p] {A B : Prop} (h1 : p → A) (h2 : ¬ p → B) : if decide p = true then A else B := by
  by_cases h : p
  · rw [decide_eq_true h]; exact i_T (h1 h)
  · rw [decide_eq_false h]; exact i_F (h2 h)
theorem i_nd {p : Prop} [Decidable p] {A B : Prop} (h1 : ¬ p → A) (h2 : p → B) : if (!decide p) = true then A else B := by
  by_cases h : p
  · rw [decide_eq_true h]; exact i_F (h2 h)
  · rw [decide_eq_false h]; exact i_T (h1 h)
theorem i_b {b : Bool} {A B : Prop} (h1 : b = true → A) (h2 : b = false → B) : if b = true then A else B := by
  cases b
  · exact i_F (h2 rfl)
  · exact i_T (h1 rfl)
theorem i_nself {b : Bool} {A B : Prop} (h : B) : if (!(b == b)) = true then A else B := by
  rw [beq_self_eq_true]; exact i_F h
theorem i_self {α : Type} [DecidableEq α] {x : α} {A B : Prop} (h : A) : if decide (x = x) = true then A else B := by
  rw [decide_eq_true rfl]; exact i_T h
theorem i_neself {α : Type} [DecidableEq α] {x : α} {A B : Prop} (h : B) : if (!decide (x = x)) = true then A else B := by
  rw [decide_eq_true rfl]; exact i_F h
theorem i_nb {b : Bool} {A B : Prop} (h1 : b = false → A) (h2 : b = true → B) : if (!b) = true then A else B := by
  cases b
  · exact i_T (h1 rfl)
  · exact i_F (h2 rfl)
end

section
variable {K : PySem.W.Frag} {H : Hp} {Q : VK}
theorem isi_ty {x : V} {t n : String} {b : Bool} (ty : TyX K H x (.type t)) (e : PySem.W.kitOne K (.type t) (.type n) = some b) (q : Q (.bl b) H) : rIsi K [x, .ty n] H Q := ⟨x, .ty n, _, _, b, rfl, .ty n, ty, e, q⟩
theorem isi_bb {x : Bool} (q : Q (.bl true) H) : rIsi K [.bl x, .ty "bool"] H Q := isi_ty (.base (.bl x)) (kit_ty (by decide +kernel)) q
theorem isi_ib {x : Int} (q : Q (.bl false) H) : rIsi K [.int x, .ty "bool"] H Q := isi_ty (.base (.int x)) (kit_ty (by decide +kernel)) q
theorem isi_bi {x : Bool} (q : Q (.bl true) H) : rIsi K [.bl x, .ty "int"] H Q := isi_ty (.base (.bl x)) (kit_ty (by decide +kernel)) q
theorem isi_ii {x : Int} (q : Q (.bl true) H) : rIsi K [.int x, .ty "int"] H Q := isi_ty (.base (.int x)) (kit_ty (by decide +kernel)) q
theorem isi_si {x : Str} (q : Q (.bl false) H) : rIsi K [.str x, .ty "int"] H Q := isi_ty (.base (.str x)) (kit_ty (by decide +kernel)) q
theorem isi_ni (q : Q (.bl false) H) : rIsi K [.non, .ty "int"] H Q := isi_ty (.base .non) (kit_ty (by decide +kernel)) q
theorem isi_tt {p : Addr} {xs : List V} (h : H p = some (.tup xs)) (q : Q (.bl true) H) : rIsi K [.ref p, .ty "tuple"] H Q := isi_ty (.base (.tup h)) (kit_ty (by decide +kernel)) q
theorem isi_ll {p : Addr} {xs : List V} (h : H p = some (.lst xs)) (q : Q (.bl true) H) : rIsi K [.ref p, .ty "list"] H Q := isi_ty (.base (.lst h)) (kit_ty (by decide +kernel)) q
theorem isi_lt {p : Addr} {xs : List V} (h : H p = some (.lst xs)) (q : Q (.bl false) H) : rIsi K [.ref p, .ty "tuple"] H Q := isi_ty (.base (.lst h)) (kit_ty (by decide +kernel)) q
end
/-! ### defs that are called by their names -/
structure Cal (P : Program) (w : World) (K : PySem.W.Frag) (mg : Str → Option Value) (base : Heap) (k : Nat) (x : Str) (sp : Sp) : Prop where
  ex : ∃ (f : Addr) (fd : FuncData) (ps : List Str), FnOk P w K mg base CX0 k f fd ps sp ∧ mg x = some (.ref f) ∧ PySem.W.keepIn K (.ref f) = true ∧ Binds K fd ps []
theorem pe_c {X : Cx} {k j : Nat} {x : Str} {sp : Sp} {p pos : Pos} {e : Expr} {es : List Expr} {t : TA} (c : Cal X.prog X.w X.K X.mg X.base k x sp) (hr : Room j X.A) (hk : k ≤ j) (hg : Gl X x) (ha : PA X (e :: es) t)
    (hdb : (x == ("__debug__" : Str)) = false := by decide) 
    (he : starEach (e :: es) X.env = (false, eval e X.env) :: starEach es X.env := by rfl) 
    (hpl : (backTo pos (starEach es X.env)).any (·.1) = false := by rfl) :
    PE X (.Call (.Name x p) (e :: es) [] pos) (tCall sp [] E0 t) := by
  obtain ⟨f, fd, ps, F, hm, kp, b⟩ := c.ex
  exact pe_call F (hr.mono hk) hg hm kp b .nil pass0 ha hdb he hpl
theorem pe_c0 {X : Cx} {k j : Nat} {x : Str} {sp : Sp} {p pos : Pos} (c : Cal X.prog X.w X.K X.mg X.base k x sp) (hr : Room j X.A) (hk : k ≤ j) (hg : Gl X x)
    (hdb : (x == ("__debug__" : Str)) = false := by decide) :
    PE X (.Call (.Name x p) [] [] pos) (tCall sp [] E0 tNil) := by
  obtain ⟨f, fd, ps, F, hm, kp, b⟩ := c.ex
  exact pe_call0 F (hr.mono hk) hg hm kp b .nil pass0 hdb

/-- promises by arity -/
abbrev sp0 (R : Hp → VK → Prop) : Sp := fun vs H Q _ => vs = [] ∧ R H Q
abbrev sp1 (R : V → Hp → VK → Prop) : Sp := fun vs H Q _ => ∃ a, vs = [a] ∧ R a H Q
abbrev sp2 (R : V → V → Hp → VK → Prop) : Sp := fun vs H Q _ => ∃ a b, vs = [a, b] ∧ R a b H Q
abbrev sp3 (R : V → V → V → Hp → VK → Prop) : Sp := fun vs H Q _ => ∃ a b c, vs = [a, b, c] ∧ R a b c H Q
abbrev sp4 (R : V → V → V → V → Hp → VK → Prop) : Sp := fun vs H Q _ => ∃ a b c d, vs = [a, b, c, d] ∧ R a b c d H Q


theorem sz_of {n : Nat} (h : n ≤ 1000000) : n ≤ sizeLine := Nat.le_trans h (by decide)
/-! ### heaps: all but one address as it was -/
def Kp (st : Addr) (H H' : Hp) : Prop := ∀ b o, b ≠ st → H b = some o → H' b = some o
theorem Kp.refl (st : Addr) (H : Hp) : Kp st H H := fun _ _ _ h => h
theorem Kp.trans {st : Addr} {H H1 H2 : Hp} (a : Kp st H H1) (b : Kp st H1 H2) : Kp st H H2 := fun c o n h => b c o n (a c o n h)
theorem Kp.of {st : Addr} {H H' : Hp} (a : Same H H') : Kp st H H' := fun c o _ h => a c o h
theorem same_new {H : Hp} {p : Addr} {o : HO} (h : H p = none) : Same H (upd H p o) := fun b x e => by
  rw [upd_ne (ne_of_none e h)]
  exact e
theorem Kp.new {st p : Addr} {H : Hp} {o : HO} (h : H p = none) : Kp st H (upd H p o) := Kp.of (same_new h)
/-- an object that was not there at first may change -/
theorem Kp.mut {st p : Addr} {H H' : Hp} {o : HO} (a : Kp st H H') (h : H p = none) : Kp st H (upd H' p o) := fun b x n e => by
  rw [upd_ne (ne_of_none e h)]
  exact a b x n e
theorem Kp.put {st : Addr} {H H' : Hp} {o : HO} (a : Kp st H H') : Kp st H (upd H' st o) := fun b x n e => by
  rw [upd_ne n]
  exact a b x n e
theorem Same.mut {p : Addr} {H H' : Hp} {o : HO} (a : Same H H') (h : H p = none) : Same H (upd H' p o) := fun b x e => by
  rw [upd_ne (ne_of_none e h)]
  exact a b x e
theorem Kp.free {st p : Addr} {H H' : Hp} (a : Kp st H H') (hs : ∃ o, H' st = some o) (h : H' p = none) : H p = none := by
  cases q : H p with
  | none => rfl
  | some o =>
    by_cases e : p = st
    · obtain ⟨o', h'⟩ := hs
      rw [e, h'] at h
      cases h
    · rw [a p o e q] at h
      cases h

/-- the state of the draws and the script: two ints at st, the script at sc whatever is drawn -/
structure Dr (K : PySem.W.Frag) (st sc : Addr) (ns : List Int) (H : Hp) : Prop where
  s : ∃ a b : Int, 0 ≤ a ∧ 0 ≤ b ∧ H st = some (.lst [.int a, .int b])
  sc : ∀ H', Kp st H H' → SqL K H' sc (ns.map V.int)
  len : ns.length ≤ 63
theorem Dr.kp {K : PySem.W.Frag} {st sc : Addr} {ns : List Int} {H H' : Hp} (d : Dr K st sc ns H) (k : Kp st H H') (s : ∃ a b : Int, 0 ≤ a ∧ 0 ≤ b ∧ H' st = some (.lst [.int a, .int b])) : Dr K st sc ns H' :=
  ⟨s, fun H2 k2 => d.sc H2 (k.trans k2), d.len⟩
theorem Dr.same {K : PySem.W.Frag} {st sc : Addr} {ns : List Int} {H H' : Hp} (d : Dr K st sc ns H) (k : Same H H') : Dr K st sc ns H' := by
  obtain ⟨a, b, h1, h2, h3⟩ := d.s
  exact d.kp (Kp.of k) ⟨a, b, h1, h2, k _ _ h3⟩
theorem Dr.seq {K : PySem.W.Frag} {st sc : Addr} {ns : List Int} {H : Hp} (d : Dr K st sc ns H) : SqL K H sc (ns.map V.int) := d.sc H (Kp.refl st H)
theorem sq_keep {K : PySem.W.Frag} {H H' : Hp} {a p : Addr} {xs : List V} (h : SqL K H a xs) (hp : H p = none) (k : Kp p H H') : SqL K H' a xs := by
  rcases h with (h | ⟨c9, h⟩) | h
  · exact .inl (.inl (k _ _ (ne_of_none h hp) h))
  · exact .inl (.inr ⟨c9, k _ _ (ne_of_none h hp) h⟩)
  · exact .inr h
theorem Dr.start {K : PySem.W.Frag} {st sc : Addr} {ns : List Int} {H : Hp} (h : SqL K H sc (ns.map V.int)) (hp : H st = none) (hl : ns.length ≤ 63) : Dr K st sc ns (upd H st (.lst [.int 0, .int 0])) :=
  ⟨⟨0, 0, by decide, by decide, upd_same⟩, fun H' k => sq_keep h hp fun b o n e => k b o n (by rw [upd_ne n]; exact e), hl⟩
theorem Dr.ne {K : PySem.W.Frag} {st sc p : Addr} {ns : List Int} {H : Hp} (d : Dr K st sc ns H) (h : H p = none) : p ≠ st := by
  obtain ⟨a, b, _, _, h3⟩ := d.s
  intro e
  rw [e, h3] at h
  cases h
theorem pick_int {l : List Int} {d : Int} (h0 : 0 ≤ d) (h1 : d < l.length) : ∃ n, n ∈ l ∧ atI (l.map V.int) d = some (.int n) := by
  have h : d.toNat < l.length := by omega
  exact ⟨l[d.toNat], List.getElem_mem h, at_of (j := d.toNat) (by omega) (by rw [List.getElem?_map, List.getElem?_eq_getElem h]; rfl)⟩
theorem pick_nat {l : List Nat} {d : Int} (h0 : 0 ≤ d) (h1 : d < l.length) : ∃ n, n ∈ l ∧ atI l d = some n := by
  have h : d.toNat < l.length := by omega
  obtain ⟨j, hj⟩ : ∃ j : Nat, d = (j : Int) := ⟨d.toNat, by omega⟩
  have h2 : j < l.length := by omega
  subst hj
  exact ⟨l[j], List.getElem_mem h2, atI_nat (List.getElem?_eq_getElem h2)⟩
theorem at_last {ns : List Int} (h : 0 < ns.length) : ∃ x, atI (ns.map V.int) (-1) = some (.int x) := by
  have e : ns = ns.dropLast ++ [ns.getLast (by intro q; rw [q] at h; cases h)] := (List.dropLast_concat_getLast _).symm
  rw [e, List.map_append]
  exact ⟨_, atI_last _ _⟩
theorem pick_sign {z : Str} {d : Int} (h0 : 0 ≤ d) (h1 : d < (z.length : Int)) : ∃ c, c ∈ z.cps.toList ∧ atI z.cps.toList d = some c :=
  pick_nat h0 (by simpa [Str.length] using h1)
theorem len_app (a b : Str) : (a ++ b).length = a.length + b.length := PySem.Str.length_append a b
/-- what a call behind which only the draws' state has changed hands on -/
def RDraw (K : PySem.W.Frag) (st sc : Addr) (ns : List Int) (H : Hp) (G : Hp → Prop) : Prop := Dr K st sc ns H ∧ ∀ H', Kp st H H' → Dr K st sc ns H' → G H'
theorem Dr.mut {K : PySem.W.Frag} {st sc p : Addr} {ns : List Int} {H0 H1 : Hp} {o : HO} (d0 : Dr K st sc ns H0) (d : Dr K st sc ns H1) (hp : H0 p = none) (k : Kp st H0 H1) : Dr K st sc ns (upd H1 p o) := by
  obtain ⟨a, b, h1, h2, h3⟩ := d.s
  exact d0.kp (k.mut hp) ⟨a, b, h1, h2, by rw [upd_ne (d0.ne hp).symm]; exact h3⟩
section
variable {K : PySem.W.Frag} {g : TG} {σ : L2.St} {te : TE} {vs : List Nat} {Q : VK} {Da st sc : Addr} {ns : List Int} {H0 : Hp}
/-- [e for k in range(..)], e with draws -/
theorem lc_dr {lo : Int} {n : Nat} (d0 : Dr K st sc ns H0) (hD : H0 Da = none) (hn : n ≤ 1000000) (Pe : V → Prop)
    (hs : ∀ (i : Nat) (H2 : Hp) (C : VK) (E : Hp → Prop), i < n → Kp st H0 H2 → Dr K st sc ns H2 → (∀ y H3, Kp st H2 H3 → Dr K st sc ns H3 → Pe y → C y H3) →
      g (.int (lo + i)) (wipe σ vs) H2 fun σ2 H2 => wipe σ2 vs = wipe σ vs ∧ tYes σ2 H2 fun b H3 => if b = true then te σ2 H3 C else E H3)
    (hd : ∀ (H : Hp) (xs : List V), Kp st H0 H → Dr K st sc ns H → H Da = some (.lst xs) → xs.length = n → (∀ x ∈ xs, Pe x) → Q (.ref Da) H) : LcB (Itr lo n) g tYes te vs σ Da H0 Q := by
  have nD := d0.ne hD
  refine lc_rng (fun i H2 => Kp st H0 H2 ∧ Dr K st sc ns H2 ∧ ∃ xs : List V, H2 Da = some (.lst xs) ∧ xs.length = i ∧ ∀ x ∈ xs, Pe x) ⟨Kp.new hD, d0.same (same_new hD), [], upd_same, rfl, fun _ hy => by cases hy⟩ (fun i H2 hi p => ?_) (fun H2 p => ?_)
  · obtain ⟨k4, d4, xs, e4, l4, o4⟩ := p
    refine hs i H2 _ _ hi k4 d4 fun y H3 k5 d5 hy => ?_
    refine ⟨xs, k5 _ _ nD e4, Nat.lt_of_le_of_lt (Nat.le_of_lt (by omega : xs.length < 1000001)) (by decide), (k4.trans k5).mut hD, Dr.mut d0 d5 hD (k4.trans k5), xs ++ [y], upd_same, by simp [l4], fun z hz => ?_⟩
    rcases List.mem_append.mp hz with h | h
    · exact o4 z h
    · rw [List.mem_singleton.mp h]; exact hy
  · obtain ⟨k4, d4, xs, e4, l4, o4⟩ := p
    exact hd H2 xs k4 d4 e4 l4 o4
/-- [e for k in range(..)], e a function of k -/
theorem lc_map_rng {lo : Int} {n : Nat} (hD : H0 Da = none) (hn : n ≤ 1000000) (f : Nat → V)
    (hs : ∀ (i : Nat) (H2 : Hp) (C : VK) (E : Hp → Prop), i < n → Same H0 H2 → (∀ H3, Same H2 H3 → C (f i) H3) →
      g (.int (lo + i)) (wipe σ vs) H2 fun σ2 H2 => wipe σ2 vs = wipe σ vs ∧ tYes σ2 H2 fun b H3 => if b = true then te σ2 H3 C else E H3)
    (hd : ∀ (H : Hp), Same H0 H → H Da = some (.lst ((List.range n).map f)) → Q (.ref Da) H) : LcB (Itr lo n) g tYes te vs σ Da H0 Q := by
  refine lc_rng (fun i H2 => Same H0 H2 ∧ H2 Da = some (.lst ((List.range i).map f))) ⟨same_new hD, upd_same⟩ (fun i H2 hi p => ?_) (fun H2 p => hd H2 p.1 p.2)
  obtain ⟨k4, e4⟩ := p
  refine hs i H2 _ _ hi k4 fun H3 k5 => ?_
  refine ⟨_, k5 _ _ e4, Nat.lt_of_le_of_lt (by simp; omega : _ ≤ 1000000) (by decide), Same.mut (k4.trans k5) hD, ?_⟩
  rw [upd_same, List.range_succ, List.map_append]
  rfl
/-- [e for x in xs], a list, e a function of x -/
theorem lc_map_lst {a : Addr} {xs : List V} (hS : SqL K H0 a xs) (hD : H0 Da = none) (hn : xs.length ≤ 1000000) (f : V → V)
    (hs : ∀ (x : V) (H2 : Hp) (C : VK) (E : Hp → Prop), x ∈ xs → Same H0 H2 → (∀ H3, Same H2 H3 → C (f x) H3) →
      g x (wipe σ vs) H2 fun σ2 H2 => wipe σ2 vs = wipe σ vs ∧ tYes σ2 H2 fun b H3 => if b = true then te σ2 H3 C else E H3)
    (hd : ∀ (H : Hp), Same H0 H → H Da = some (.lst (xs.map f)) → Q (.ref Da) H) : LcB (Itl K a) g tYes te vs σ Da H0 Q := by
  refine lc_lst (xs := xs) (fun pre H2 => Same H0 H2 ∧ H2 Da = some (.lst (pre.map f)) ∧ pre.length ≤ xs.length) ⟨same_new hD, upd_same, Nat.zero_le _⟩ (fun pre H2 p => p.1.seq hS) (fun pre x post H2 e p => ?_) (fun H2 p => hd H2 p.1 p.2.1)
  obtain ⟨k4, e4, l4⟩ := p
  refine hs x H2 _ _ (by rw [e]; simp) k4 fun H3 k5 => ?_
  refine ⟨_, k5 _ _ e4, Nat.lt_of_le_of_lt (by simp; omega : _ ≤ 1000000) (by decide), Same.mut (k4.trans k5) hD, ?_, by rw [e]; simp⟩
  rw [upd_same, List.map_append]
  rfl
end
/-- a draw: any number below the size -/
def spDraw (K : PySem.W.Frag) : Sp := sp3 fun a b c H Q => ∃ (st sc : Addr) (ns : List Int) (n : Int), a = .ref st ∧ b = .ref sc ∧ c = .int n ∧ Dr K st sc ns H ∧ 0 < n ∧ n < 2 ^ 60 ∧
  ∀ (d : Int) (H' : Hp), 0 ≤ d → d < n → Kp st H H' → Dr K st sc ns H' → Q (.int d) H'

abbrev FnP (K : PySem.W.Frag) (x : Str) (st : Stmt) (f : Addr) (fd : FuncData) : Prop :=
  FunD K x x (defArgs st) (defBody st) (defScope st) [] [] f fd
end Vf

namespace PySem
open Sem (wp)
theorem meets_enumerate_newTup (l : Addr) (row : Array Value) (ob : Obj) (cap : Nat) :
    Meets (Builtin.«enumerate.__new__» ⟨[.type "enumerate", .ref l], []⟩) (fun _ R s => (s.heap.get? l = some ob ∧ ob.cls = .type "tuple" ∧ ob.data = .seq row cap) ∧
      R (.ok (.ret (.ref (s.heap.push { cls := .type "tuple_iterator", data := .fields #[.ref l, .int 0 0] }).objs.size)))
        { s with heap := (s.heap.push { cls := .type "tuple_iterator", data := .fields #[.ref l, .int 0 0] }).push { cls := .type "enumerate", data := .fields #[.none, .bool false, .ref s.heap.objs.size, rawInt 0, .none, .none] } }) :=
  .of_wp fun prg w A R s h => by
    obtain ⟨hp, g, d, tk, os⟩ := s; obtain ⟨⟨hl9, wc, wd⟩, h⟩ := h
    have hsub := sub_enumerate
    have isT : Heap.IsTuple (Shared.heap ⟨hp, g, d, tk, os⟩) l row := ⟨_, hl9, wc, cap, wd⟩
    have q1 : ∀ {A' : Around} {E : Value → Shared → Prop} {Q : Value → Shared → Prop}, Q (.ref hp.objs.size) ⟨hp.push { cls := .type "tuple_iterator", data := .fields #[.ref l, .int 0 0] }, g, d, tk, os⟩ → wpAny (model prg w) A' (pyIter (.ref l)) Q E ⟨hp, g, d, tk, os⟩ :=
      fun q => wpAny_pyIter_tuple isT q
    wp_walk using q1
    refine wpAny_stack_any fun here => wpAny_pure ?_
    split
    · rename_i cls9 _ _ _ _ _
      cases (cls9 == Value.type "enumerate")
      · wp_walk using q1
        exact ⟨_, rfl, h⟩
      · wp_walk using q1
        exact ⟨_, rfl, h⟩
    · wp_walk using q1
      exact ⟨_, rfl, h⟩
section
variable {prg : Program} {w : World} {A : Around} {E : Value → Shared → Prop} {s : Shared}
/-- the object that enumerate makes, and the turning over a tuple -/
abbrev enOf (it : Addr) : Obj := { data := .fields #[.none, .bool false, .ref it, rawInt 0, .none, .none], cls := .type "enumerate" }
abbrev tiOf (l : Addr) : Obj := { data := .fields #[.ref l, .int 0 0], cls := .type "tuple_iterator" }
theorem call_enumerate_tup {l : Addr} {row : Array Value} {Q : Value → Shared → Prop} (isT : s.heap.IsTuple l row)
    (h : ∀ h', IsEnum h' (s.heap.objs.size + 1) s.heap.objs.size 0 .none → h'.IsTupleIter s.heap.objs.size l 0 → h'.objs.size = s.heap.objs.size + 2 →
      (∀ bb ob, s.heap.get? bb = some ob → h'.get? bb = some ob) → Q (.ref (s.heap.objs.size + 1)) { s with heap := h' }) :
    wpAny (model prg w) A
      (call (.type "enumerate") [.ref l]) Q E s := by
  obtain ⟨ob, hl9, wc, cap, wd⟩ := isT
  refine callType_new F.called_enumerate (by decide) (F.typeCall_enumerate_1 _)
    (F.newCall_enumerate_1 _) (fun it => F.args_object_init_2 it _) F.entry_enumerate_new (meets_enumerate_newTup l row ob cap) ⟨⟨hl9, wc, wd⟩, ?_⟩
  have szz : (s.heap.push (tiOf l)).objs.size = s.heap.objs.size + 1 := Heap.size_push ..
  show _ ∧ _
  rw [szz]
  have qe : IsEnum ((s.heap.push (tiOf l)).push
      (enOf s.heap.objs.size)) (s.heap.objs.size + 1) s.heap.objs.size 0 .none := by
    have := Heap.get?_push_size (s.heap.push (tiOf l))
      (o := enOf s.heap.objs.size) rfl
    rw [szz] at this; exact this
  refine ⟨⟨_, qe, rfl⟩, h _ qe ⟨_, Heap.get?_push_of_some _ (Heap.get?_push_size _ rfl), rfl, rfl⟩ (by rw [Heap.size_push, szz]) fun bb ob x => Heap.get?_push_of_some _ (Heap.get?_push_of_some _ x)⟩
theorem enumT_end {e it t : Addr} {i : Nat} {row : Array Value} {prev : Value} {Q : Option Value → Shared → Prop} (hh : A.handled = none)
    (qe : IsEnum s.heap e it i prev) (qi : s.heap.IsTupleIter it t i) (hl9 : s.heap.IsTuple t row) (ne2 : t ≠ it) (atx : row[i]? = none)
    (hQ : ∀ h', Heap.ExtBut it s.heap h' → Q none { s with heap := h' }) : wpAny (model prg w) A (pyNext (.ref e)) Q E s := by
  have ty1 : s.TypeIs (.ref e) "enumerate" := ⟨_, qe, rfl⟩
  unfold pyNext
  refine wpAny_bind (wpAny_attempt (wpAny_callSpecial?_slot (name := Str.ofString "__next__") ty1 F.slot_enumerate_next
    (wpAny_call_entry F.slot_enumerate_next ty1 F.entry_enumerate_next ?_ (F.args_enumerate_next_1 _))))
  show wpAny (model prg w) A.in1
    (field (.ref e) 2 >>= _) _ _ s
  refine wpAny_bind (wpAny_field qe rfl (x := .ref it) rfl ?_)
  refine wpAny_bind (wpAny_nextOf_tuple_end hh qi hl9 atx fun h' x he' hx' => ?_)
  obtain ⟨ob, wo, wc⟩ := hx'
  refine wpAny_bind (wpAny_isInstance (T := "StopIteration") (b := true) ⟨ob, wo, wc⟩ isSubtype_stop ?_)
  exact wpAny_pure (hQ _ he')
end
end PySem
namespace Vf
open PySem L2 PySem.Spec PyProof.Rows
/-- enumerate(t), t a tuple -/
def IteT (K : PySem.W.Frag) (a : Addr) : It :=
  ⟨fun i H => ∃ (xs : List V) (x : V), SqT K H a xs ∧ xs[i]? = some x, fun i H v H' => ∃ T x, v = .ref T ∧ H T = none ∧ H' = upd H T (.tup [.int (i : Nat), x]) ∧ ∀ xs, SqT K H a xs → xs[i]? = some x, fun i H => ∃ xs : List V, SqT K H a xs ∧ xs.length ≤ i⟩
theorem turn_enumT {P : Program} {w : World} {K : PySem.W.Frag} {elts : List Expr} {kk : Nat} {tpos : Pos} (a e it : Addr) :
    Turn P w K (.Tuple elts kk tpos) (IteT K a) [e, it] e (fun i h => (∃ prev, IsEnum h e it ((i : Nat) : Int) prev) ∧ h.IsTupleIter it a i ∧ e ≠ it) where
  mem := by simp
  obj := fun i h here bb mb => by
    obtain ⟨⟨prev, qe⟩, ⟨ob, wo, wc, wd⟩, _⟩ := here
    have e' : bb = e ∨ bb = it := by simpa using mb
    rcases e' with z | z
    · rw [z]; exact ⟨_, qe, fun v q => nomatch q⟩
    · rw [z]; exact ⟨ob, wo, fun v q => by rw [wd] at q; cases q⟩
  keep := fun i h h' here k => let ⟨⟨prev, qe⟩, hi9, qn⟩ := here; ⟨⟨prev, k e (by simp) _ qe⟩, hi9.at fun ob q => k it (by simp) ob q, qn⟩
  item := by
    intro X hP hw hK wc i pins s σ H E I fp here got
    subst hP hw hK
    obtain ⟨⟨prev, qe⟩, qi, qn⟩ := here
    obtain ⟨xs, x, wq, atx⟩ := got
    obtain ⟨cells, rds, p, szz⟩ := I.tuple wq
    obtain ⟨u, mu, rdu⟩ := rds.get atx
    have le1 : e < s.heap.objs.size := Heap.lt_size qe
    have le2 : it < s.heap.objs.size := by obtain ⟨_, q, _⟩ := qi; exact Heap.lt_size q
    have ne1 : a ≠ e := by
      intro z
      obtain ⟨ob, wo, hc2, _⟩ := p
      rw [z, qe] at wo
      cases wo
      injection hc2 with q
      exact absurd q (by decide)
    have ne2 : a ≠ it := by
      intro z
      obtain ⟨ob, wo, hc2, _⟩ := p
      obtain ⟨o2, ho2, hc3, _⟩ := qi
      rw [z, ho2] at wo
      cases wo
      rw [hc3] at hc2
      injection hc2 with q
      exact absurd q (by decide)
    have hlt : i < cells.toArray.size := by
      have := (List.getElem?_eq_some_iff.mp mu).1
      simpa using this
    refine wpAny_pyNext_enum_itemD (Draws.tuple (A := X.A.in1) (show X.A.in1.handled = none from I.ok.hd wc) it a ne2 cells.toArray) qe ⟨qi, p⟩ hlt qn (by simp [qn, Ne.symm ne1]) fun x' h' tk hP wo hst' ty1 hsz keep1 => ?_
    have ex : x' = u := by
      have q1 : cells[i]? = some x' := by simpa using hP
      exact Option.some.inj (q1.symm.trans mu)
    subst ex
    refine ⟨_, rfl, wpAny_letOwnedTupleGo_enum (s := { s with heap := h', toks := tk + 1 }) wo fun h'' he' only1 => ?_⟩
    have ty2 : h''.get? s.heap.objs.size = some { cls := .type "tuple", data := .seq #[.int i tk, x'] } := (only1.2 _ (Nat.ne_of_gt le1)).trans ty1
    have fresh1 : ObjOk X.prog X.w (upd H s.heap.objs.size (.tup [.int (i : Nat), x])) h'' s.heap.objs.size (.tup [.int (i : Nat), x]) :=
      ⟨by show 2 ≤ sizeLine; decide, [.int i tk, x'], .cons ⟨_, rfl⟩ (.cons rdu .nil), ⟨_, ty2, rfl, _, rfl⟩⟩
    have J1 : Inv X pins σ (upd H s.heap.objs.size (.tup [.int (i : Nat), x])) { s with heap := h'', toks := tk + 1 } :=
      I.turnedNew (ch := [e, it]) (fun bb ob mb q => (only1.2 bb (fun z => mb (by simp [z]))).trans (keep1 bb ob (fun z => mb (by simp [z])) (fun z => mb (by simp [z])) q)) fp (Nat.le_refl _) fresh1
    refine ⟨.ref s.heap.objs.size, _, J1, rfl, ⟨_, x, rfl, I.hok.fresh (Nat.le_refl _), rfl, fun ys hy => by rw [I.tuple_inj hy wq]; exact atx⟩, ⟨⟨x', ?_⟩, hst'.1.at fun ob q => (only1.2 it (Ne.symm qn)).trans q, qn⟩, fun bb mb => ?_⟩
    · have up1 : ((i + 1 : Nat) : Int) = (i : Int) + 1 := by
        omega
      rw [up1]; exact he'
    · have below : bb < s.heap.objs.size := by
        have two : bb = e ∨ bb = it := by simpa using mb
        rcases two with rfl | rfl
        · exact le1
        · exact le2
      rw [upd_ne (Nat.ne_of_lt below)]
      exact (fp bb mb).1
  done := by
    intro X hP hw hK wc i pins s σ H E I fp here got
    subst hP hw hK
    obtain ⟨⟨prev, qe⟩, qi, qn⟩ := here
    obtain ⟨xs, wq, atx⟩ := got
    obtain ⟨cells, rds, p, szz⟩ := I.tuple wq
    obtain ⟨f0, f1, f2, f3, f4, f5⟩ := fp it (by simp)
    have hl := rds.length
    have ne2 : a ≠ it := by
      intro z
      obtain ⟨ob, wo, hc2, _⟩ := p
      obtain ⟨o2, ho2, hc3, _⟩ := qi
      rw [z, ho2] at wo
      cases wo
      rw [hc3] at hc2
      injection hc2 with q
      exact absurd q (by decide)
    refine enumT_end (I.ok.hd wc) qe qi p ne2 (by simp; omega) fun h' eb => ⟨rfl, I.turned (t' := s.toks) (fun bb ob mb q => eb bb ob mb q) f0 f1 f3 f4 f5⟩
  self := fun A i s Q E here h => let ⟨⟨_, qe⟩, _⟩ := here; wpAny_pyIter_enum qe h
def iEnumT (K : PySem.W.Frag) (ta : TA) : TI := fun σ H R => ta σ H fun vs H1 => ∃ a xs, vs = [.ref a] ∧ SqT K H1 a xs ∧ R (IteT K a) H1
theorem pi_enumT {X : Cx} {e : Expr} {ta : TA} {p pos tpos : Pos} {elts : List Expr} {kk : Nat} (got : Gl X "enumerate") (hm : X.mg "enumerate" = none) (ha : PA X [e] ta) (hs : starEach [e] X.env = [(false, eval e X.env)] := by rfl) :
    PI X (.Tuple elts kk tpos) (.Call (.Name "enumerate" p) [e] [] pos) (iEnumT X.K ta) := by
  constructor
  intro pins s σ H R I h
  refine Call_ (ld_blt I got hm boot_enumerate (PyProof.Rows.callWith_type1 (thn (ha.run pos pins s σ H _ I h) fun us s1 ⟨vs, H1, J1, r1, q1⟩ => ?_) hs rfl))
  obtain ⟨a, xs, ex, wq, q⟩ := q1
  subst ex
  cases r1 with
  | cons r rr =>
    cases rr
    cases r
    obtain ⟨cells, rds, p', szz⟩ := J1.tuple wq
    refine call_enumerate_tup p' fun h' qe qi hsz keep1 => wpAny_pyIter_enum qe ?_
    have J2 : Inv X pins σ H1 { s1 with heap := h' } := J1.kept (t' := s1.toks) keep1
    refine ⟨s1.heap.objs.size + 1, [s1.heap.objs.size + 1, s1.heap.objs.size], _, _, H1, rfl, J2, turn_enumT a (s1.heap.objs.size + 1) s1.heap.objs.size, ⟨⟨.none, qe⟩, qi, Nat.succ_ne_self _⟩, fun bb mb => ?_, q⟩
    have e' : bb = s1.heap.objs.size + 1 ∨ bb = s1.heap.objs.size := by simpa using mb
    have above : bb ≥ s1.heap.objs.size := by
      rcases e' with w9 | w9 <;> rw [w9]
      · exact Nat.le_succ _
      · exact Nat.le.refl
    exact J1.fpOk above (J1.hok.fresh above)
/-- enumerate of a list or of a tuple -/
theorem pi_or {X : Cx} {tg l : Expr} {w1 w2 : TI} (h1 : PI X tg l w1) (h2 : PI X tg l w2) : PI X tg l (fun σ H R => w1 σ H R ∨ w2 σ H R) := ⟨fun pins s σ H R I h => by
  rcases h with h | h
  · exact h1.run pins s σ H R I h
  · exact h2.run pins s σ H R I h⟩
end Vf

namespace Vf
open PySem L2 PySem.Spec PyProof.Rows
/-! ### rules with the written part named (inside a comprehension nothing may lean on its block) -/
section
variable {X : Cx} (K : PySem.W.Frag) {pos : Pos}
theorem ixL (hK : X.K = K := by rfl) : IxR X (rIxL K) := hK ▸ ix_list
theorem ixT (hK : X.K = K := by rfl) : IxR X (rIxT K) := hK ▸ ix_tup
theorem slL (hK : X.K = K := by rfl) : SlR X (rSlL K) := hK ▸ sl_list
theorem slT (hK : X.K = K := by rfl) : SlR X (rSlA K) := hK ▸ sl_tupA
theorem eqDK (hu : X.A.units + 64 < cLine) (hK : X.K = K := by rfl) : OpR X (compareOp .Eq) (rEqD K) := hK ▸ op_eqD hu
theorem neDK (hu : X.A.units + 64 < cLine) (hK : X.K = K := by rfl) : OpR X (compareOp .NotEq) (rNeD K) := hK ▸ op_neD hu
theorem inSK (hK : X.K = K := by rfl) : OpR X (compareOp .In) (rIn K false) := hK ▸ op_in_seq
theorem niSK (hK : X.K = K := by rfl) : OpR X (compareOp .NotIn) (rIn K true) := hK ▸ op_notIn_seq
theorem lenSK (hK : X.K = K := by rfl) : CallR X (.builtin "len") (fun xs H Q => ∃ p ys, xs = [.ref p] ∧ (SqL K H p ys ∨ SqT K H p ys) ∧ Q (.int (ys.length : Nat)) H) := hK ▸ call_len_seq
theorem lstOK (hK : X.K = K := by rfl) : CallR X (.type "list") (fun xs H Q => ∃ p ys, xs = [.ref p] ∧ (SqL K H p ys ∨ SqT K H p ys) ∧ ∀ l, H l = none → Q (.ref l) (upd H l (.lst ys))) := hK ▸ call_list_of
theorem isiK (hK : X.K = K := by rfl) : CallR X (.builtin "isinstance") (rIsi K) := hK ▸ call_isi
theorem pe_fldK {e : Expr} {f : Str} {ta : TE} (ha : PE X e ta) (hb : attributeBase e f X.env (eval e X.env) = eval e X.env := by rfl) (hK : X.K = K := by rfl) : PE X (.Attribute e f pos) (tFld K ta f) := hK ▸ pe_fld ha hb
theorem pg_tupK {es : List Expr} {k : Nat} {t : TGs} {n : Nat} (hc : X.calm = true) (h : PGs X es t)
    (hn : (assignEach es X.env).length = n := by rfl) (hst : (assignEach es X.env).findIdx? (·.1) = none := by rfl) (hK : X.K = K := by rfl) : PG X (.Tuple es k pos) (gTup K n t) := hK ▸ pg_tup hc h hn hst
end
/-! ### readings of these -/
section
variable {σ : L2.St} {H : Hp} {K : PySem.W.Frag} {ta tb : TE} {as : TA}
theorem e_iRevR {tr : L2.St → Hp → (Int → Int → Hp → Prop) → Prop} {R : It → Hp → Prop} (q : tr σ H fun a b H1 => -(2 ^ 62) ≤ a ∧ a < 2 ^ 62 ∧ -(2 ^ 62) ≤ b ∧ b < 2 ^ 62 ∧ R (Itc (a + (((b - a).toNat : Nat) : Int) - 1) (-1) (b - a).toNat) H1) : iRevR tr σ H R := q
theorem e_rg1 {Q : Int → Int → Hp → Prop} (q : ta σ H fun x H1 => ∃ n, x = .int n ∧ Q 0 n H1) : tRg1 ta σ H Q := q
theorem e_rg2 {Q : Int → Int → Hp → Prop} (q : ta σ H fun x H1 => tb σ H1 fun y H2 => ∃ i j, x = .int i ∧ y = .int j ∧ Q i j H2) : tRg2 ta tb σ H Q := q
theorem e_iEnum {R : It → Hp → Prop} (q : as σ H fun vs H1 => ∃ a xs, vs = [.ref a] ∧ SqL K H1 a xs ∧ R (Ite K a) H1) : iEnum K as σ H R := q
theorem e_iEnumT {R : It → Hp → Prop} (q : as σ H fun vs H1 => ∃ a xs, vs = [.ref a] ∧ SqT K H1 a xs ∧ R (IteT K a) H1) : iEnumT K as σ H R := q
theorem e_iRng3 {R : It → Hp → Prop} (q : as σ H fun vs H1 => ∃ (i j c : Int) (n : Nat), vs = [.int i, .int j, .int c] ∧ RgC i j c n ∧ R (Itc i c n) H1) : iRng3 as σ H R := q
theorem e_slL {Q : VK} {p : Addr} {xs : List V} {lo hi : Option Int} (h : SqL K H p xs) (q : ∀ r, H r = none → Q (.ref r) (upd H r (.lst (cutV xs lo hi)))) : rSlL K (.ref p) lo hi H Q := ⟨p, xs, rfl, h, q⟩
theorem e_app {Q : VK} {l : Addr} {xs : List V} {y : V} (h : H l = some (.lst xs)) (hz : xs.length < sizeLine) (q : Q .non (upd H l (.lst (xs ++ [y])))) : rAppend (.ref l) [y] H Q := ⟨l, xs, y, rfl, rfl, h, hz, q⟩
theorem e_ext {Q : VK} {l b : Addr} {xs zs : List V} (h : H l = some (.lst xs)) (hb : H b = some (.lst zs)) (hz : xs.length + zs.length ≤ sizeLine) (q : Q .non (upd H l (.lst (xs ++ zs)))) : rExtend (.ref l) [.ref b] H Q := ⟨l, b, xs, zs, rfl, rfl, h, hb, hz, q⟩
end
/-! ### rows of ints as data -/
abbrev Di (l : List Int) : List PyData := l.map PyData.int
theorem dpAll_ints {K : PySem.W.Frag} {H : Hp} : ∀ xs : List Int, DpAll K H (xs.map V.int) (Di xs)
  | [] => .nil
  | x :: r => .cons (.int x) (dpAll_ints r)
theorem eqvAll_ints : ∀ xs ys : List Int, PyData.eqvAll (Di xs) (Di ys) = decide (xs = ys)
  | [], [] => by
      simp [PyData.eqvAll]
  | [], _ :: _ => by
      simp [PyData.eqvAll]
  | _ :: _, [] => by
      simp [PyData.eqvAll]
  | x :: xs, y :: ys => by
    have ih := eqvAll_ints xs ys
    show (PyData.eqv (.int x) (.int y) && PyData.eqvAll (Di xs) (Di ys)) = _
    rw [ih]
    show ((x == y) && decide (xs = ys)) = decide (x :: xs = y :: ys)
    by_cases h : x = y
    · subst h; simp
    · simp [h]
theorem canAll_ints : ∀ xs : List Int, PyData.canLayAll0 (Di xs) = true
  | [] => rfl
  | x :: r => by
    show (PyData.canLay0 (.int x) && PyData.canLayAll0 (Di r)) = true
    rw [canAll_ints r]; rfl
theorem depthAll_ints : ∀ xs : List Int, PyData.depthAll (Di xs) = 0
  | [] => rfl
  | x :: r => by
    show max 0 (PyData.depthAll (Di r)) = 0
    rw [depthAll_ints r]; rfl
theorem shaped_list {ds : List PyData} (h1 : PyData.canLayAll0 ds = true) (h2 : PyData.depthAll ds ≤ 60) : SeqAt.shaped (.list ds) = true := by
  unfold SeqAt.shaped
  rw [show PyData.canLay0 (.list ds) = PyData.canLayAll0 ds from rfl, h1, show PyData.depth (.list ds) = PyData.depthAll ds + 1 from rfl]
  simp
  omega
theorem shaped_tuple {ds : List PyData} (h1 : PyData.canLayAll0 ds = true) (h2 : PyData.depthAll ds ≤ 60) : SeqAt.shaped (.tuple ds) = true := by
  unfold SeqAt.shaped
  rw [show PyData.canLay0 (.tuple ds) = PyData.canLayAll0 ds from rfl, h1, show PyData.depth (.tuple ds) = PyData.depthAll ds + 1 from rfl]
  simp
  omega
theorem shaped_li (xs : List Int) : SeqAt.shaped (.list (Di xs)) = true := shaped_list (canAll_ints xs) (by rw [depthAll_ints]; decide)
theorem shaped_ti (xs : List Int) : SeqAt.shaped (.tuple (Di xs)) = true := shaped_tuple (canAll_ints xs) (by rw [depthAll_ints]; decide)
section
variable {K : PySem.W.Frag} {H : Hp} {Q : VK} {a b : Addr} {xs ys : List Int}
theorem e_eqLL (h1 : SqL K H a (xs.map V.int)) (h2 : SqL K H b (ys.map V.int)) (q : Q (.bl (decide (xs = ys))) H) : rEqD K (.ref a) (.ref b) H Q :=
  ⟨_, _, .lst h1 (dpAll_ints xs), .lst h2 (dpAll_ints ys), shaped_li xs, shaped_li ys, by rw [show PyData.eqv (.list (Di xs)) (.list (Di ys)) = PyData.eqvAll (Di xs) (Di ys) from rfl, eqvAll_ints]; exact q⟩
theorem e_neLL (h1 : SqL K H a (xs.map V.int)) (h2 : SqL K H b (ys.map V.int)) (q : Q (.bl (!decide (xs = ys))) H) : rNeD K (.ref a) (.ref b) H Q :=
  ⟨_, _, .lst h1 (dpAll_ints xs), .lst h2 (dpAll_ints ys), shaped_li xs, shaped_li ys, by rw [show PyData.eqv (.list (Di xs)) (.list (Di ys)) = PyData.eqvAll (Di xs) (Di ys) from rfl, eqvAll_ints]; exact q⟩
theorem e_eqTT (h1 : SqT K H a (xs.map V.int)) (h2 : SqT K H b (ys.map V.int)) (q : Q (.bl (decide (xs = ys))) H) : rEqD K (.ref a) (.ref b) H Q :=
  ⟨_, _, .tup h1 (dpAll_ints xs), .tup h2 (dpAll_ints ys), shaped_ti xs, shaped_ti ys, by rw [show PyData.eqv (.tuple (Di xs)) (.tuple (Di ys)) = PyData.eqvAll (Di xs) (Di ys) from rfl, eqvAll_ints]; exact q⟩
theorem e_neTT (h1 : SqT K H a (xs.map V.int)) (h2 : SqT K H b (ys.map V.int)) (q : Q (.bl (!decide (xs = ys))) H) : rNeD K (.ref a) (.ref b) H Q :=
  ⟨_, _, .tup h1 (dpAll_ints xs), .tup h2 (dpAll_ints ys), shaped_ti xs, shaped_ti ys, by rw [show PyData.eqv (.tuple (Di xs)) (.tuple (Di ys)) = PyData.eqvAll (Di xs) (Di ys) from rfl, eqvAll_ints]; exact q⟩
end
/-! ### the order of alike data -/
def rLtD (K : PySem.W.Frag) : R2 := fun x y H Q => ∃ d e, Dp K H x d ∧ Dp K H y e ∧ PySem.W.alike d e = true ∧ d ≠ .none ∧ d.depth ≤ 60 ∧ Q (.bl (PySem.W.dataLt d e)) H
def rGtD (K : PySem.W.Frag) : R2 := fun x y H Q => ∃ d e, Dp K H x d ∧ Dp K H y e ∧ PySem.W.alike d e = true ∧ d ≠ .none ∧ d.depth ≤ 60 ∧ Q (.bl (PySem.W.dataLt e d)) H
theorem op_ltD {X : Cx} (hu : X.A.units + 64 < cLine) : OpR X (compareOp .Lt) (rLtD X.K) := by
  intro pins s σ H x y v u C I rx ry hq
  obtain ⟨d, e, hd, he, sd, se, hp, q⟩ := hq
  obtain ⟨toks1, r1⟩ := Dp.reads I d x v hd rx
  obtain ⟨toks2, r2⟩ := Dp.reads I e y u he ry
  exact PySem.W.lt_data r1 r2 sd se (by have := Nat.min_le_left d.depth e.depth; omega) ⟨.bl _, H, I, rfl, q⟩
theorem op_gtD {X : Cx} (hu : X.A.units + 64 < cLine) : OpR X (compareOp .Gt) (rGtD X.K) := by
  intro pins s σ H x y v u C I rx ry hq
  obtain ⟨d, e, hd, he, sd, se, hp, q⟩ := hq
  obtain ⟨toks1, r1⟩ := Dp.reads I d x v hd rx
  obtain ⟨toks2, r2⟩ := Dp.reads I e y u he ry
  exact PySem.W.gt_data r1 r2 sd se (by have := Nat.min_le_left d.depth e.depth; omega) ⟨.bl _, H, I, rfl, q⟩
theorem alikeAll_ints : ∀ xs ys : List Int, PySem.W.alikeAll (Di xs) (Di ys) = true
  | [], _ => by simp [PySem.W.alikeAll]
  | _ :: _, [] => by simp [PySem.W.alikeAll]
  | x :: xs, y :: ys => by
    show (PySem.W.alike (.int x) (.int y) && PySem.W.alikeAll (Di xs) (Di ys)) = true
    rw [alikeAll_ints xs ys]; rfl
theorem lt_ints : ∀ xs ys : List Int, PyProof.Rows.lexLt PyProof.Rows.itemOrd (PySem.W.keyToksAll (Di xs)) (PySem.W.keyToksAll (Di ys)) = HT.lexLt xs ys
  | [], [] => by decide
  | [], y :: ys => by
    show PyProof.Rows.lexLt PyProof.Rows.itemOrd [.inl 0] (.inl 1 :: _) = true
    rw [PySem.W.lex_atom (by decide)]
    decide
  | x :: xs, [] => by
    show PyProof.Rows.lexLt PyProof.Rows.itemOrd (.inl 1 :: _) [.inl 0] = false
    rw [PySem.W.lex_atom (by decide)]
    decide
  | x :: xs, y :: ys => by
    have ih := lt_ints xs ys
    show _ = if x = y then HT.lexLt xs ys else decide (x < y)
    by_cases h : x = y
    · subst h
      rw [if_pos rfl, ← ih]
      exact PySem.W.dataLt_all_yes (x := .int x) (y := .int x) rfl (by simp [PyData.eqv])
    · rw [if_neg h, ← PySem.W.dataLt_int x y]
      exact PySem.W.dataLt_all_no (x := .int x) (y := .int y) rfl (by simpa [PyData.eqv] using h)
theorem e_ltLL {K : PySem.W.Frag} {H : Hp} {Q : VK} {a b : Addr} {xs ys : List Int} (h1 : SqL K H a (xs.map V.int)) (h2 : SqL K H b (ys.map V.int)) (q : Q (.bl (HT.lexLt xs ys)) H) : rLtD K (.ref a) (.ref b) H Q :=
  ⟨_, _, .lst h1 (dpAll_ints xs), .lst h2 (dpAll_ints ys), alikeAll_ints xs ys, by simp, by show PyData.depthAll (Di xs) + 1 ≤ 60; rw [depthAll_ints]; decide, by
    rw [PySem.W.dataLt_list, lt_ints]; exact q⟩
/-! ### loops over rows of ints -/
theorem at_split {ns : List Int} {i : Nat} {x : V} (hx : (ns.map V.int)[i]? = some x) : ∃ y, x = .int y ∧ ns = ns.take i ++ y :: ns.drop (i + 1) ∧ ns.take (i + 1) = ns.take i ++ [y] := by
  rw [List.getElem?_map] at hx
  cases e : ns[i]? with
  | none => rw [e] at hx; cases hx
  | some y =>
    rw [e] at hx
    have e2 := (List.getElem?_eq_some_iff.mp e).2
    refine ⟨y, (Option.some.inj hx).symm, ?_, by rw [List.take_add_one, e]; rfl⟩
    rw [← e2, List.getElem_cons_drop, List.take_append_drop]
section
variable {K : PySem.W.Frag} {g : TG} {t : TS} {D : Ends} {σ : L2.St} {H : Hp} {tt : TT} {te : TE} {vs : List Nat} {Q : VK} {Da a : Addr} {ns : List Int}
theorem for_ints (Pv : List Int → L2.St → Hp → Prop) (h0 : Pv [] σ H) (hl : ∀ pre σ H, Pv pre σ H → SqL K H a (ns.map V.int))
    (hs : ∀ (pre : List Int) (x : Int) (post : List Int) σ H, ns = pre ++ x :: post → Pv pre σ H → g (.int x) σ H fun σ2 H2 => t { D with nx := Pv (pre ++ [x]), ct := Pv (pre ++ [x]), bk := D.nx } σ2 H2)
    (hd : ∀ σ H, Pv ns σ H → D.nx σ H) : ForB (Itl K a) g t D σ H := by
  refine for_list (xs := ns.map V.int) (fun i => Pv (ns.take i)) (by simpa using h0) (fun i σ H _ p => hl _ σ H p) (fun i x σ H hx p => ?_) (fun σ H p => ?_)
  · obtain ⟨y, rfl, e1, e2⟩ := at_split hx
    rw [e2]
    exact hs _ y _ σ H e1 p
  · rw [List.length_map, List.take_length] at p
    exact hd σ H p
theorem for_intsT (Pv : List Int → L2.St → Hp → Prop) (h0 : Pv [] σ H) (hl : ∀ pre σ H, Pv pre σ H → SqT K H a (ns.map V.int))
    (hs : ∀ (pre : List Int) (x : Int) (post : List Int) σ H, ns = pre ++ x :: post → Pv pre σ H → g (.int x) σ H fun σ2 H2 => t { D with nx := Pv (pre ++ [x]), ct := Pv (pre ++ [x]), bk := D.nx } σ2 H2)
    (hd : ∀ σ H, Pv ns σ H → D.nx σ H) : ForB (Itt K a) g t D σ H := by
  refine for_tup (xs := ns.map V.int) (fun i => Pv (ns.take i)) (by simpa using h0) (fun i σ H _ p => hl _ σ H p) (fun i x σ H hx p => ?_) (fun σ H p => ?_)
  · obtain ⟨y, rfl, e1, e2⟩ := at_split hx
    rw [e2]
    exact hs _ y _ σ H e1 p
  · rw [List.length_map, List.take_length] at p
    exact hd σ H p
theorem walk_enumT {xs : List V} : Walk (IteT K a) xs.length (fun H => SqT K H a xs) (YPair (fun i => some (.int (i : Nat))) (fun i => xs[i]?)) := by
  refine ⟨fun i _ hi q => ⟨xs, xs[i], q, by simp [hi]⟩,
    fun _ q => ⟨xs, q, Nat.le_refl _⟩, fun i H v H' _ q y => ?_⟩
  obtain ⟨T, x, g1, g2, g3, g4⟩ := y
  exact ⟨T, .int (i : Nat), x, g1, g2, g3, rfl, g4 xs q⟩
theorem for_enumI (Pv : List Int → L2.St → Hp → Prop) (h0 : Pv [] σ H) (hl : ∀ pre σ H, Pv pre σ H → SqL K H a (ns.map V.int))
    (hs : ∀ (pre : List Int) (x : Int) (post : List Int) (T : Addr) σ H, ns = pre ++ x :: post → Pv pre σ H → H T = none → g (.ref T) σ (upd H T (.tup [.int (pre.length : Nat), .int x])) fun σ2 H2 => t { D with nx := Pv (pre ++ [x]), ct := Pv (pre ++ [x]), bk := D.nx } σ2 H2)
    (hd : ∀ σ H, Pv ns σ H → D.nx σ H) : ForB (Ite K a) g t D σ H := by
  refine for_it (walk_enum (xs := ns.map V.int)) (fun i => Pv (ns.take i)) (by simpa using h0) (fun i σ H _ p => hl _ σ H p) (fun i x σ H H' hi p y => ?_) (fun σ H p => ?_)
  · obtain ⟨T, u, v, rfl, hT, rfl, hu, hv⟩ := y
    obtain ⟨z, rfl, e1, e2⟩ := at_split hv
    cases (Option.some.inj hu)
    rw [e2]
    have hl : (ns.take i).length = i := by rw [List.length_map] at hi; rw [List.length_take]; omega
    have q := hs (ns.take i) z _ T σ H e1 p hT
    rw [hl] at q
    exact q
  · rw [List.length_map, List.take_length] at p
    exact hd σ H p
theorem for_enumIT (Pv : List Int → L2.St → Hp → Prop) (h0 : Pv [] σ H) (hl : ∀ pre σ H, Pv pre σ H → SqT K H a (ns.map V.int))
    (hs : ∀ (pre : List Int) (x : Int) (post : List Int) (T : Addr) σ H, ns = pre ++ x :: post → Pv pre σ H → H T = none → g (.ref T) σ (upd H T (.tup [.int (pre.length : Nat), .int x])) fun σ2 H2 => t { D with nx := Pv (pre ++ [x]), ct := Pv (pre ++ [x]), bk := D.nx } σ2 H2)
    (hd : ∀ σ H, Pv ns σ H → D.nx σ H) : ForB (IteT K a) g t D σ H := by
  refine for_it (walk_enumT (xs := ns.map V.int)) (fun i => Pv (ns.take i)) (by simpa using h0) (fun i σ H _ p => hl _ σ H p) (fun i x σ H H' hi p y => ?_) (fun σ H p => ?_)
  · obtain ⟨T, u, v, rfl, hT, rfl, hu, hv⟩ := y
    obtain ⟨z, rfl, e1, e2⟩ := at_split hv
    cases (Option.some.inj hu)
    rw [e2]
    have hl : (ns.take i).length = i := by rw [List.length_map] at hi; rw [List.length_take]; omega
    have q := hs (ns.take i) z _ T σ H e1 p hT
    rw [hl] at q
    exact q
  · rw [List.length_map, List.take_length] at p
    exact hd σ H p
/-- [e for k in range(a, b, c)], e a function of the turn -/
theorem lc_map_rngC {lo c : Int} {n : Nat} {H0 : Hp} (hD : H0 Da = none) (hn : n ≤ 1000000) (f : Nat → V)
    (hs : ∀ (i : Nat) (H2 : Hp) (C : VK) (E : Hp → Prop), i < n → Same H0 H2 → (∀ H3, Same H2 H3 → C (f i) H3) →
      g (.int (lo + (i : Nat) * c)) (wipe σ vs) H2 fun σ2 H2 => wipe σ2 vs = wipe σ vs ∧ tYes σ2 H2 fun b H3 => if b = true then te σ2 H3 C else E H3)
    (hd : ∀ (H : Hp), Same H0 H → H Da = some (.lst ((List.range n).map f)) → Q (.ref Da) H) : LcB (Itc lo c n) g tYes te vs σ Da H0 Q := by
  refine lc_it walk_rangeC (fun i H2 => Same H0 H2 ∧ H2 Da = some (.lst ((List.range i).map f))) ⟨same_new hD, upd_same⟩ (fun _ _ _ _ => trivial) (fun i x H2 H' hi p y => ?_) (fun H2 p => hd H2 p.1 p.2)
  obtain ⟨rfl, rfl⟩ := y
  obtain ⟨k4, e4⟩ := p
  refine hs i _ _ _ hi k4 fun H3 k5 => ?_
  refine ⟨_, k5 _ _ e4, Nat.lt_of_le_of_lt (by simp; omega : _ ≤ 1000000) (by decide), Same.mut (k4.trans k5) hD, ?_⟩
  rw [upd_same, List.range_succ, List.map_append]
  rfl
end
theorem i_bneself {b : Bool} {A B : Prop} (h : B) : if (b != b) = true then A else B := by
  have e : (b != b) = false := by cases b <;> rfl
  rw [e]; exact i_F h
theorem i_beself {b : Bool} {A B : Prop} (h : A) : if (b == b) = true then A else B := by
  rw [beq_self_eq_true]; exact i_T h
/-! ### a list or a tuple -/
/-- a row of values, a list's or a tuple's -/
abbrev SqE (K : PySem.W.Frag) (H : Hp) (p : Addr) (xs : List V) : Prop := SqL K H p xs ∨ SqT K H p xs
theorem Same.seqE {K : PySem.W.Frag} {H H' : Hp} {a : Addr} {xs : List V} (e : Same H H') (h : SqE K H a xs) : SqE K H' a xs := by
  rcases h with h | h
  · exact .inl (e.seq h)
  · refine .inr ?_
    rcases h with (h | ⟨c9, h⟩) | h
    · exact .inl (.inl (e _ _ h))
    · exact .inl (.inr ⟨c9, e _ _ h⟩)
    · exact .inr h
theorem e_ixE {K : PySem.W.Frag} {H : Hp} {Q : VK} {p : Addr} {xs : List V} {i : Int} {v : V} (h : SqE K H p xs) (ha : atI xs i = some v) (q : Q v H) : rIxL K (.ref p) (.int i) H Q ∨ rIxT K (.ref p) (.int i) H Q := by
  rcases h with h | h
  · exact .inl (e_ixL h ha q)
  · exact .inr (e_ixT h ha q)
/-- a list of the turn's values, over a list -/
theorem lc_map_lstI {K : PySem.W.Frag} {g : TG} {te : TE} {vs : List Nat} {σ : L2.St} {Da a : Addr} {H0 : Hp} {Q : VK} {xs : List V} (hS : SqL K H0 a xs) (hD : H0 Da = none) (hn : xs.length ≤ 1000000) (f : Nat → V)
    (hs : ∀ (i : Nat) (x : V) (H2 : Hp) (C : VK) (E : Hp → Prop), xs[i]? = some x → Same H0 H2 → (∀ H3, Same H2 H3 → C (f i) H3) →
      g x (wipe σ vs) H2 fun σ2 H2 => wipe σ2 vs = wipe σ vs ∧ tYes σ2 H2 fun b H3 => if b = true then te σ2 H3 C else E H3)
    (hd : ∀ (H : Hp), Same H0 H → H Da = some (.lst ((List.range xs.length).map f)) → Q (.ref Da) H) : LcB (Itl K a) g tYes te vs σ Da H0 Q := by
  refine lc_list (xs := xs) (fun i H2 => Same H0 H2 ∧ H2 Da = some (.lst ((List.range i).map f))) ⟨same_new hD, upd_same⟩ (fun i H2 _ p => p.1.seq hS) (fun i x H2 hx p => ?_) (fun H2 p => hd H2 p.1 p.2)
  obtain ⟨k4, e4⟩ := p
  have hi := (List.getElem?_eq_some_iff.mp hx).1
  refine hs i x H2 _ _ hx k4 fun H3 k5 => ?_
  refine ⟨_, k5 _ _ e4, Nat.lt_of_le_of_lt (by rw [List.length_map, List.length_range]; omega : _ ≤ 1000000) (by decide), Same.mut (k4.trans k5) hD, ?_⟩
  rw [upd_same, List.range_succ, List.map_append]
  rfl
end Vf

namespace Vf
open PySem L2 PySem.Spec PyProof.Rows
/-- a plain tuple of pairs: made by tuple(list), or by an update -/
def PlT (H : Hp) (a : Addr) (xs : List V) : Prop := ∃ o : Obj, o.dict = none ∧ H a = some (.frz o (.tup xs))
theorem PlT.seq {K : PySem.W.Frag} {H : Hp} {a : Addr} {xs : List V} (h : PlT H a xs) : SqT K H a xs := by
  obtain ⟨o, _, e⟩ := h
  exact .inl (.inr ⟨o, e⟩)
theorem PlT.same {H H' : Hp} {a : Addr} {xs : List V} (h : PlT H a xs) (e : Same H H') : PlT H' a xs := by
  obtain ⟨o, d, q⟩ := h
  exact ⟨o, d, e _ _ q⟩
theorem uvs_of {X : Cx} {pins : List (Addr × Obj)} {σ : L2.St} {H : Hp} {s : Shared} (I : Inv X pins σ H s) : ∀ {ps : List Addr} {kvs : List (Key × V)}, Paired (fun p kv => SqT X.K H p [kV kv.1, kv.2]) ps kvs →
    ∃ (prs : List (Key × Value)) (uvs : List (Value × Value)), KV kvs prs ∧ prs.length = ps.length ∧ uvs.length = ps.length ∧
      ∀ (j : Nat) (u y : Value), uvs[j]? = some (u, y) → ∃ (b : Addr) (k : Key), ps[j]? = some b ∧ PairAt s.heap b u y ∧ prs[j]? = some (k, y) ∧ keyIs k u = true
  | _, _, .nil => ⟨[], [], .nil, rfl, rfl, fun j u y e => by simp at e⟩
  | _, _, .cons (a := p) (b := kv) h t => by
    obtain ⟨prs, uvs, r, l1, l2, q⟩ := uvs_of I t
    obtain ⟨its, rv, ht, _⟩ := I.tuple h
    obtain ⟨u, y, rfl, ru, ry⟩ := vals2 rv
    refine ⟨(kv.1, y) :: prs, (u, y) :: uvs, .cons ⟨rfl, ry⟩ r, by simp [l1], by simp [l2], fun j u' y' e => ?_⟩
    cases j with
    | zero =>
      cases (Option.some.inj e)
      exact ⟨p, kv.1, rfl, .inl ht, rfl, kV_is (P := X.prog) (w := X.w) ru⟩
    | succ j =>
      obtain ⟨b, k, e1, e2, e3, e4⟩ := q j u' y' (by simpa using e)
      exact ⟨b, k, by simpa using e1, e2, by simpa using e3, e4⟩
theorem refs_of : ∀ {ps : List Addr} {us : List Value}, Vals (ps.map V.ref) us → us = ps.map Value.ref
  | [], _, .nil => rfl
  | p :: ps, _, .cons h t => by
    cases h
    rw [refs_of t]
    rfl
/-- dict(t), t a plain tuple of pairs -/
theorem call_dictPT {X : Cx} (hcalm : X.calm = true) : CallR X (.type "dict") (fun xs H Q => ∃ (a : Addr) (ps : List Addr) (kvs : List (Key × V)), xs = [.ref a] ∧ PlT H a (ps.map V.ref) ∧ Paired (fun p kv => SqT X.K H p [kV kv.1, kv.2]) ps kvs ∧
    ∀ p, H p = none → Q (.ref p) (upd H p (.dK (mergeK [] kvs)))) := by
  intro pins s σ H xs us Q I r q
  obtain ⟨a, ps, kvs, rfl, ⟨o, hd, ea⟩, hp, q⟩ := q
  obtain ⟨u, rfl, rx⟩ := vals1 r
  cases rx
  obtain ⟨ho, hz, its, rv, o2, ho2, hc, n, hdat⟩ := (show ObjOk X.prog X.w H s.heap a (.frz o (.tup (ps.map V.ref))) from I.hok a _ ea)
  rw [ho] at ho2
  cases (Option.some.inj ho2)
  have ei := refs_of rv
  subst ei
  rw [List.length_map] at hz
  obtain ⟨prs, uvs, rel, l1, l2, hq⟩ := uvs_of I hp
  have ok : PlainSeq "tuple" s.heap a (ps.map Value.ref).toArray ∧ PairItems s.heap (ps.map Value.ref).toArray (fun j => ps.getD j 0) uvs := by
    refine ⟨⟨o, n, ho, hc, hd, hdat⟩, by simp [l2], fun j k v hj => ?_⟩
    obtain ⟨b, key, e1, e2, _, _⟩ := hq j k v hj
    have e5 : ps.getD j 0 = b := by rw [List.getD_eq_getElem?_getD, e1]; rfl
    show _ ∧ PairAt s.heap (ps.getD j 0) k v
    rw [e5]
    exact ⟨by simp [e1], e2⟩
  refine PySem.call_dict_pairs (knd := mixKind X.prog X.w) (kvs := prs) (PairArg.tuple a (ps.map Value.ref).toArray (fun j => ps.getD j 0) uvs) (I.ok.hd hcalm) ok ⟨by rw [l1, l2], fun i key v hr => ?_⟩ (by rw [l2]; exact hz) fun h' tk hd' k => ?_
  · obtain ⟨b, k, _, _, e3, e4⟩ := hq i key v hr
    exact ⟨k, e3, e4⟩
  · have hm : (s.heap.objs.size == sysModules) = false := beq_eq_false_iff_ne.mpr (Nat.ne_of_gt I.big)
    have hlen : (mergeK [] kvs).length ≤ sizeLine := by
      have h1 := length_mergeK kvs []
      have h2 := rel.length
      rw [List.length_nil] at h1
      omega
    exact ⟨.ref s.heap.objs.size, upd H s.heap.objs.size (.dK (mergeK [] kvs)), I.laid (t' := tk) (fun b ob e => k b ob (by simp) e) (Nat.le_refl _) (show ObjOk X.prog X.w _ _ _ (.dK (mergeK [] kvs)) from ⟨hlen, hm, merged [] prs, KV.merge rel .nil, hd'⟩), rfl, q _ (I.hok.fresh (Nat.le_refl _))⟩
/-- tuple(l), l a list: a plain tuple -/
theorem call_tupleF {X : Cx} : CallR X (.type "tuple") (fun xs H Q => ∃ p ys, xs = [.ref p] ∧ SqL X.K H p ys ∧ ∀ l H', H l = none → Same H H' → PlT H' l ys → (∀ b, b ≠ l → H' b = H b) → Q (.ref l) H') := by
  intro pins s σ H xs us Q I r q
  obtain ⟨p, ys, rfl, hq, q⟩ := q
  obtain ⟨u, rfl, rx⟩ := vals1 r
  cases rx
  obtain ⟨its, rv, pl, hz⟩ := I.list hq
  have hlen := rv.length
  refine call_tuple_list pl.isList (fun h' kp => ?_) (by simp only [List.size_toArray] <;> omega)
  have J1 : Inv X pins σ H { s with heap := h' } := I.kept (t' := s.toks) kp
  have hfr := J1.hok.fresh (Nat.le_refl _)
  have J2 : Inv X pins σ (upd H h'.objs.size (.frz { cls := .type "tuple", data := .seq its.toArray } (.tup ys))) { s with heap := h'.push { cls := .type "tuple", data := .seq its.toArray } } :=
    J1.laid (t' := s.toks) (fun b ob e => Heap.get?_push_of_some _ e) (Nat.le_refl _) ⟨Heap.get?_push_size _ rfl, hz, its, rv, IsTup.new _ _⟩
  exact ⟨.ref h'.objs.size, _, J2, rfl, q _ _ hfr (same_new hfr) ⟨_, rfl, upd_same⟩ fun b hb => upd_ne hb⟩
theorem tupFK (K : PySem.W.Frag) {X : Cx} (hK : X.K = K := by rfl) : CallR X (.type "tuple") (fun xs H Q => ∃ p ys, xs = [.ref p] ∧ SqL K H p ys ∧ ∀ l H', H l = none → Same H H' → PlT H' l ys → (∀ b, b ≠ l → H' b = H b) → Q (.ref l) H') := hK ▸ call_tupleF
end Vf

namespace PySem
namespace ErrX
open PySem.W PySem.Calls PyProof.Rows PySem.HandSPX
/-! ### the text of __init__ -/
def iA (p1 p2 : Pos) : Arguments := { posonlyargs := [], args := [{ arg := "self", annotation := none, pos := p1 }, { arg := "place", annotation := none, pos := p2 }], vararg := none, kwonlyargs := [], kw_defaults := [], kwarg := none, defaults := [] }
def iB (q1 q2 q3 q4 : Pos) : List Stmt := [.Assign [.Attribute (.Name "self" q1) "place" q2] (.Name "place" q3) q4]
def iS : Scope := { kind := .function, names := [(PySem.Str.ofString "self", .local), (PySem.Str.ofString "place", .local)], isGenerator := false, isCoroutine := false, more := [] }
/-- what the written part says of Low, at C, and of its __init__, at fI -/
structure ErrTxt (K : Frag) (mg : Str → Option Value) (x : Str) (C fI : Addr) : Prop where
  gC : mg x = some (.ref C)
  cls : ∃ nm q N bs bm sn sub ab col dd k0 k1 k2 k3 k5, K.lookup C = some (excClassObj nm q C N bs bm true sn sub ab col dd k0 k1 k2 k3 k5 "ValueError.__new__") ∧ refsVE bm = true
  sa : findIn K (.ref C) "__setattr__" = some (some (.builtin "object.__setattr__"))
  ga : findIn K (.ref C) "__getattribute__" = some (some (.builtin "BaseException.__getattribute__"))
  gg : findIn K (.ref C) "__getattr__" = some none
  noN : findIn K (.ref C) "place" = some none
  iC : findIn K (.ref C) "__init__" = some (some (.ref fI))
  tC : typeIn K (.ref fI) = some (.type "function")
  kC : keepIn K (.ref C) = true
  exC : subIn K (.ref C) (.type "BaseException") = some true
  tyC : typeIn K (.ref C) = some (.type "type")
  hdC : hasDictIn K C = true
  te : exmOne K (.ref C) (.ref C) = some true
  fn : ∃ (oc : Value) (od : Option Addr) (kV doc pm : Value) (an : Option Addr) (cdv ct : Value) (osl : Array (Option Value)) (p1 p2 q1 q2 q3 q4 : Pos),
    K.lookup fI = some ⟨oc, od, .func (fnOf "__init__" "FolderkinError.__init__" (iA p1 p2) (iB q1 q2 q3 q4) iS .none kV doc pm an cdv ct), osl⟩ ∧ codeIn K cdv "FolderkinError.__init__" = true
theorem one_size (v : Value) : [v].length ≤ sizeLine := by
  rw [sizeLine_eq]
  exact (by decide : 1 ≤ 16777216)
theorem kept_but {K : Frag} {h h' : Heap} {x : Addr} (X : K.In h) (hx : K.lookup x = none) (k : ∀ b o, b ≠ x → h.get? b = some o → h'.get? b = some o) : K.In h' := fun a o e =>
  k a o (fun z => by rw [z, hx] at e; cases e) (X a o e)
theorem ldC {M : Model} {s : Shared} {name : Str} {scope : Scope} {L a : Addr} {cd : Value} {m : Str → Option Value} {x : Str} {pos : Pos} {v : Value} {Q : Value → Shared → Prop} {A : Around} {E : Value → Shared → Prop} (hn : s.heap.Ns L m) (hv : m x = some v) (h : Q v s)
    (hk : scope.kind = .function := by rfl) (hl : (envOfC name scope L a cd).kindOf x = some .local := by rfl) (hd : (x == ("__debug__" : Str)) = false := by decide) :
    wpAny M A (eval (.Name x pos) (envOfC name scope L a cd)) Q E s := wpAny_Name (wpAny_loadName_local hk hl hn hv h) hd
/-- what __init__ leaves of a fresh exception at x -/
structure InitEnd (h h' : Heap) (x C dx t1 : Addr) (v : Value) : Prop where
  keep : ∀ b o, b ≠ x → h.get? b = some o → h'.get? b = some o
  obj : h'.get? x = some { cls := .ref C, dict := some dx, data := .fields #[.ref t1, .none, .none, .none, .bool false, .none] }
  dbig : h.objs.size ≤ dx
  dne : dx ≠ x
  ns : h'.Ns1 dx (fun y => if y = "place" then some v else none)
/-- a made Low -/
structure OwnMade (h h' : Heap) (e C d : Addr) (v : Value) : Prop where
  keep : ∀ b o, h.get? b = some o → h'.get? b = some o
  new : h.objs.size ≤ e
  obj : ∃ oe vs, h'.get? e = some oe ∧ oe.cls = .ref C ∧ oe.dict = some d ∧ oe.data = .fields vs ∧ vs[1]? = some .none
  dbig : h.objs.size ≤ d
  dne : d ≠ e
  ns : h'.Ns1 d (fun y => if y = "place" then some v else none)
section
variable {prog : Program} {w : World} {A : Around} {E : Value → Shared → Prop} {R : Result → Shared → Prop} {s : Shared} {K : Frag} {mg : Str → Option Value} {C fI : Addr}
theorem err_init (T : ErrTxt K mg nmx C fI) {x t0 : Addr} {v : Value} (X : K.In s.heap) (hlim : s.heap.NoLimit) (hx : s.heap.get? x = some (excO C t0)) (hnx : K.lookup x = none) (hroom : A.depth < recursionLimit)
    (hq : ∀ h' tk dx, InitEnd s.heap h' x C dx t0 v → R (.ok (.ret .none)) { s with heap := h', toks := tk }) :
    codeAny (model prog w) A (.call (.ref fI) ⟨[.ref x, v], []⟩) R s := by
  obtain ⟨oc, od, kV, doc, pm, an, cdv, ct, osl, p1, p2, q1, q2, q3, q4, ho, hcd⟩ := T.fn
  obtain ⟨nm, q, N, bs, bm, sn, sub, ab, col, dd, k0, k1, k2, k3, k5, hC, hbm⟩ := T.cls
  have hcl : clsIn K C = some { name := nm, bases := bs, mro := .ref C :: bm, ns := N, qualname := q, hasDict := true, slotNames := sn, subclasses := sub, abstract := ab, collection := col, hasDel := false } := by unfold clsIn; rw [hC] <;> rfl
  refine Att.call_fn (binds := [("self", .ref x), ("place", v)]) X hlim ho hcd hroom (BindsTo.of_eq (by first | rfl | with_unfolding_all rfl)) (by first | rfl | decide | with_unfolding_all rfl) (fun s₁ IC => ?_) rfl rfl rfl
  obtain ⟨h₁, tk₁, rfl⟩ := IC.toInCall.same
  have k : ∀ b o, s.heap.get? b = some o → h₁.get? b = some o := IC.toInCall.keep
  have hn := IC.toInCall.ns
  have hxL : s.heap.objs.size ≠ x := Nat.ne_of_gt (Heap.lt_size hx)
  have X₁ : K.In h₁ := X.keeps k
  have hx₁ := k _ _ hx
  -- self.by = by
  show wpAny _ _ (execs _ _) _ _ _
  refine wpAny_execs_cons (plainObj_wpAny_Assign_Attribute ?_)
  refine ldC (v := v) hn (by first | rfl | with_unfolding_all rfl | kernel_rfl) (ldC (v := .ref x) hn (by first | rfl | with_unfolding_all rfl | kernel_rfl) ?_)
  refine set_plain X₁ (ox := excO C t0) (od := none) ⟨hx₁, rfl, rfl, trivial⟩ T.sa ?_
  refine exc_osa X₁ hx₁ hcl (show refsVE (.ref C :: bm) = true from hbm) rfl T.noN (fun h₃ tk₃ dx k₃ dn dne hx₃ hn₃ => ?_)
  show wpAny _ _ (execs _ _) _ _ _
  have z : s.heap.objs.size < h₁.objs.size := hn.lt
  exact wpAny_execs_nil (hq h₃ tk₃ dx ⟨fun b o hb e => k₃ b o hb (k b o e), hx₃, Nat.le_of_lt (Nat.lt_of_lt_of_le z dn), dne, hn₃⟩)
theorem err_made (T : ErrTxt K mg nmx C fI) {v : Value} (X : K.In s.heap) (hlim : s.heap.NoLimit) (hroom : A.depth + 1 < recursionLimit)
    (hq : ∀ h' tk e d, OwnMade s.heap h' e C d v → R (.ok (.ret (.ref e))) { s with heap := h', toks := tk }) :
    codeAny (model prog w) A (.call (.ref C) ⟨[v], []⟩) R s := by
  obtain ⟨nm, q, N, bs, bm, sn, sub, ab, col, dd, k0, k1, k2, k3, k5, hC, hbm⟩ := T.cls
  obtain ⟨hp, g, dr, tk, os⟩ := s
  have k : ∀ b o, hp.get? b = some o → ((hp.push (kdv_tup [v])).push (excO C hp.objs.size)).get? b = some o := fun b o e => Heap.get?_push_of_some _ (Heap.get?_push_of_some _ e)
  have hget : ((hp.push (kdv_tup [v])).push (excO C hp.objs.size)).get? (hp.objs.size + 1) = some (excO C hp.objs.size) := by heap_get
  have hnx : K.lookup (hp.objs.size + 1) = none := by
    cases e : K.lookup (hp.objs.size + 1) with
    | none => rfl
    | some o =>
      have z : hp.get? (hp.objs.size + 1) = some o := X _ _ e
      exact absurd (Nat.lt_of_succ_lt (Heap.lt_size z)) (Nat.lt_irrefl _)
  refine call_own F.excBase_ValueError (fun X => refsVE_contains X bm hbm) (X _ _ hC) (looks_findIn X T.iC) (fun self => bind_fn X self T.tC) (one_size v) ?_
  refine err_init (s := ⟨(hp.push (kdv_tup [v])).push (excO C hp.objs.size), g, dr, tk, os⟩) T (X.keeps k) (hlim.keeps k) hget hnx ?_ fun h' tk' dx ⟨k', hx, dn, dne, hns⟩ => ?_
  · show A.depth + 1 < recursionLimit
    exact hroom
  · have old : ∀ b o, hp.get? b = some o → h'.get? b = some o := fun b o e => k' b o (Nat.ne_of_lt (Nat.lt_succ_of_lt (Heap.lt_size e))) (k b o e)
    have z : hp.objs.size + 1 + 1 ≤ dx := by
      first
        | (simpa only [Heap.size_push] using dn)
        | exact dn
        | (have q := dn; rw [Heap.size_push, Heap.size_push] at q; exact q)
    exact ⟨rfl, hq h' tk' (hp.objs.size + 1) dx ⟨old, Nat.le_succ _, ⟨_, _, hx, rfl, rfl, rfl, rfl⟩, Nat.le_trans (Nat.le_trans (Nat.le_succ _) (Nat.le_succ _)) z, dne, hns⟩⟩
end
end ErrX
end PySem
namespace L2
open PySem PySem.Spec PyProof.Rows
theorem relO_plc {v : V} {v' : Value} (r : RelV v v') (f : Str) : RelO (List.lookup f [(("place" : Str), v)]) (if f = "place" then some v' else none) := by
  by_cases hw : f = "place"
  · subst hw
    rw [if_pos rfl]
    have q : List.lookup ("place" : Str) [(("place" : Str), v)] = some v := by simp [List.lookup]
    rw [q]
    exact r
  · rw [if_neg hw]
    have qw : (f == ("place" : Str)) = false := by simpa using hw
    have q2 : List.lookup f [(("place" : Str), v)] = none := by simp [List.lookup, qw]
    rw [q2]
    trivial
section
variable {X : Cx} {C fI : Addr}
/-- Low(e) -/
def tMkErr (C : Addr) (ta : TA) : St → Hp → XK → Prop := fun σ H Q => ta σ H fun vs H1 => ∃ v, vs = [v] ∧ ∀ d, H1 d = none → Q (.ref C) (some d) (upd H1 d (.xd [(("place" : Str), v)]))
theorem pmk_err {a : Expr} {ta : TA} {p pos : Pos} {k : Nat} (T : PySem.ErrX.ErrTxt X.K X.mg nmx C fI) (hr : Room k X.A) (ha : PA X [a] ta) (hg : Gl X nmx := by rfl)
    (he : starEach (a :: []) X.env = (false, eval a X.env) :: starEach [] X.env := by rfl) (hpl : (backTo pos (starEach [] X.env)).any (·.1) = false := by rfl) (hdb : (nmx == ("__debug__" : Str)) = false := by decide) :
    PMk X (.Call (.Name nmx p) [a] [] pos) (tMkErr C ta) := by
  intro pins s σ H Q I h
  refine wpAny_Call_Name_kw (ld_glob I hg T.gC ?_ hdb)
  refine PySem.W.callWith_K (h₀ := X.base) I.ok.mod.kin T.kC (thn (ha.run pos pins s σ H _ I h) fun us s1 hh => ?_) he hpl
  obtain ⟨vs, H1, I1, r1, v, ev, q1⟩ := hh
  subst ev
  refine ⟨I1.kIn, ?_⟩
  cases r1 with
  | cons rv rn =>
    rename_i v' us'
    cases rn
    show wpAny _ _ (call (.ref C) [v']) _ _ _
    have hlim := I1.nolimit
    obtain ⟨hp, g, dr, tk, os⟩ := s1
    refine wpAny_call (PySem.ErrX.err_made T I1.kIn hlim (by have := hr.dp; omega) fun h' tk' e d M => ?_)
    show MkP X pins σ Q (.ref e) ⟨h', g, dr, tk', os⟩
    obtain ⟨oe, fv, hoe, hc, hd, hdat, h1⟩ := M.obj
    have hns := M.ns
    obtain ⟨G', g1, g2⟩ := restrict h' fun b => decide (b ≠ e)
    have gk : ∀ b, b ≠ e → G'.get? b = h'.get? b := fun b hb => g1 b (decide_eq_true hb)
    have ge : G'.get? e = none := g2 e (by simp)
    have old : ∀ b o, hp.get? b = some o → G'.get? b = some o := fun b o q => (gk b (Nat.ne_of_lt (Nat.lt_of_lt_of_le (Heap.lt_size q) M.new))).trans (M.keep b o q)
    have ob : ObjOk X.prog X.w (upd H1 d (.xd [(("place" : Str), v)])) G' d (.xd [(("place" : Str), v)]) :=
      ⟨_, hns.at (fun o q => (gk d M.dne).trans q), fun f => relO_plc rv f⟩
    have J : Inv X pins σ (upd H1 d (.xd [(("place" : Str), v)])) ⟨G', g, dr, tk', os⟩ := I1.laid (t' := tk') old M.dbig ob
    refine ⟨e, oe, fv, ⟨G', g, dr, tk', os⟩, _, .ref C, some d, rfl, J, fun b o q => ?_, ge, hoe, ⟨hc, hd⟩, hdat, h1, ?_, rfl, I1.bare, raises_own T.exC T.tyC, q1 d (I1.hok.fresh M.dbig)⟩
    · by_cases hb : b = e
      · have q' : G'.get? b = some o := q
        rw [hb, ge] at q'; cases q'
      · exact (gk b hb).symm.trans q
    · rw [upd_ne (Ne.symm M.dne)]
      exact I1.hok.fresh M.new
/-- raise Low(e) -/
def tRaiseErr (C : Addr) (W : WX) (ta : TA) : TS := fun _ σ H => tMkErr C ta σ H fun cls d H' => W cls d σ H'
theorem ps_raiseErr {a : Expr} {ta : TA} {W : WX} {p pos pos2 : Pos} {k : Nat} (hc : X.calm = true) (T : PySem.ErrX.ErrTxt X.K X.mg nmx C fI) (hr : Room k X.A) (tk : Takes X W) (ha : PA X [a] ta) (hg : Gl X nmx := by rfl)
    (he : starEach (a :: []) X.env = (false, eval a X.env) :: starEach [] X.env := by rfl) (hpl : (backTo pos (starEach [] X.env)).any (·.1) = false := by rfl) (hdb : (nmx == ("__debug__" : Str)) = false := by decide) :
    PS X (.Raise (some (.Call (.Name nmx p) [a] [] pos)) none pos2) (tRaiseErr C W ta) := ps_raise hc tk (pmk_err T hr ha hg he hpl hdb)
/-- low.by, low the exception that the suite holds (at a; its class cls, its dict d) -/
def tPlcErr (C : Addr) (a : Addr) (cls : Value) (d : Option Addr) (te : TE) : TE := fun σ H Q => te σ H fun x H1 => x = .ref a ∧ cls = .ref C ∧ ∃ (dd : Addr) (v : V), d = some dd ∧ H1 dd = some (.xd [(("place" : Str), v)]) ∧ Q v H1
theorem pe_plcErr {a : Addr} {oe : Obj} {cls : Value} {d : Option Addr} {pn : List (Addr × Obj)} {e : Expr} {te : TE} {pos : Pos} (T : PySem.ErrX.ErrTxt X.K X.mg nmx C fI) (hz : Zc cls d oe) (hf : ∃ vs, oe.data = .fields vs) (he : PE (X.suite a ((a, oe) :: pn)) e te)
    (hb : attributeBase e "place" X.env (eval e X.env) = eval e X.env := by rfl) :
    PE (X.suite a ((a, oe) :: pn)) (.Attribute e "place" pos) (tPlcErr C a cls d te) := by
  refine ⟨fun pins s σ H Q I h => ?_⟩
  refine attr_of hb (thn (he.run pins s σ H _ I h) fun u s1 hh => ?_)
  obtain ⟨x, H1, I1, rx, ex, ec, dd, v, ed, ea, q⟩ := hh
  subst ex
  obtain rfl : u = Value.ref a := rx
  subst ec
  subst ed
  obtain ⟨ha, _⟩ := I1.pin (a, oe) (List.mem_append_left _ List.mem_cons_self)
  obtain ⟨vs, hd⟩ := hf
  have hx : ObjOk X.prog X.w H1 s1.heap dd (.xd [(("place" : Str), v)]) := I1.hok dd _ ea
  obtain ⟨mA, hns, hr⟩ := hx
  obtain ⟨od, ho, hl⟩ := lookIn_ns hns
  have l : List.lookup ("place" : Str) [(("place" : Str), v)] = some v := by simp [List.lookup]
  obtain ⟨u, hu, ru⟩ := RelO.some_of (v := v) (o := mA "place") (by rw [← l]; exact hr "place")
  have J : PySem.W.InstAt s1.heap a oe C (some od) := ⟨ha, hz.1, by unfold PySem.W.notCls; rw [hd] <;> rfl, by rw [hz.2]; exact ho⟩
  exact HandSPX.exc_get I1.kIn J T.ga T.gg T.exC (PySem.W.findObj_own T.hdC T.noN rfl (by rw [hl, hu])) (handed_of ru) ⟨v, H1, I1.tok _, ru, q⟩
end
end L2

namespace Vf
open PySem L2 PySem.Spec PyProof.Rows
/-- isinstance(e, c), e the error that the suite holds (at a; its class cls, its own dict d) -/
def rIsP (K : PySem.W.Frag) (D a : Addr) (cls : Value) (d : Option Addr) : List V → Hp → VK → Prop := fun xs H Q => cls = .ref D ∧ ∃ (dd : Addr) (pl c : V) (cv : Value) (b : Bool),
  d = some dd ∧ H dd = some (.xd [(("place" : Str), pl)]) ∧ xs = [.ref a, c] ∧ (∀ u, RelV c u → u = cv) ∧ PySem.W.kitOne K (.ref D) cv = some b ∧ Q (.bl b) H
theorem call_isP {X : Cx} {a D : Addr} {oe : Obj} {cls : Value} {d : Option Addr} {pn : List (Addr × Obj)} (C : ExcC X.K D) (hz : Zc cls d oe) (hf : ∃ vs, oe.data = .fields vs) : CallR (X.suite a ((a, oe) :: pn)) (.builtin "isinstance") (rIsP X.K D a cls d) := by
  intro pins s σ H xs us Q I r h
  obtain ⟨rfl, dd, pl, c, cv, b, rfl, ea, rfl, hcv, e, q⟩ := h
  obtain ⟨u1, u2, rfl, r1, r2⟩ := vals2 r
  cases (show u1 = Value.ref a from r1)
  have e2 := hcv _ r2
  subst e2
  obtain ⟨ha, _⟩ := I.pin (a, oe) (List.mem_append_left _ List.mem_cons_self)
  obtain ⟨vs, hd⟩ := hf
  obtain ⟨mA, hns, _⟩ := (show ObjOk X.prog X.w H s.heap dd (.xd [(("place" : Str), pl)]) from I.hok dd _ ea)
  obtain ⟨od, ho, _⟩ := lookIn_ns hns
  have J : PySem.W.InstAt s.heap a oe D (some od) := ⟨ha, hz.1, by unfold PySem.W.notCls; rw [hd] <;> rfl, by rw [hz.2]; exact ho⟩
  have hcl : (PySem.W.clsIn X.K D).isSome = true := by
    have h1 := C.hd
    unfold PySem.W.hasDictIn at h1
    cases h2 : PySem.W.clsIn X.K D with
    | none => rw [h2] at h1; cases h1
    | some cd => rfl
  exact PySem.W.kia_one (PySem.W.kitx_exc hcl C.hg C.hk C.hs C.ha C.hn C.ht C.hm) I.kIn J e (fun z => nomatch z) fun tk => ⟨.bl b, H, I.kept (t' := tk) fun _ _ z => z, rfl, q⟩
end Vf

namespace Vf
open PySem L2 PySem.Spec PyProof.Rows He
/-! ### the head's facts, and further ones that are yes or no -/
abbrev AlX : Type := AlD × Bool
def obsX (fa : List Fa) (fn : List DefD) (ex : List (PySem.W.Frag → Bool)) (K : PySem.W.Frag) : AlX := (obsD fa fn K, ex.all fun p => p K)
def obsXG (n : Nat) (fa : List Fa) (fn : List DefD) (ex : List (PySem.W.Frag → Bool)) (g : Addr → Option Obj) : AlX := obsX fa fn ex (frG g (asD g n))
def SaysX (fa : List Fa) (fn : List DefD) (ex : List (PySem.W.Frag → Bool)) (K : PySem.W.Frag) : Prop := SaysD fa fn K ∧ (ex.all fun p => p K) = true
def hookX (n : Nat) (fa : List Fa) (fn : List DefD) (ex : List (PySem.W.Frag → Bool)) : PySem.W.Hook where
  α := AlX
  obs := fun s => obsXG n fa fn ex s.heap.get?
  val := fun _ => (valD fn, true)
  says := fun _ h => ∃ K : PySem.W.Frag, K.In h ∧ SaysX fa fn ex K
  of := fun _ _ e => ⟨_, frG_in, congrArg (fun z : AlX => z.1) e, congrArg (fun z : AlX => z.2) e⟩
  keeps := fun _ _ _ ⟨K, hK, c⟩ k => ⟨K, PySem.W.Frag.In.keeps hK k, c⟩
theorem obsXG_eq {n : Nat} {fa : List Fa} {fn : List DefD} {ex : List (PySem.W.Frag → Bool)} {g : Addr → Option Obj} {s : Shared} (h : ∀ a, g a = s.heap.get? a) : obsXG n fa fn ex g = (hookX n fa fn ex).obs s := by
  have e : g = s.heap.get? := funext h
  rw [e] <;> rfl
theorem SaysX.more {fa : List Fa} {fn : List DefD} {ex : List (PySem.W.Frag → Bool)} {K : PySem.W.Frag} (c : SaysX fa fn ex K) (i : Nat) {p : PySem.W.Frag → Bool} (h : ex[i]? = some p := by rfl) : p K = true :=
  List.all_eq_true.mp c.2 p (List.mem_of_getElem? h)
/-! ### an own error, over ValueError through own classes, with __init__ from one of them -/
def errB (K : PySem.W.Frag) (C : Addr) : Bool := match K.lookup C with
  | some ⟨.type "type", _, .cls cd, sl⟩ => (match cd.mro, sl.toList with
    | .ref D :: bm, [_, _, _, _, some (.builtin n), _] => D == C && (n == "ValueError.__new__" && (!cd.hasDel && (cd.hasDict && PySem.HandSPX.refsVE bm)))
    | _, _ => false)
  | _ => false
theorem errB_ok {K : PySem.W.Frag} {C : Addr} (q : errB K C = true) : ∃ nm qn N bs bm sn sub ab col dd k0 k1 k2 k3 k5, K.lookup C = some (excClassObj nm qn C N bs bm true sn sub ab col dd k0 k1 k2 k3 k5 "ValueError.__new__") ∧ PySem.HandSPX.refsVE bm = true := by
  unfold errB at q
  split at q
  · rename_i dd cd sl ho
    split at q
    · rename_i D bm k0 k1 k2 k3 n k5 hm hs
      simp only [Bool.and_eq_true, beq_iff_eq, Bool.not_eq_true'] at q
      obtain ⟨rfl, rfl, hdel, hdi, hv⟩ := q
      obtain ⟨nm, bs, mro, ns, qn, hd, sn, sub, ab, col, del⟩ := cd
      dsimp only at hm hdel hdi
      subst hm hdel hdi
      obtain ⟨l⟩ := sl
      simp only at hs
      subst hs
      exact ⟨nm, qn, ns, bs, bm, sn, sub, ab, col, dd, k0, k1, k2, k3, k5, ho, hv⟩
    · cases q
  · cases q
def errAll (x bx : Str) (K : PySem.W.Frag) : Bool :=
  errB K (ga K x) && (eqO (PySem.W.findIn K (.ref (ga K x)) "__setattr__") (some (some (.builtin "object.__setattr__"))) && (eqO (PySem.W.findIn K (.ref (ga K x)) "__getattribute__") (some (some (.builtin "BaseException.__getattribute__"))) &&
  (eqO (PySem.W.findIn K (.ref (ga K x)) "__getattr__") (some none) && (eqO (PySem.W.findIn K (.ref (ga K x)) "place") (some none) && (eqO (PySem.W.findIn K (.ref (ga K x)) "__init__") (some (some (.ref (ma K (ga K bx) "__init__")))) &&
  (decide (PySem.W.typeIn K (.ref (ma K (ga K bx) "__init__")) = some (.type "function")) && (PySem.W.keepIn K (.ref (ga K x)) && (decide (PySem.W.subIn K (.ref (ga K x)) (.type "BaseException") = some true) && (decide (PySem.W.typeIn K (.ref (ga K x)) = some (.type "type")) &&
  (PySem.W.hasDictIn K (ga K x) && (decide (PySem.W.exmOne K (.ref (ga K x)) (.ref (ga K x)) = some true) && (decide (PySem.W.exmOne K (.ref (ga K x)) (.ref (ga K bx)) = some true) && (eqO (PySem.W.findIn K (.ref (ga K x)) "__class__") (some (some (.builtin "object.__class__"))) &&
  (eqO (PySem.W.specialIn K (.builtin "object.__class__") "__get__") (some (some (.builtin "getset_descriptor.__get__"))) && (decide (PySem.W.takesIn K (.builtin "object.__class__") = some true) && (decide (PySem.W.mroIn K (ga K x) (.type "object") = some true) &&
  (decide (PySem.W.kitOne K (.ref (ga K x)) (.ref (ga K x)) = some true) && (decide (PySem.W.kitOne K (.ref (ga K x)) (.ref (ga K bx)) = some true) && decide (PySem.W.kitOne K (.ref (ga K x)) (.type "ValueError") = some true)))))))))))))))))))
structure ErrAll (K : PySem.W.Frag) (mg : Str → Option Value) (x bx : Str) : Prop where
  er : PySem.ErrX.ErrTxt K mg x (ga K x) (ma K (ga K bx) "__init__")
  gB : mg bx = some (.ref (ga K bx))
  ec : ExcC K (ga K x)
  xb : PySem.W.exmOne K (.ref (ga K x)) (.ref (ga K bx)) = some true
  ii : PySem.W.kitOne K (.ref (ga K x)) (.ref (ga K x)) = some true
  ib : PySem.W.kitOne K (.ref (ga K x)) (.ref (ga K bx)) = some true
  iv : PySem.W.kitOne K (.ref (ga K x)) (.type "ValueError") = some true
theorem errAll_ok {K : PySem.W.Frag} {h : Heap} {mg : Str → Option Value} {x bx : Str} {fd : FuncData} {p1 p2 q1 q2 q3 q4 : Pos} (X : K.In h) (G : h.Ns mainGlobals mg) (c1 : (Fa.glo x).ok K = true) (c2 : (Fa.glo bx).ok K = true) (ce : errAll x bx K = true)
    (F : FunD K "__init__" "FolderkinError.__init__" (PySem.ErrX.iA p1 p2) (PySem.ErrX.iB q1 q2 q3 q4) PySem.ErrX.iS [] [] (ma K (ga K bx) "__init__") fd) : ErrAll K mg x bx := by
  obtain ⟨e1, ce⟩ := ba ce
  obtain ⟨e2, ce⟩ := ba ce
  obtain ⟨e3, ce⟩ := ba ce
  obtain ⟨e4, ce⟩ := ba ce
  obtain ⟨e5, ce⟩ := ba ce
  obtain ⟨e6, ce⟩ := ba ce
  obtain ⟨e7, ce⟩ := ba ce
  obtain ⟨e8, ce⟩ := ba ce
  obtain ⟨e9, ce⟩ := ba ce
  obtain ⟨e10, ce⟩ := ba ce
  obtain ⟨e11, ce⟩ := ba ce
  obtain ⟨e12, ce⟩ := ba ce
  obtain ⟨e13, ce⟩ := ba ce
  obtain ⟨e14, ce⟩ := ba ce
  obtain ⟨e15, ce⟩ := ba ce
  obtain ⟨e16, ce⟩ := ba ce
  obtain ⟨e17, ce⟩ := ba ce
  obtain ⟨e18, ce⟩ := ba ce
  obtain ⟨e19, e20⟩ := ba ce
  obtain ⟨oc, od, dV, kV, doc, pm, an, cdv, ct, osl, rfl, lk, hcd, dfl, _⟩ := F.ex
  have ed : dV = .none := by
    rcases dfl with ⟨_, h⟩ | ⟨h, _⟩
    · exact h
    · exact absurd rfl h
  subst ed
  exact { er := { gC := glo_ok X G c1, cls := errB_ok e1, sa := eqO_ok e2, ga := eqO_ok e3, gg := eqO_ok e4, noN := eqO_ok e5, iC := eqO_ok e6, tC := of_decide_eq_true e7, kC := e8, exC := of_decide_eq_true e9, tyC := of_decide_eq_true e10, hdC := e11, te := of_decide_eq_true e12,
                  fn := ⟨oc, od, kV, doc, pm, an, cdv, ct, osl, p1, p2, q1, q2, q3, q4, lk, hcd⟩ },
          gB := glo_ok X G c2, ec := ⟨eqO_ok e3, eqO_ok e4, of_decide_eq_true e9, e11, eqO_ok e14, eqO_ok e15, of_decide_eq_true e16, of_decide_eq_true e17⟩,
          xb := of_decide_eq_true e13, ii := of_decide_eq_true e18, ib := of_decide_eq_true e19, iv := of_decide_eq_true e20 }
/-! ### calls of a def that may raise -/
structure CalX (P : Program) (w : World) (K : PySem.W.Frag) (mg : Str → Option Value) (base : Heap) (k : Nat) (x : Str) (sp : Sp) : Prop where
  ex : ∃ (f : Addr) (fd : FuncData) (ps : List Str), FnOk P w K mg base (L2.CX P w) k f fd ps sp ∧ mg x = some (.ref f) ∧ PySem.W.keepIn K (.ref f) = true ∧ Binds K fd ps []
theorem pe_cX {X : Cx} {k j : Nat} {x : Str} {sp : Sp} {p pos : Pos} {e : Expr} {es : List Expr} {t : TA} {W : WX} (c : CalX X.prog X.w X.K X.mg X.base k x sp) (hr : Room j X.A) (hk : k ≤ j) (tk : Takes X W) (hg : Gl X x) (ha : PA X (e :: es) t)
    (hdb : (x == ("__debug__" : Str)) = false := by decide) (he : starEach (e :: es) X.env = (false, eval e X.env) :: starEach es X.env := by rfl)
    (hpl : (backTo pos (starEach es X.env)).any (·.1) = false := by rfl) : PE X (.Call (.Name x p) (e :: es) [] pos) (tCallS sp (WE W) t) := by
  obtain ⟨f, fd, ps, F, hm, kp, b⟩ := c.ex
  exact pe_callS F (hr.mono hk) hg hm kp b (fun σ => passAt tk σ) ha hdb he hpl
/-- promises of a def that may raise, by arity -/
abbrev sp1X (R : V → Hp → VK → XK → Prop) : Sp := fun vs H Q E => ∃ a, vs = [a] ∧ R a H Q E
end Vf

namespace Vf
open PySem L2 PySem.Spec PyProof.Rows
/-- x == y, x an instance of a class with its own __eq__ that answers True or False; y one too, or a tuple -/
def rEqO (K : PySem.W.Frag) (C : Addr) (sp : Sp) (E : XK) : R2 := fun x y H Q => ∃ (a b dx : Addr) (fs : List (Str × V)), x = .ref a ∧ y = .ref b ∧ H a = some (.ins C dx fs) ∧
  ((∃ (dy : Addr) (gs : List (Str × V)), H b = some (.ins C dy gs)) ∨ (PySem.W.notFirst K C (.type "tuple") = true ∧ ∃ ys, SqT K H b ys)) ∧ sp [x, y] H (fun z H' => ∃ t, z = .bl t ∧ Q z H') E
theorem op_eqOwn {X : Cx} {CX : CXT} {C f : Addr} {fd : FuncData} {ps : List Str} {sp : Sp} {E : XK} {n : Nat} (F : FnOk X.prog X.w X.K X.mg X.base CX n f fd ps sp)
    (hs : PySem.W.findIn X.K (.ref C) "__eq__" = some (some (.ref f))) (hf : PySem.W.isFn X.K (.ref f) = true) (hb : Binds X.K fd ps []) (hx : Passes CX X E) (hr : Room n X.A) : OpR X (compareOp .Eq) (rEqO X.K C sp E) := by
  intro pins s σ H x y v u Q I rx ry q
  obtain ⟨a, b, dx, fs, rfl, rfl, ha, hy, hsp⟩ := q
  cases rx
  cases ry
  obtain ⟨mA, J, _⟩ := ins_get I.hok ha
  obtain ⟨od, J, _⟩ := J.look
  obtain ⟨m, hF⟩ := I.fr
  have go : ∀ tb : Value, PySem.W.Looks (model X.prog X.w) s.heap (typeOf (.ref b)) tb → PySem.W.notFirst X.K C tb = true → wpAny (model X.prog X.w) X.A (richCompare .Eq (.ref a) (.ref b)) (EP X pins σ Q) X.xe s := fun tb ht hn => by
    refine PySem.W.cmp_K (op := .Eq) (tb := tb) hr.units0 hF I.ok.mod.kin J ht hn hs hf ?_
    have hl := F.len _ _ _ _ hsp
    have r2 : Vals [V.ref a, V.ref b] [Value.ref a, Value.ref b] := .cons rfl (.cons rfl .nil)
    refine wpAny_call (codeAny_mono (F.run X.A X.stack s H ⟨[.ref a, .ref b], []⟩ [.ref a, .ref b] [.ref a, .ref b] _ E hr I.env0 (by
      have := hb s [.ref a, .ref b] I.kIn (by simpa using hl)
      simpa using this) r2 hsp) fun r s' hq => ?_)
    cases r with
    | error e => exact hx pins σ H s e s' I hq
    | ok fl =>
      cases fl with
      | ret w =>
        obtain ⟨z, H', I', rz, t, ez, hQ⟩ := I.after hq
        subst ez
        cases rz
        exact ⟨.bl t, H', I', rfl, hQ⟩
      | next => exact False.elim hq
      | brk => exact False.elim hq
      | cont => exact False.elim hq
  rcases hy with ⟨dy, gs, hy⟩ | ⟨hn, ys, hy⟩
  · obtain ⟨mB, J', _⟩ := ins_get I.hok hy
    obtain ⟨od', J', _⟩ := J'.look
    exact go (.ref C) J'.type (by simp [PySem.W.notFirst])
  · obtain ⟨its, rv, ⟨o, ho, hc, _⟩, _⟩ := I.tuple hy
    exact go (.type "tuple") (fun A Q E s' k z => wpAny_typeOf (T := "tuple") ⟨o, k _ _ ho, hc⟩ z) hn
end Vf

namespace Vf
open PySem L2 PySem.Spec PyProof.Rows He
/-! ### an own class: all yes-or-no facts of it -/
def clsB (x : Str) (K : PySem.W.Frag) : Bool :=
  eqO (PySem.W.findIn K (.ref (ga K x)) "__class__") (some (some (.builtin "object.__class__"))) &&
  (eqO (PySem.W.specialIn K (.builtin "object.__class__") "__get__") (some (some (.builtin "getset_descriptor.__get__"))) && (decide (PySem.W.takesIn K (.builtin "object.__class__") = some true) &&
  (decide (PySem.W.mroIn K (ga K x) (.type "object") = some true) && (decide (PySem.W.kitOne K (.ref (ga K x)) (.ref (ga K x)) = some true) && (decide (PySem.W.kitOne K (.type "tuple") (.ref (ga K x)) = some false) && PySem.W.notFirst K (ga K x) (.type "tuple"))))))
structure ClsT (K : PySem.W.Frag) (x : Str) : Prop where
  ha : PySem.W.findIn K (.ref (ga K x)) "__class__" = some (some (.builtin "object.__class__"))
  hn : PySem.W.specialIn K (.builtin "object.__class__") "__get__" = some (some (.builtin "getset_descriptor.__get__"))
  htk : PySem.W.takesIn K (.builtin "object.__class__") = some true
  hm : PySem.W.mroIn K (ga K x) (.type "object") = some true
  own : PySem.W.kitOne K (.ref (ga K x)) (.ref (ga K x)) = some true
  tup : PySem.W.kitOne K (.type "tuple") (.ref (ga K x)) = some false
  nf : PySem.W.notFirst K (ga K x) (.type "tuple") = true
theorem clsB_ok {x : Str} {K : PySem.W.Frag} (c : clsB x K = true) : ClsT K x := by
  unfold clsB at c
  obtain ⟨c1, c⟩ := ba c
  obtain ⟨c2, c⟩ := ba c
  obtain ⟨c3, c⟩ := ba c
  obtain ⟨c4, c⟩ := ba c
  obtain ⟨c5, c⟩ := ba c
  obtain ⟨c6, c7⟩ := ba c
  exact ⟨eqO_ok c1, eqO_ok c2, of_decide_eq_true c3, of_decide_eq_true c4, of_decide_eq_true c5, of_decide_eq_true c6, c7⟩
/-- == by its own __eq__ -/
def eqB (x : Str) (K : PySem.W.Frag) : Bool := eqO (PySem.W.findIn K (.ref (ga K x)) "__eq__") (some (some (.ref (ma K (ga K x) "__eq__")))) && PySem.W.isFn K (.ref (ma K (ga K x) "__eq__"))
structure EqC (P : Program) (w : World) (K : PySem.W.Frag) (mg : Str → Option Value) (base : Heap) (k : Nat) (x : Str) (sp : Sp) : Prop where
  ex : ∃ (f : Addr) (fd : FuncData) (ps : List Str), FnOk P w K mg base CX0 k f fd ps sp ∧ PySem.W.findIn K (.ref (ga K x)) "__eq__" = some (some (.ref f)) ∧ PySem.W.isFn K (.ref f) = true ∧ Binds K fd ps []
theorem op_eqC {X : Cx} {k j : Nat} {x : Str} {sp : Sp} (c : EqC X.prog X.w X.K X.mg X.base k x sp) (hr : Room j X.A) (hk : k ≤ j) : OpR X (compareOp .Eq) (rEqO X.K (ga X.K x) sp E0) := by
  obtain ⟨f, fd, ps, F, hs, hf, hb⟩ := c.ex
  exact op_eqOwn F hs hf hb pass0 (hr.mono hk)
/-- C(e, .., k = v) -/
structure MakN (P : Program) (w : World) (K : PySem.W.Frag) (mg : Str → Option Value) (base : Heap) (k : Nat) (x : Str) (C : Addr) (sp : Sp) (n : Nat) (ks : List Str) (gV : List V → List V → List V) : Prop where
  ex : ∃ (f : Addr) (fd : FuncData) (ps : List Str) (g : List Value → List Value → List Value), Mk K C f ∧ FnOk P w K mg base CX0 k f fd ps sp ∧ mg x = some (.ref C) ∧ KBn K fd ps (n + 1) ks g gV
theorem pe_mkN {X : Cx} {k j n : Nat} {C : Addr} {x : Str} {sp : Sp} {p pos : Pos} {e : Expr} {es : List Expr} {kws : List Keyword} {ks : List Str} {t tk : TA} {gV : List V → List V → List V} (c : MakN X.prog X.w X.K X.mg X.base k x C sp n ks gV) (hr : Room j X.A) (hk : k + 1 ≤ j) (hg : Gl X x)
    (ha : PA X (e :: es) t) (hkw : PK X kws tk) (hall : (backToKw pos (keywordEach kws X.env)).all (·.1.isSome) = true := by rfl) (hks : (backToKw pos (keywordEach kws X.env)).filterMap (·.1) = ks := by rfl)
    (hdb : (x == ("__debug__" : Str)) = false := by decide) (he : starEach (e :: es) X.env = (false, eval e X.env) :: starEach es X.env := by rfl)
    (hpl : ((backTo pos (starEach (e :: es) X.env)).any (·.1) || (backToKw pos (keywordEach kws X.env)).any (·.1.isNone)) = false := by rfl) :
    PE X (.Call (.Name x p) (e :: es) kws pos) (tMakeN C n ks.length sp gV E0 t tk) := by
  obtain ⟨f, fd, ps, g, M, F, hm, b⟩ := c.ex
  exact pe_makeN M F (hr.mono hk) hg hm b pass0 ha hkw hall hks hdb he hpl
theorem e_tMake {C : Addr} {sp : Sp} {dvs : List V} {E : XK} {t : TA} {σ : L2.St} {H : Hp} {Q : VK} (q : t σ H fun vs H1 => ∀ x dx, H1 x = none → H1 dx = none → dx ≠ x → sp (.ref x :: (vs ++ dvs)) (upd (upd H1 dx (.own x)) x (.ins C dx [])) (fun v H2 => v = .non ∧ Q (.ref x) H2) E) : tMake C sp dvs E t σ H Q := q
theorem e_tMakeN {C : Addr} {n m : Nat} {sp : Sp} {gV : List V → List V → List V} {E : XK} {t tk : TA} {σ : L2.St} {H : Hp} {Q : VK} (q : t σ H fun vs H1 => tk σ H1 fun zs H2 => vs.length = n ∧ zs.length = m ∧
  ∀ x dx, H2 x = none → H2 dx = none → dx ≠ x → sp (gV (.ref x :: vs) zs) (upd (upd H2 dx (.own x)) x (.ins C dx [])) (fun v H3 => v = .non ∧ Q (.ref x) H3) E) : tMakeN C n m sp gV E t tk σ H Q := q
/-! ### == and != of data with any texts -/
def rEqP (K : PySem.W.Frag) : R2 := fun x y H Q => ∃ d e, Dp K H x d ∧ Dp K H y e ∧ d.plain = true ∧ e.plain = true ∧ d.depth ≤ 60 ∧ Q (.bl (PyData.eqv d e)) H
def rNeP (K : PySem.W.Frag) : R2 := fun x y H Q => ∃ d e, Dp K H x d ∧ Dp K H y e ∧ d.plain = true ∧ e.plain = true ∧ d.depth ≤ 60 ∧ Q (.bl (!PyData.eqv d e)) H
theorem op_eqP {X : Cx} (hu : X.A.units + 64 < cLine) : OpR X (compareOp .Eq) (rEqP X.K) := by
  intro pins s σ H x y v u Q I rx ry h
  obtain ⟨d, e, hd, he, sd, se, hp, q⟩ := h
  obtain ⟨as, r1⟩ := Dp.reads I d x v hd rx
  obtain ⟨bs, r2⟩ := Dp.reads I e y u he ry
  exact PySem.SeqAt.eq_plain r1 r2 sd se (by omega) ⟨.bl _, H, I, rfl, q⟩
theorem op_neP {X : Cx} (hu : X.A.units + 64 < cLine) : OpR X (compareOp .NotEq) (rNeP X.K) := by
  intro pins s σ H x y v u Q I rx ry h
  obtain ⟨d, e, hd, he, sd, se, hp, q⟩ := h
  obtain ⟨as, r1⟩ := Dp.reads I d x v hd rx
  obtain ⟨bs, r2⟩ := Dp.reads I e y u he ry
  exact PySem.SeqAt.ne_plain r1 r2 sd se (by omega) ⟨.bl _, H, I, rfl, q⟩
end Vf

namespace Vf
open PySem L2 PySem.Spec PyProof.Rows He
/-! ### t[::-1] of a pair -/
section
variable {prog : Program} {w : World} {A : Around} {E : Value → Shared → Prop} {s : Shared}
theorem rev2_applied {sl : Addr} {u : Tok} {Q : Int × Int × Nat → Shared → Prop} (hs : s.heap.IsSliceOf sl .none .none (.int (-1) u)) (h : Q (1, -1, 2) s) :
    wpAny (model prog w) A (Builtin.Slice.sliceApplied (.ref sl) (pure ((2 : Nat) : Int))) Q E s := by
  obtain ⟨os, hos, hcs, hds⟩ := id hs
  unfold Builtin.Slice.sliceApplied Builtin.Slice.sliceFields
  refine wpAny_bind (wpAny_bind (wpAny_field hos hds (x := .none) rfl (wpAny_bind (wpAny_field hos hds (x := .none) rfl (wpAny_bind (wpAny_field hos hds (x := .int (-1) u) rfl (wpAny_pure ?_)))))))
  refine wpAny_bind (slicePart_int ?_)
  show wpAny _ _ (if ((-1 : Int) == 0) = true then _ else _) _ _ s
  rw [if_neg (by decide)]
  refine wpAny_bind (slicePart_none (wpAny_bind (slicePart_none (wpAny_bind (wpAny_pure ?_)))))
  show wpAny _ _ (match Builtin.Slice.sliceAdjust none none (-1) ((2 : Nat) : Int) with | (lo, hi) => pure (lo, (-1 : Int), Builtin.Slice.slicePlaces lo hi (-1))) _ _ s
  exact wpAny_pure h
theorem getItem_pair_rev {t sl : Addr} {v0 v1 : Value} {u : Tok} {Q : Value → Shared → Prop} (ht : IsTup s.heap t #[v0, v1]) (hs : s.heap.IsSliceOf sl .none .none (.int (-1) u))
    (h : Q (.ref s.heap.objs.size) { s with heap := s.heap.push { cls := .type "tuple", data := .seq #[v1, v0] } }) : wpAny (model prog w) A (getItem (.ref t) (.ref sl)) Q E s := by
  obtain ⟨os, hos, hcs, hds⟩ := id hs
  have hTs : s.TypeIs (.ref sl) "slice" := ⟨os, hos, hcs⟩
  unfold getItem
  try with_reducible refine wpAny_holding ?_
  first | refine wpAny_bind (wpAny_pure ?_) | skip
  refine wpAny_bind (wpAny_sequenceKey ht.typeIs (by decide) ?_)
  refine wpAny_bind (wpAny_callSpecial?_slot (name := Str.ofString "__getitem__") ht.typeIs PyProof.Rows.slot_tuple_getitem
    (wpAny_call_entry PyProof.Rows.slot_tuple_getitem ht.typeIs entry_tuple_getitem ?_ (args_tuple_getitem _ _)))
  show wpAny _ _ (Builtin.Tuple.tupleItemsOf (.ref t) >>= _) _ _ s
  refine wpAny_bind (tupleItemsOf_ ht ?_)
  refine wpAny_bind (wpAny_typeOf hTs ?_)
  rw [if_pos (by decide)]
  refine wpAny_bind (rev2_applied hs ?_)
  show wpAny _ _ (if (((1 : Int)) == 0 && (-1 : Int) == 1 && ((2 : Nat) == 2)) = true then _ else _) _ _ s
  rw [if_neg (by decide)]
  have hz : sizeOk (.seq #[v1, v0]) := by show (2 : Nat) ≤ sizeLine; decide
  first
    | exact wpAny_bind (m := Builtin.Tuple.tupleExact _) (wpAny_newObj_type (wpAny_pure ⟨_, rfl, wpAny_pure h⟩) hz)
    | exact wpAny_bind (m := Builtin.Tuple.tupleExact _) (wpAny_newObj_type (wpAny_bind (wpAny_pure (wpAny_pure ⟨_, rfl, wpAny_pure h⟩))) hz)
    | exact wpAny_bind (wpAny_bind (m := Builtin.Tuple.tupleExact _) (wpAny_newObj_type (wpAny_pure (wpAny_pure ⟨_, rfl, wpAny_pure h⟩)) hz))
    | exact wpAny_bind (wpAny_bind (m := Builtin.Tuple.tupleExact _) (wpAny_newObj_type (wpAny_pure ⟨_, rfl, wpAny_pure h⟩) hz))
end
section
variable {X : Cx}
def tRevT (K : PySem.W.Frag) (te : TE) : TE := fun σ H Q => te σ H fun x H1 => ∃ a u v, x = .ref a ∧ SqT K H1 a [u, v] ∧ ∀ p, H1 p = none → Q (.ref p) (upd H1 p (.tup [v, u]))
theorem pe_revT {e : Expr} {te : TE} {k : Nat} {p1 p2 p3 pos : Pos} (he : PE X e te) : PE X (.Subscript e (.Slice none none (some (.UnaryOp .USub (.Constant (.int 1) k p1) p2)) p3) pos) (tRevT X.K te) := by
  refine ⟨fun pins s σ H Q I h => ?_⟩
  refine Subscript_ (thn (he.run pins s σ H _ I h) fun v s1 ⟨x, H1, I1, r1, q1⟩ => ?_)
  obtain ⟨a, x0, x1, ex, hx, q⟩ := q1
  subst ex
  cases r1
  have hst : PO X (some (.UnaryOp .USub (.Constant (.int 1) k p1) p2)) (tPart (tUn (rU fun i => .int (-i)) (tC (.int 1)))) := po_some (pe_un un_neg pe_int)
  refine wpAny_Slice (thn (po_none.run pins s1 σ H1 (fun o H2 => o = none ∧ H2 = H1) I1 ⟨rfl, rfl⟩) fun vl s2 ⟨l, H2, I2, pl, el, e2⟩ => ?_)
  subst el e2
  refine thn (po_none.run pins s2 σ H2 (fun o H3 => o = none ∧ H3 = H2) I2 ⟨rfl, rfl⟩) fun vu s3 ⟨u, H3, I3, pu, eu, e3⟩ => ?_
  subst eu e3
  refine thn (hst.run pins s3 σ H3 (fun o H4 => o = some (-1) ∧ H4 = H3) I3 ⟨1, rfl, -1, rfl, rfl, rfl⟩) fun vs s4 ⟨o, H4, I4, ps, eo, e4⟩ => ?_
  subst eo e4
  cases pl
  cases pu
  cases ps with
  | int i tk =>
  have I5 : Inv X pins σ H4 { s4 with heap := s4.heap.push { cls := .type "slice", data := .fields #[.none, .none, .int (-1) tk] } } := I4.kept (t' := s4.toks) fun b ob q => Heap.get?_push_of_some _ q
  obtain ⟨its, r, ht, hz⟩ := I5.tuple hx
  obtain ⟨w0, w1, rfl, rv0, rv1⟩ := vals2 r
  show wpAny (model X.prog X.w) X.A (subscriptTail e (.Slice none none (some (.UnaryOp .USub (.Constant (.int 1) k p1) p2)) p3) (.ref a) (.ref s4.heap.objs.size)) (EP X pins σ Q) X.xe { s4 with heap := s4.heap.push { cls := .type "slice", data := .fields #[.none, .none, .int (-1) tk] } }
  refine tail_any (ops := [.ref a, .ref s4.heap.objs.size]) ht.typeIs PyProof.Rows.slot_tuple_getitem.lookup ?_ (by with_unfolding_all rfl)
  refine getItem_pair_rev ht (Heap.IsSliceOf.new _ _ _ _) ?_
  refine ⟨.ref _, _, I5.laid (t' := s4.toks) (o := .tup [x1, x0]) (fun b ob q => Heap.get?_push_of_some _ q) (Nat.le_refl _) ?_, rfl, q _ (I5.hok.fresh (Nat.le_refl _))⟩
  exact ⟨by show (2 : Nat) ≤ sizeLine; decide, _, .cons rv1 (.cons rv0 .nil), IsTup.new _ _⟩
/-! ### del d[t], the keys tuples -/
def sDDelT (td ty : TE) : TS := fun D σ H => td σ H fun x H1 => ty σ H1 fun y H2 => ∃ a kvs k b, x = .ref a ∧ H2 a = some (.dT kvs) ∧ y = .ref b ∧ H2 b = some (.tup (k.map kV)) ∧ (valV kvs k).isSome = true ∧ D.nx σ (upd H2 a (.dT (dropK kvs k)))
theorem ps_ddelT {o i : Expr} {pos tpos : Pos} {td ty : TE} (hu : X.A.units + 1 < cLine) (ho : PE X o td) (hi : PE X i ty) : PS X (.Delete [.Subscript o i tpos] pos) (sDDelT td ty) := by
  refine ⟨fun pins s σ H D I h => ?_⟩
  refine wpAny_Delete (wpAny_deleteEach_cons (wpAny_delete_Subscript (thn (ho.run pins s σ H _ I h) fun u s1 ⟨x, H1, I1, rx, q1⟩ => thn (hi.run pins s1 σ H1 _ I1 q1) fun iv s2 ⟨y, H2, I2, ry, a, kvs, k, b, ex, e, ey, eb, l, q2⟩ => ?_)))
  subst ex ey
  obtain rfl : u = Value.ref a := rx
  obtain rfl : iv = Value.ref b := ry
  obtain ⟨z, hd, xs, rel, dd⟩ := dt_of I2.hok e
  have hz : xs.length ≤ sizeLine := by rw [← Paired.length rel]; exact z
  obtain ⟨v0, ev⟩ := Option.isSome_iff_exists.mp l
  obtain ⟨w', hw, rw'⟩ := RelO.some_of (v := v0) (o := (atKey xs k).map (·.2)) (by rw [← ev]; exact rel.val k)
  obtain ⟨p, hp, hp2⟩ := Option.map_eq_some_iff.mp hw
  refine wpAny_delItem_heap (hsz := hz) (knd := tupleKind (mixKind X.prog X.w)) (tupleKind_room_in1 hu) (key_of I2.hok eb) hd dd hp fun h' dd' hs => ?_
  obtain ⟨q, es, ep, hq, h2, h3, h4, _, h5⟩ := dd'
  have I3 : Inv X pins σ (upd H2 a (.dT (dropK kvs k))) { s2 with heap := h', toks := s2.toks + (tupleKind (mixKind X.prog X.w)).draws k } :=
    d_write I2 (by rw [e]; exact True.intro) hs ⟨q, hq⟩ ⟨Nat.le_trans (dropK_le kvs k) z, hd, _, (DX.KT_drop k rel).keeps (fun c ys ec => (by rw [upd_ne (ne_of ec e (fun z => nomatch z))]; exact ec)), q, es, ep, hq, h2, h3, h4, h5⟩
  exact wpAny_deleteEach_nil ⟨σ, _, I3, q2⟩
end
end Vf

namespace Vf
open PySem L2 PySem.Spec PyProof.Rows He
theorem un65 {k : Nat} {A : Around} (r : Room k A) : A.units + 65 < cLine := by have := r.un; omega
/-! ### d.values() of a dict whose keys are tuples -/
def Itdt (d : Addr) (o : Obj) (kvs : List (List L2.Key × V)) : It :=
  ⟨fun i H => H d = some (.frz o (.dT kvs)) ∧ i < kvs.length, fun i H x H' => H' = H ∧ ∃ k, kvs[i]? = some (k, x), fun i H => H d = some (.frz o (.dT kvs)) ∧ kvs.length ≤ i⟩
theorem frzTV {X : Cx} {pins : List (Addr × Obj)} {σ : L2.St} {H : Hp} {s : Shared} {d : Addr} {o : Obj} {kvs : List (List L2.Key × V)} (I : Inv X pins σ H s) (h : H d = some (.frz o (.dT kvs))) :
    (d == sysModules) = false ∧ ∃ (es : Array DictEntry) (ep : Nat), o.data = .dict es ep ∧ s.heap.DictRaw d es ep ∧ es.size = kvs.length ∧
      ∀ (i : Nat) (k : List L2.Key) (v : V), kvs[i]? = some (k, v) → ∃ hi : i < es.size, RelV v es[i].val := by
  obtain ⟨hd, z, hs, xs, pr, o', es, ep, ho, hx, hdt, he, _⟩ := I.hok d _ h
  rw [hd] at ho
  cases ho
  have l1 : es.size = xs.length := size_of_entries he
  have l2 : kvs.length = xs.length := Paired.length pr
  refine ⟨hs, es, ep, hdt, ⟨o, hd, hx, hdt⟩, by omega, fun i k v e => ?_⟩
  obtain ⟨b, hb, e1, e2, e3⟩ := L2.paired_get pr e
  have q := entry_at he i
  rw [hb] at q
  obtain ⟨hi, q2⟩ := Array.getElem?_eq_some_iff.mp q
  exact ⟨hi, by rw [q2]; exact e3⟩
section
variable {P : Program} {w : World} {K : PySem.W.Frag} {tg : Expr} {d : Addr} {o : Obj} {es : Array DictEntry} {ep : Nat}
theorem turn_valsT {kvs : List (List L2.Key × V)} (it : Addr) (hod : o.data = .dict es ep) (hz : es.size = kvs.length) : Turn P w K tg (Itdt d o kvs) [it] it (fun i h => h.IsValIter it d i es.size ep) where
  mem := by simp
  obj := fun i h st b hb => by
    have e : b = it := by simpa using hb
    subst e
    obtain ⟨oi, e, c, dd⟩ := st
    exact ⟨oi, e, fun v z => by rw [dd] at z; cases z⟩
  keep := fun i h h' st k => st.at fun oi e => k it (by simp) oi e
  item := by
    intro X hP hw hK hc i pins s σ H E I hf st hg
    subst hP hw hK
    obtain ⟨hd, hi⟩ := hg
    obtain ⟨f0, f1, f2, f3, f4, f5⟩ := hf it (by simp)
    obtain ⟨hs, es', ep', hdt, hm, hsz, ent⟩ := frzTV I hd
    obtain ⟨rfl, rfl⟩ := dict_ep hod hdt
    obtain ⟨⟨k, v⟩, hkv⟩ : ∃ p, kvs[i]? = some p := ⟨kvs[i], List.getElem?_eq_getElem hi⟩
    obtain ⟨hi2, ru⟩ := ent i k v hkv
    refine PySem.wpAny_pyNext_values_item_raw st hm hi2 fun h' st' sb => ?_
    have I1 : Inv X pins σ H { s with heap := h' } := I.turned (t' := s.toks) (fun b ob hb e => (sb.2 b hb).trans e) f0 f1 f3 f4 f5
    obtain ⟨oi, e, c, dd⟩ := id st'
    exact ⟨_, rfl, go_of (s := { s with heap := h' }) e c dd (by decide) ⟨v, H, I1, ru, ⟨rfl, k, hkv⟩, st', fun b hb => (hf b hb).1⟩⟩
  done := by
    intro X hP hw hK hc i pins s σ H E I hf st hg
    subst hP hw hK
    obtain ⟨hd, hi⟩ := hg
    obtain ⟨f0, f1, f2, f3, f4, f5⟩ := hf it (by simp)
    obtain ⟨hs, es', ep', hdt, hm, hsz, ent⟩ := frzTV I hd
    obtain ⟨rfl, rfl⟩ := dict_ep hod hdt
    exact PySem.wpAny_pyNext_values_end_raw (I.ok.hd hc) st hm (by omega) fun h' eb => ⟨rfl, I.turned (t' := s.toks) (fun b ob hb e => eb b ob hb e) f0 f1 f3 f4 f5⟩
  self := fun A i s Q E st h => wpAny_pyIter_valiter st h
end
section
variable {X : Cx} {tg e : Expr} {td : TE} {apos cpos : Pos}
def iValsT (td : TE) : TI := fun σ H R => td σ H fun x H1 => ∃ d o kvs, x = .ref d ∧ H1 d = some (.frz o (.dT kvs)) ∧ R (Itdt d o kvs) H1
theorem pi_valuesT (he : PE X e td) (hbase : attributeBase e "values" X.env (eval e X.env) = eval e X.env := by rfl) (hline : (apos.endLine == cpos.line) = true := by rfl) : PI X tg (.Call (.Attribute e "values" apos) [] [] cpos) (iValsT td) := by
  refine ⟨fun pins s σ H R I h => ?_⟩
  refine wpAny_Call_method (T := "dict") (id := "dict.values") hbase rfl hline F.plainAttrs_dict F.slot_dict_values F.type_dict_values (thn (he.run pins s σ H _ I h) fun u s1 ⟨x, H1, I1, rx, d, o, kvs, ex, hd, q⟩ => ?_)
  subst ex
  obtain rfl : u = Value.ref d := rx
  obtain ⟨hs, es, ep, hdt, hm, hsz, ent⟩ := frzTV I1 hd
  have hnd : ∃ o, s1.heap.get? d = some o ∧ o.ExactDict := by
    obtain ⟨hd2, z, hs2, xs, pr, o', es', ep', ho, hx, _⟩ := I1.hok d _ hd
    exact ⟨o', ho, hx⟩
  obtain ⟨od, hod, hxd⟩ := hnd
  refine ⟨hm.typeIs, fun a ha => (by cases ha; exact ⟨od, hod, hxd.2.1⟩), ?_⟩
  have I2 : Inv X pins σ H1 { s1 with heap := s1.heap.push { cls := .type "dict_values", data := .fields #[.ref d] } } := I1.kept (t' := s1.toks) fun b ob q => Heap.get?_push_of_some _ q
  have fin : wpAny (model X.prog X.w) X.A (pyIter (.ref s1.heap.objs.size)) (PIE X pins σ tg R) X.xe { s1 with heap := s1.heap.push { cls := .type "dict_values", data := .fields #[.ref d] } } := by
    refine PySem.wpAny_pyIter_values_raw (d := d) (es := es) (ep := ep) ⟨_, Heap.get?_push_size _ rfl, rfl, rfl⟩ (hm.at fun _ e => Heap.get?_push_of_some _ e) (pi_one (tk := s1.toks) I2 _ (turn_valsT _ hdt hsz) ⟨_, Heap.get?_push_size _ rfl, rfl, ?_⟩ q)
    rfl
  show wpAny _ _ (callWith cpos (.builtin "dict.values") [.ref d] [] []) _ X.xe s1
  exact method_meetsIn F.slot_dict_values F.entry_dict_values rfl (PySem.evalArgs_none ⟨rfl, hm.typeIs, F.args_dict_values_1 _, _, PySem.meets_dict_values_raw d hs, ⟨es, ep, hm⟩, fin⟩)
theorem walk_valsT {kvs : List (List L2.Key × V)} {d : Addr} {o : Obj} : Walk (Itdt d o kvs) kvs.length (fun H => H d = some (.frz o (.dT kvs))) (fun i H x H' => H' = H ∧ ∃ k, kvs[i]? = some (k, x)) :=
  ⟨fun _ _ hi q => ⟨q, hi⟩, fun _ q => ⟨q, Nat.le_refl _⟩, fun _ _ _ _ _ _ y => y⟩
end
end Vf

namespace Vf
open PySem L2 PySem.Spec PyProof.Rows He
/-- a name that the top imports -/
def bfB (x : Str) (id : String) (K : PySem.W.Frag) : Bool := eqO (PySem.W.nsIn K mainGlobals x) (some (some (.builtin id)))
theorem bfB_ok {K : PySem.W.Frag} {h : Heap} {mg : Str → Option Value} (X : K.In h) (G : h.Ns mainGlobals mg) {x : Str} {id : String} (c : bfB x id K = true) : mg x = some (.builtin id) := PySem.W.mg_of X G (eqO_ok c)
/-- s.index(y), y found -/
theorem mt_idxS {X : Cx} : MtR X "str.index" (fun x xs H Q => ∃ (a b : Str) (k : Nat), x = .str a ∧ xs = [.str b] ∧ Txt.index0 a b = some k ∧ Q (.int (k : Nat)) H) := by
  intro pins s σ H x xs v us Q I rx rs h
  obtain ⟨a, b, k, rfl, rfl, hy, hq⟩ := h
  obtain ⟨t, rfl⟩ := rx
  cases rs with
  | cons r1 rs =>
    cases rs
    obtain ⟨u, rfl⟩ := r1
    cases q : Builtin.Str.occurrences a b 0 a.length 1 with
    | nil =>
      unfold Txt.index0 at hy
      rw [q] at hy
      cases hy
    | cons k' rest =>
      unfold Txt.index0 at hy
      rw [q] at hy
      cases hy
      exact PySem.SC.index q ⟨.int (k : Nat), H, I.tok _, ⟨_, rfl⟩, hq⟩
/-- reversed(range(a, b, c)) -/
def PRg3 (X : Cx) (e : Expr) (t : L2.St → Hp → (Int → Int → Int → Nat → Hp → Prop) → Prop) : Prop :=
  ∀ (pins : List (Addr × Obj)) (s : Shared) (σ : L2.St) (H : Hp) (Q : Int → Int → Int → Nat → Hp → Prop), Inv X pins σ H s → t σ H Q →
    wpAny (model X.prog X.w) X.A (eval e X.env) (fun x s' => ∃ r a b c n t u v H', x = .ref r ∧ IsRange s'.heap r a b c t u v ∧ Builtin.Range.handS_smallRev a b c = true ∧ Builtin.Range.rangeSize a b c = (n : Nat) ∧ Inv X pins σ H' s' ∧ Q a b c n H') X.xe s
def tRg3 (ta : TA) : L2.St → Hp → (Int → Int → Int → Nat → Hp → Prop) → Prop := fun σ H Q => ta σ H fun vs H1 => ∃ i j k n, vs = [.int i, .int j, .int k] ∧ RgC i j k n ∧ Builtin.Range.handS_smallRev i j k = true ∧ Q i j k n H1
theorem prg_3 {X : Cx} {a b c : Expr} {ta : TA} {p pos : Pos} (hg : Gl X "range") (hm : X.mg "range" = none) (ha : PA X [a, b, c] ta)
    (hs : starEach [a, b, c] X.env = (false, eval a X.env) :: starEach [b, c] X.env := by rfl) (hpl : (backTo pos (starEach [b, c] X.env)).any (·.1) = false := by rfl) : PRg3 X (.Call (.Name "range" p) [a, b, c] [] pos) (tRg3 ta) := by
  intro pins s σ H Q I h
  refine Call_ (ld_blt I hg hm boot_range (PyProof.Rows.callWith_type1 (thn (ha.run pos pins s σ H _ I h) fun us s1 ⟨vs, H1, I1, r1, q1⟩ => ?_) hs hpl))
  obtain ⟨i, j, k, n, e, ⟨c0, c1, c2, c3⟩, hr, q⟩ := q1
  subst e
  cases r1 with
  | cons r rr =>
    cases rr with
    | cons r' rr =>
      cases rr with
      | cons r'' rr =>
        cases rr
        obtain ⟨t, rfl⟩ := r
        obtain ⟨t', rfl⟩ := r'
        obtain ⟨t'', rfl⟩ := r''
        exact call_range_3 c0 ⟨_, i, j, k, n, _, _, _, H1, rfl, IsRange.new .., hr, c3, I1.kept fun b u e => Heap.get?_push_of_some _ e, q⟩ (.inl (PyProof.noPylong_small c1))
def iRevR3 (tr : L2.St → Hp → (Int → Int → Int → Nat → Hp → Prop) → Prop) : TI := fun σ H R => tr σ H fun a _ c n H1 => R (Itc (a + ((n : Int) - 1) * c) (-c) n) H1
theorem pi_revR3 {X : Cx} {tg e : Expr} {tr : L2.St → Hp → (Int → Int → Int → Nat → Hp → Prop) → Prop} {p pos : Pos} (hg : Gl X "reversed") (hm : X.mg "reversed" = none) (he : PRg3 X e tr) (hs : starEach [e] X.env = (false, eval e X.env) :: starEach [] X.env := by rfl) :
    PI X tg (.Call (.Name "reversed" p) [e] [] pos) (iRevR3 tr) := by
  refine ⟨fun pins s σ H R I h => ?_⟩
  refine Call_ (ld_blt I hg hm PyProof.Rows.boot_reversed (PyProof.Rows.callWith_type1 (args_cons (thn (he pins s σ H _ I h) fun u s1 hx => args_nil ?_) hs) hs rfl))
  obtain ⟨r, a, b, c, n, t, w1, v, H1, eu, hr, hsm, hn, I1, q⟩ := hx
  subst eu
  refine call_reversed_range hr hsm (wpAny_pyIter_rangeiter (Heap.get?_push_size _ rfl) ?_)
  refine pi_one (tk := s1.toks) I1 _ (turn_rangeC _ (a + ((n : Int) - 1) * c) (-c) n) ?_ q
  have e1 : a + ((n : Int) - 1) * c + ((0 : Nat) : Int) * (-c) = a + (Builtin.Range.rangeSize a b c - 1) * c := by
    rw [hn]
    show _ + (0 : Int) * (-c) = _
    rw [Int.zero_mul, Int.add_zero]
  have e2 : (n : Int) - ((0 : Nat) : Int) = Builtin.Range.rangeSize a b c := by rw [hn]; omega
  show IsRangeIter _ _ (a + ((n : Int) - 1) * c + ((0 : Nat) : Int) * (-c)) ((n : Int) - ((0 : Nat) : Int)) (-c)
  rw [e1, e2]
  exact Heap.get?_push_size _ rfl
theorem pi_tupK {X : Cx} {tg e : Expr} {te : TE} (K : PySem.W.Frag) (h : PE X e te) (hK : X.K = K := by rfl) : PI X tg e (iTup K te) := hK ▸ pi_tup h
theorem pi_listK {X : Cx} {tg e : Expr} {te : TE} (K : PySem.W.Frag) (h : PE X e te) (hK : X.K = K := by rfl) : PI X tg e (iList K te) := hK ▸ pi_list h
end Vf

namespace Vf
open PySem L2 PySem.Spec PyProof.Rows
/-! ### max(xs, key=f): xs a list of references, f an own def whose answers are data of one form -/
theorem run_in {X : Cx} {k : Nat} {f : Addr} {fd : FuncData} {ps : List Str} {sp : Sp} (F : FnOk X.prog X.w X.K X.mg X.base CX0 k f fd ps sp) (hb : Binds X.K fd ps []) {B : Around} (hr : Room k B) (hB : B.frames = X.A.frames)
    {pins : List (Addr × Obj)} {σ : L2.St} {H : Hp} {s : Shared} (I : Inv X pins σ H s) {vs : List V} {us : List Value} (r : Vals vs us) {Q : VK} (h : sp vs H Q E0) {T E : Value → Shared → Prop}
    (hT : ∀ u s', EP X pins σ Q u s' → T u s') : wpAny (model X.prog X.w) B (call (.ref f) us) T E s := by
  have hl : us.length = ps.length := by rw [← r.length]; exact F.len _ _ _ _ h
  have e0 : Env0 X.prog X.w X.K X.mg X.base B X.stack s H := by
    have e := I.env0
    exact ⟨hB.trans e.frames, e.mod, e.bs, e.bsz, e.funs, e.frf, e.hok, e.bare⟩
  have b0 := hb s us I.kIn (by rw [List.append_nil]; exact hl)
  rw [List.append_nil] at b0
  refine wpAny_call (codeAny_mono (F.run B X.stack s H ⟨us, []⟩ us vs Q E0 hr e0 b0 r h) fun r s' hq => ?_)
  cases r with
  | error e => exact False.elim hq
  | ok fl =>
    cases fl with
    | ret u => exact hT u s' (I.after hq)
    | next => exact False.elim hq
    | brk => exact False.elim hq
    | cont => exact False.elim hq
structure MxK (K : PySem.W.Frag) (sp : Sp) (a : Addr) (ps : List Addr) (kd : Nat → PyData) (J : Hp → Prop) : Prop where
  lst : ∀ H, J H → SqL K H a (ps.map V.ref)
  turn : ∀ i p H, ps[i]? = some p → J H → sp [.ref p] H (fun y H' => J H' ∧ (∀ z d, Dp K H z d → Dp K H' z d) ∧ Dp K H' y (kd i)) E0
  alk : ∀ i j, i < ps.length → j < ps.length → PySem.W.alike (kd i) (kd j) = true
  nn : ∀ i, i < ps.length → kd i ≠ .none
  dep : ∀ i, i < ps.length → (kd i).depth ≤ 60
abbrev mxB (kd : Nat → PyData) (i j : Nat) : Bool := PySem.W.dataLt (kd j) (kd i)
theorem argBest_lt (bt : Nat → Nat → Bool) : ∀ j, argBest bt j ≤ j
  | 0 => Nat.le_refl _
  | j + 1 => by
    have ih := argBest_lt bt j
    show (if bt (j + 1) (argBest bt j) = true then j + 1 else argBest bt j) ≤ j + 1
    split <;> omega
def mxS (v : Value) (kb : Value) (c : Nat) : Obj := { cls := .type "list", dict := none, data := .seq #[v, kb] c, slots := #[] }
structure MxSt (X : Cx) (pins : List (Addr × Obj)) (σ : L2.St) (a : Addr) (ps : List Addr) (kd : Nat → PyData) (J : Hp → Prop) (S it : Addr) (j : Nat) (s : Shared) : Prop where
  ex : ∃ (H : Hp) (y : V) (kb : Value) (c : Nat) (p : Addr), Inv X pins σ H s ∧ J H ∧ RelV y kb ∧ Dp X.K H y (kd (argBest (mxB kd) j)) ∧ ps[argBest (mxB kd) j]? = some p ∧ (FpOk X pins H S ∧ FpOk X pins H it) ∧ S ≠ it ∧
    s.heap.get? S = some (mxS (.ref p) kb c) ∧ s.heap.IsListIter it a (j + 1)
section
variable {X : Cx} {k : Nat} {f a : Addr} {fd : FuncData} {nm : List Str} {sp : Sp} {pins : List (Addr × Obj)} {σ : L2.St} {ps : List Addr} {kd : Nat → PyData} {J : Hp → Prop} {S it : Addr} {R : Result → Shared → Prop}
theorem fp_at {H H' : Hp} {b : Addr} (h : FpOk X pins H b) (n : H' b = none) : FpOk X pins H' b := ⟨n, h.2⟩
theorem iter_nocell {h : Heap} {it a : Addr} {i : Nat} (st : h.IsListIter it a i) : ∃ o, h.get? it = some o ∧ ∀ v, o.data ≠ .cell v := by
  obtain ⟨o, e, c, d⟩ := st
  exact ⟨o, e, fun v z => by rw [d] at z; cases z⟩
/-- f at the item, S and the iterator held -/
theorem mx_turn (F : FnOk X.prog X.w X.K X.mg X.base CX0 k f fd nm sp) (hb : Binds X.K fd nm []) (hr : Room (k + 1) X.A) (M : MxK X.K sp a ps kd J) {H : Hp} {s : Shared} {i m : Nat} {p : Addr} {o : Obj} (hp : ps[i]? = some p) (I : Inv X pins σ H s) (hJ : J H)
    (fS : FpOk X pins H S) (fI : FpOk X pins H it) (hS : s.heap.get? S = some o) (hoc : ∀ v, o.data ≠ .cell v) (st : s.heap.IsListIter it a m) {T E : Value → Shared → Prop}
    (hT : ∀ u s' H' y, Inv X pins σ H' s' → J H' → RelV y u → Dp X.K H' y (kd i) → (∀ z d, Dp X.K H z d → Dp X.K H' z d) → FpOk X pins H' S → FpOk X pins H' it → s'.heap.get? S = some o → s'.heap.IsListIter it a m → T u s') :
    wpAny (model X.prog X.w) X.A.in1 (call (.ref f) [.ref p]) T E s := by
  have I' : Inv X (pins ++ pinsAt [S, it] s.heap) σ H s := I.pinned (fp := [S, it]) (fun b hb' => by
      rcases List.mem_cons.mp hb' with e | hb'
      · rw [e]; exact fS
      · rw [List.mem_singleton.mp hb']; exact fI) (fun b hb' => by
      rcases List.mem_cons.mp hb' with e | hb'
      · rw [e]; exact ⟨o, hS, hoc⟩
      · rw [List.mem_singleton.mp hb']; exact iter_nocell st)
  refine run_in F hb hr.in1 rfl I' (vs := [.ref p]) (.cons rfl .nil) (M.turn i p H hp hJ) fun u s' q => ?_
  obtain ⟨y, H', I2, ry, j2, dk, dy⟩ := q
  obtain ⟨oi, hi, ci⟩ := iter_nocell st
  have pS := I2.pin (S, o) (List.mem_append_right _ (List.mem_append_right _ (mem_pinsAt (by simp) hS)))
  have pI := I2.pin (it, oi) (List.mem_append_right _ (List.mem_append_right _ (mem_pinsAt (by simp) hi)))
  refine hT u s' H' y I2.unpinned j2 ry dy dk (fp_at fS pS.2.1) (fp_at fI pI.2.1) pS.1 (st.at fun o' e => ?_)
  rw [hi] at e
  cases e
  exact pI.1
theorem mx_loop (F : FnOk X.prog X.w X.K X.mg X.base CX0 k f fd nm sp) (hb : Binds X.K fd nm []) (hr : Room (k + 1) X.A) (M : MxK X.K sp a ps kd J) (kw : List (Str × Value)) :
    ∀ (m j : Nat) (s : Shared), ps.length - (j + 1) = m → j + 1 ≤ ps.length → MxSt X pins σ a ps kd J S it j s →
    (∀ (H' : Hp) (s' : Shared) (p : Addr), Inv X pins σ H' s' → J H' → ps[argBest (mxB kd) (ps.length - 1)]? = some p → R (.ok (.ret (.ref p))) s') → codeAny (model X.prog X.w) X.A (.builtin "max.loop" ⟨[.ref it, .ref f, .ref S], kw⟩) R s := by
  have hname : (toString "max" ++ toString ".loop" : String) = "max.loop" := by decide
  intro m
  induction m with
  | zero =>
    intro j s hm hj ⟨H, y, kb, c, p, I, hJ, ry, dy, hp, ⟨fS, fI⟩, ne, hS, st⟩ hR
    obtain ⟨its, rv, pl, hz⟩ := I.list (M.lst H hJ)
    have hl := rv.length
    rw [List.length_map] at hl
    refine codeAny_builtin PySem.F.entry_max_loop ?_
    rw [Around.under_plainId PySem.F.plain_max_loop _]
    show wpAny _ X.A.in1 (seqItems? (.ref S) >>= _) _ _ s
    refine wpAny_bind (wpAny_seqItems hS rfl ?_)
    refine wpAny_bind (wpAny_tryCatch ?_)
    refine wpAny_pyNext_list_end hr.hd st pl.isList (by simp; omega) fun h' eb => ?_
    have I1 : Inv X pins σ H { s with heap := h' } := I.turned (t' := s.toks) (fun b o hb e => eb b o hb e) fI.1 fI.2.1 fI.2.2.2.1 fI.2.2.2.2.1 fI.2.2.2.2.2
    have hS' : ({ s with heap := h' } : Shared).heap.get? S = some (mxS (.ref p) kb c) := eb S _ ne hS
    show wpAny _ X.A.in1 (updateSeq S (fun _ => #[]) >>= _) _ _ _
    refine wpAny_bind (wpAny_updateSeq hS' rfl (wpAny_bind (wpAny_letGo (wpAny_pure ?_))))
    have I2 := I1.turned (it := S) (t' := s.toks) (h' := h'.update S (Obj.mapSeq fun _ => #[])) (fun b o hb e => (Heap.get?_update_other _ _ (Ne.symm hb)).trans e) fS.1 fS.2.1 fS.2.2.2.1 fS.2.2.2.2.1 fS.2.2.2.2.2
    refine hR H _ p I2 hJ ?_
    rw [show ps.length - 1 = j from by omega]
    exact hp
  | succ m ih =>
    intro j s hm hj ⟨H, y, kb, c, p, I, hJ, ry, dy, hp, ⟨fS, fI⟩, ne, hS, st⟩ hR
    obtain ⟨its, rv, pl, hz⟩ := I.list (M.lst H hJ)
    have hlt : j + 1 < ps.length := by omega
    have hx : ps[j + 1]? = some ps[j + 1] := List.getElem?_eq_getElem hlt
    obtain ⟨u, hu, ru⟩ := rv.get (i := j + 1) (x := .ref ps[j + 1]) (by rw [List.getElem?_map, hx]; rfl)
    cases ru
    generalize ps[j + 1] = q at hx hu
    refine codeAny_builtin PySem.F.entry_max_loop ?_
    rw [Around.under_plainId PySem.F.plain_max_loop _]
    show wpAny _ X.A.in1 (seqItems? (.ref S) >>= _) _ _ s
    refine wpAny_bind (wpAny_seqItems hS rfl ?_)
    refine wpAny_bind (wpAny_tryCatch ?_)
    refine wpAny_pyNext_list_item st pl.isList (x := .ref q) (by simpa using hu) fun h' st' sb => ?_
    have I1 : Inv X pins σ H { s with heap := h' } := I.turned (t' := s.toks) (fun b o hb e => (sb.2 b hb).trans e) fI.1 fI.2.1 fI.2.2.2.1 fI.2.2.2.2.1 fI.2.2.2.2.2
    have hS' : ({ s with heap := h' } : Shared).heap.get? S = some (mxS (.ref p) kb c) := (sb.2 S ne).trans hS
    refine wpAny_bind (wpAny_tryCatch (wpAny_holding (mx_turn F hb hr M hx I1 hJ fS fI hS' (fun v z => nomatch z) st' fun kx s2 H2 y2 I2 j2 ry2 dy2 dk fS2 fI2 hS2 st2 => ?_)))
    have dy3 := dk _ _ dy
    have hbl := argBest_lt (mxB kd) j
    obtain ⟨as1, r1⟩ := Dp.reads I2 _ _ _ dy2 ry2
    obtain ⟨as2, r2⟩ := Dp.reads I2 _ _ _ dy3 ry
    refine wpAny_bind (wpAny_tryCatch (wpAny_holding (wpAny_bind (PySem.W.gt_data r1 r2 (M.alk _ _ hlt (by omega)) (M.nn _ hlt) (by
      have h1 := Nat.min_le_left (kd (j + 1)).depth (kd (argBest (mxB kd) j)).depth
      have h2 := M.dep _ hlt
      have h3 := hr.un
      show X.A.units + 1 + _ < _
      omega) ?_))))
    refine wpAny_bind (wpAny_holding (wpAny_truthy_bool ?_))
    refine wpAny_bind (wpAny_letGo (wpAny_pure ?_))
    have eB : argBest (mxB kd) (j + 1) = if PySem.W.dataLt (kd (argBest (mxB kd) j)) (kd (j + 1)) = true then j + 1 else argBest (mxB kd) j := rfl
    cases hcmp : PySem.W.dataLt (kd (argBest (mxB kd) j)) (kd (j + 1)) with
    | true =>
      rw [hcmp, if_pos rfl] at eB
      simp only [if_true]
      refine wpAny_bind (wpAny_updateSeq hS2 rfl (wpAny_bind (wpAny_letGo ?_)))
      rw [hname]
      refine wpAny_pure ⟨plainId_quiet PySem.F.plain_max_loop _, ih (j + 1) _ (by omega) hlt ⟨H2, y2, kx, c, q, ?_, j2, ry2, by rw [eB]; exact dy2, by rw [eB]; exact hx, ⟨fS2, fI2⟩, ne, ?_, st2.at fun o e => ?_⟩ hR⟩
      · exact I2.turned (it := S) (t' := s2.toks) (fun b o hb e => (Heap.get?_update_other _ _ (Ne.symm hb)).trans e) fS2.1 fS2.2.1 fS2.2.2.2.1 fS2.2.2.2.2.1 fS2.2.2.2.2.2
      · exact Heap.get?_update_self _ hS2 rfl
      · exact (Heap.get?_update_other _ _ ne).trans e
    | false =>
      rw [hcmp, if_neg Bool.false_ne_true] at eB
      simp only [Bool.false_eq_true, if_false]
      refine wpAny_bind (wpAny_letGo ?_)
      rw [hname]
      exact wpAny_pure ⟨plainId_quiet PySem.F.plain_max_loop _, ih (j + 1) _ (by omega) hlt ⟨H2, y, kb, c, p, I2, j2, ry, by rw [eB]; exact dy3, by rw [eB]; exact hp, ⟨fS2, fI2⟩, ne, hS2, st2⟩ hR⟩
end
section
variable {X : Cx} {k : Nat} {f a : Addr} {fd : FuncData} {nm : List Str} {sp : Sp} {pins : List (Addr × Obj)} {σ : L2.St} {ps : List Addr} {kd : Nat → PyData} {J : Hp → Prop}
theorem mx_start (F : FnOk X.prog X.w X.K X.mg X.base CX0 k f fd nm sp) (hb : Binds X.K fd nm []) (hr : Room (k + 1) X.A) (M : MxK X.K sp a ps kd J) {S it : Addr} {R : Result → Shared → Prop} (kw : List (Str × Value)) (hn : 0 < ps.length) {H : Hp} {s : Shared} {c : Nat} (I : Inv X pins σ H s) (hJ : J H)
    (fS : FpOk X pins H S) (fI : FpOk X pins H it) (ne : S ≠ it) (hS : s.heap.get? S = some { cls := .type "list", dict := none, data := .seq #[] c, slots := #[] }) (st : s.heap.IsListIter it a 0)
    (hR : ∀ (H' : Hp) (s' : Shared) (p : Addr), Inv X pins σ H' s' → J H' → ps[argBest (mxB kd) (ps.length - 1)]? = some p → R (.ok (.ret (.ref p))) s') : codeAny (model X.prog X.w) X.A (.builtin "max.loop" ⟨[.ref it, .ref f, .ref S], kw⟩) R s := by
  have hname : (toString "max" ++ toString ".loop" : String) = "max.loop" := by decide
  obtain ⟨its, rv, pl, hz⟩ := I.list (M.lst H hJ)
  have hx : ps[0]? = some ps[0] := List.getElem?_eq_getElem hn
  obtain ⟨u, hu, ru⟩ := rv.get (i := 0) (x := .ref ps[0]) (by rw [List.getElem?_map, hx]; rfl)
  cases ru
  generalize ps[0] = q at hx hu
  refine codeAny_builtin PySem.F.entry_max_loop ?_
  rw [Around.under_plainId PySem.F.plain_max_loop _]
  show wpAny _ X.A.in1 (seqItems? (.ref S) >>= _) _ _ s
  refine wpAny_bind (wpAny_seqItems hS rfl ?_)
  refine wpAny_bind (wpAny_tryCatch ?_)
  refine wpAny_pyNext_list_item st pl.isList (x := .ref q) (by simpa using hu) fun h' st' sb => ?_
  have I1 : Inv X pins σ H { s with heap := h' } := I.turned (t' := s.toks) (fun b o hb e => (sb.2 b hb).trans e) fI.1 fI.2.1 fI.2.2.2.1 fI.2.2.2.2.1 fI.2.2.2.2.2
  have hS' : ({ s with heap := h' } : Shared).heap.get? S = some { cls := .type "list", dict := none, data := .seq #[] c, slots := #[] } := (sb.2 S ne).trans hS
  refine wpAny_bind (wpAny_tryCatch (wpAny_holding (mx_turn F hb hr M hx I1 hJ fS fI hS' (fun v z => nomatch z) st' fun kx s2 H2 y2 I2 j2 ry2 dy2 dk fS2 fI2 hS2 st2 => ?_)))
  refine wpAny_bind (wpAny_updateSeq hS2 rfl ?_)
  rw [hname]
  refine wpAny_pure ⟨plainId_quiet PySem.F.plain_max_loop _, mx_loop F hb hr M kw _ 0 _ rfl hn ⟨H2, y2, kx, c + 1, q, ?_, j2, ry2, dy2, hx, ⟨fS2, fI2⟩, ne, ?_, st2.at fun o e => ?_⟩ hR⟩
  · exact I2.turned (it := S) (t' := s2.toks) (fun b o hb e => (Heap.get?_update_other _ _ (Ne.symm hb)).trans e) fS2.1 fS2.2.1 fS2.2.2.2.1 fS2.2.2.2.2.1 fS2.2.2.2.2.2
  · exact Heap.get?_update_self _ hS2 rfl
  · exact (Heap.get?_update_other _ _ ne).trans e
/-- the best of a row, the first of equals -/
abbrev mxI (kd : Nat → PyData) (n : Nat) : Nat := argBest (mxB kd) (n - 1)
def rMaxF (K : PySem.W.Frag) (sp : Sp) : List V → Hp → VK → Prop := fun vs H Q => ∃ (a : Addr) (ps : List Addr) (kd : Nat → PyData) (J : Hp → Prop), vs = [.ref a] ∧ 0 < ps.length ∧ J H ∧ MxK K sp a ps kd J ∧
  ∀ H' p, J H' → ps[mxI kd ps.length]? = some p → Q (.ref p) H'
theorem cr_maxF (F : FnOk X.prog X.w X.K X.mg X.base CX0 k f fd nm sp) (hb : Binds X.K fd nm []) (hr : Room (k + 1) X.A) : CallRK X (.builtin "max") [Str.ofString "key"] (fun vs zs H Q => zs = [.ref f] ∧ rMaxF X.K sp vs H Q) := by
  intro pins s σ H vs zs us ws Q I r rz hq
  obtain ⟨rfl, a, ps, kd, J, rfl, hn, hJ, M, q⟩ := hq
  obtain rfl := Vals.ref1 r
  obtain ⟨w1, rfl, e1⟩ := vals1 rz
  obtain rfl : w1 = Value.ref f := e1
  have hname : (toString "max" ++ toString ".loop" : String) = "max.loop" := by decide
  refine PyProof.Rows.kmk_tree PySem.F.kind_max PySem.F.plain_max PySem.F.entry_max (PyProof.Rows.kmk_max_key _ _) ?_
  refine wpAny_bind (wpAny_of_eq (a := [some (.ref f), none]) (by rfl) ?_)
  refine wpAny_bind (wpAny_pure ?_)
  obtain ⟨its, rv, pl, hz⟩ := I.list (M.lst H hJ)
  refine wpAny_bind (wpAny_pyIter_list pl.isList ?_)
  have I1 : Inv X pins σ H { s with heap := s.heap.push { cls := .type "list_iterator", data := .fields #[.ref a, .int 0 0] } } := I.kept (t' := s.toks) fun b o e => Heap.get?_push_of_some _ e
  have fI : FpOk X pins H s.heap.objs.size := I.fpOk (Nat.le_refl _) (I.hok.fresh (Nat.le_refl _))
  have st0 : ({ s with heap := s.heap.push { cls := .type "list_iterator", data := .fields #[.ref a, .int 0 0] } } : Shared).heap.IsListIter s.heap.objs.size a 0 := ⟨_, Heap.get?_push_size _ rfl, rfl, rfl⟩
  generalize hs1 : ({ s with heap := s.heap.push { cls := .type "list_iterator", data := .fields #[.ref a, .int 0 0] } } : Shared) = s1 at I1 st0 ⊢
  have sz1 : s1.heap.objs.size = s.heap.objs.size + 1 := by rw [← hs1]; exact size_push' ..
  have fS : FpOk X pins H s1.heap.objs.size := I1.fpOk (Nat.le_refl _) (I1.hok.fresh (Nat.le_refl _))
  refine wpAny_bind (wpAny_newObj_type ?_)
  rw [hname]
  have I2 : Inv X pins σ H { s1 with heap := s1.heap.push { cls := .type "list", data := .seq #[] 0 } } := I1.kept (t' := s1.toks) fun b o e => Heap.get?_push_of_some _ e
  exact wpAny_pure ⟨plainId_quiet PySem.F.plain_max_loop _, mx_start F hb hr M _ hn I2 hJ fS fI (fun z => by rw [sz1] at z; exact absurd z (Nat.succ_ne_self _)) (Heap.get?_push_size _ rfl) (st0.at fun o e => Heap.get?_push_of_some _ e) fun H' s' p I' hJ' hp => ⟨.ref p, H', I', rfl, q H' p hJ' hp⟩⟩
end
def tMaxF (K : PySem.W.Frag) (sp : Sp) (ta : TA) : TE := fun σ H Q => ta σ H fun vs H1 => rMaxF K sp vs H1 Q
theorem pe_maxF {X : Cx} {k j : Nat} {x : Str} {sp : Sp} {p p2 p3 pos : Pos} {e : Expr} {t : TA} (c : Cal X.prog X.w X.K X.mg X.base k x sp) (hr : Room j X.A) (hk : k + 1 ≤ j) (hg : Gl X "max") (hm : X.mg "max" = none) (hgx : Gl X x) (ha : PA X [e] t)
    (hdb : (x == ("__debug__" : Str)) = false := by decide)
    (he : backTo pos (starEach [e] X.env) = (false, eval e X.env) :: backTo pos (starEach [] X.env) := by rfl) (hpl : (backTo pos (starEach [e] X.env)).any (·.1) = false := by rfl)
    (hall : (backToKw pos (keywordEach [⟨some "key", .Name x p2, p3⟩] X.env)).all (·.1.isSome) = true := by rfl) (hnone : (backToKw pos (keywordEach [⟨some "key", .Name x p2, p3⟩] X.env)).any (·.1.isNone) = false := by rfl) (hks : (backToKw pos (keywordEach [⟨some "key", .Name x p2, p3⟩] X.env)).filterMap (·.1) = [Str.ofString "key"] := by rfl) :
    PE X (.Call (.Name "max" p) [e] [⟨some "key", .Name x p2, p3⟩] pos) (tMaxF X.K sp t) := by
  obtain ⟨f, fd, ps, F, hmx, hkp, hb⟩ := c.ex
  refine ⟨fun pins s σ H Q I h => ?_⟩
  refine wpAny_Call_Name_kw (ld_blt I hg hm (u := .builtin "max") (by first | rfl | decide +kernel) ?_ (by decide) (by decide))
  refine PyProof.Rows.callWith_kw (thn (ha.run pos pins s σ H _ I h) fun us s1 ⟨vs, H1, I1, r1, q1⟩ => thn ((pk_cons (pe_glob (v := .ref f) hgx hmx rfl hdb) pk_nil).run pos pins s1 σ H1 (fun zs H2 => zs = [V.ref f] ∧ rMaxF X.K sp vs H2 Q) I1 ⟨rfl, q1⟩) fun ws s2 ⟨zs, H2, I2, r2, q2⟩ => ?_) he hpl hall hnone
  rw [hks]
  exact cr_maxF F hb (hr.mono hk) pins s2 σ H2 vs zs us ws Q I2 r1 r2 q2
end Vf

namespace Vf
open PySem L2 PySem.Spec PyProof.Rows He
/-! ### a written tuple, known to be a plain one -/
def tTupP (t : TA) : TE := fun σ H Q => t σ H fun xs H1 => xs.length ≤ sizeLine ∧ ∀ p H', H1 p = none → Same H1 H' → PlT H' p xs → (∀ b, b ≠ p → H' b = H1 b) → Q (.ref p) H'
theorem pe_tupP {X : Cx} {es : List Expr} {x1} {pos : Pos} {t : TA} (h : PA X es t) : PE X (.Tuple es x1 pos) (tTupP t) := by
  refine ⟨fun pins s σ H Q I hq => ?_⟩
  refine wpAny_Tuple_spliced (thn (h.run pos pins s σ H _ I hq) fun us s1 ⟨xs, H1, I1, r, z, q⟩ => ⟨by rw [← r.length]; exact z, ?_⟩)
  have hf : H1 s1.heap.objs.size = none := I1.hok.fresh (Nat.le_refl _)
  have J : Inv X pins σ (upd H1 s1.heap.objs.size (.frz { cls := .type "tuple", data := .seq us.toArray } (.tup xs))) { s1 with heap := s1.heap.push { cls := .type "tuple", data := .seq us.toArray } } :=
    I1.laid (t' := s1.toks) (fun b u e => Heap.get?_push_of_some _ e) (Nat.le_refl _) ⟨Heap.get?_push_size _ rfl, z, us, r, ⟨_, Heap.get?_push_size _ rfl, rfl, _, rfl⟩⟩
  exact ⟨.ref s1.heap.objs.size, _, J, rfl, q _ _ hf (same_new hf) ⟨_, rfl, upd_same⟩ fun b hb => upd_ne hb⟩
theorem e_tupP {t : TA} {σ : L2.St} {H : Hp} {Q : VK} (q : t σ H fun xs H1 => xs.length ≤ sizeLine ∧ ∀ p H', H1 p = none → Same H1 H' → PlT H' p xs → (∀ b, b ≠ p → H' b = H1 b) → Q (.ref p) H') : tTupP t σ H Q := q
/-! ### an own class beside lists -/
def clsLB (x : Str) (K : PySem.W.Frag) : Bool := decide (PySem.W.kitOne K (.type "list") (.ref (ga K x)) = some false) && PySem.W.notFirst K (ga K x) (.type "list")
structure ClsL (K : PySem.W.Frag) (x : Str) : Prop where
  lst : PySem.W.kitOne K (.type "list") (.ref (ga K x)) = some false
  nf : PySem.W.notFirst K (ga K x) (.type "list") = true
theorem clsLB_ok {x : Str} {K : PySem.W.Frag} (c : clsLB x K = true) : ClsL K x := by
  unfold clsLB at c
  obtain ⟨c1, c2⟩ := ba c
  exact ⟨of_decide_eq_true c1, c2⟩
/-- x == y, x an instance with its own __eq__; y one too, a tuple or a list -/
def rEqOL (K : PySem.W.Frag) (C : Addr) (sp : Sp) (E : XK) : R2 := fun x y H Q => ∃ (a b dx : Addr) (fs : List (Str × V)), x = .ref a ∧ y = .ref b ∧ H a = some (.ins C dx fs) ∧
  ((∃ (dy : Addr) (gs : List (Str × V)), H b = some (.ins C dy gs)) ∨ (PySem.W.notFirst K C (.type "tuple") = true ∧ ∃ ys, SqT K H b ys) ∨ (PySem.W.notFirst K C (.type "list") = true ∧ ∃ ys, SqL K H b ys)) ∧ sp [x, y] H (fun z H' => ∃ t, z = .bl t ∧ Q z H') E
theorem op_eqOwnL {X : Cx} {CX : CXT} {C f : Addr} {fd : FuncData} {ps : List Str} {sp : Sp} {E : XK} {n : Nat} (F : FnOk X.prog X.w X.K X.mg X.base CX n f fd ps sp)
    (hs : PySem.W.findIn X.K (.ref C) "__eq__" = some (some (.ref f))) (hf : PySem.W.isFn X.K (.ref f) = true) (hb : Binds X.K fd ps []) (hx : Passes CX X E) (hr : Room n X.A) : OpR X (compareOp .Eq) (rEqOL X.K C sp E) := by
  intro pins s σ H x y v u Q I rx ry q
  obtain ⟨a, b, dx, fs, rfl, rfl, ha, hy, hsp⟩ := q
  cases rx
  cases ry
  obtain ⟨mA, J, _⟩ := ins_get I.hok ha
  obtain ⟨od, J, _⟩ := J.look
  obtain ⟨m, hF⟩ := I.fr
  have go : ∀ tb : Value, PySem.W.Looks (model X.prog X.w) s.heap (typeOf (.ref b)) tb → PySem.W.notFirst X.K C tb = true → wpAny (model X.prog X.w) X.A (richCompare .Eq (.ref a) (.ref b)) (EP X pins σ Q) X.xe s := fun tb ht hn => by
    refine PySem.W.cmp_K (op := .Eq) (tb := tb) hr.units0 hF I.ok.mod.kin J ht hn hs hf ?_
    have hl := F.len _ _ _ _ hsp
    have r2 : Vals [V.ref a, V.ref b] [Value.ref a, Value.ref b] := .cons rfl (.cons rfl .nil)
    refine wpAny_call (codeAny_mono (F.run X.A X.stack s H ⟨[.ref a, .ref b], []⟩ [.ref a, .ref b] [.ref a, .ref b] _ E hr I.env0 (by
      have := hb s [.ref a, .ref b] I.kIn (by simpa using hl)
      simpa using this) r2 hsp) fun r s' hq => ?_)
    cases r with
    | error e => exact hx pins σ H s e s' I hq
    | ok fl =>
      cases fl with
      | ret w =>
        obtain ⟨z, H', I', rz, t, ez, hQ⟩ := I.after hq
        subst ez
        cases rz
        exact ⟨.bl t, H', I', rfl, hQ⟩
      | next => exact False.elim hq
      | brk => exact False.elim hq
      | cont => exact False.elim hq
  rcases hy with ⟨dy, gs, hy⟩ | ⟨hn, ys, hy⟩ | ⟨hn, ys, hy⟩
  · obtain ⟨mB, J', _⟩ := ins_get I.hok hy
    obtain ⟨od', J', _⟩ := J'.look
    exact go (.ref C) J'.type (by simp [PySem.W.notFirst])
  · obtain ⟨its, rv, ⟨o, ho, hc, _⟩, _⟩ := I.tuple hy
    exact go (.type "tuple") (fun A Q E s' k z => wpAny_typeOf (T := "tuple") ⟨o, k _ _ ho, hc⟩ z) hn
  · obtain ⟨its, rv, ⟨o, n, ho, hc, _⟩, _⟩ := I.list hy
    exact go (.type "list") (fun A Q E s' k z => wpAny_typeOf (T := "list") ⟨o, k _ _ ho, hc⟩ z) hn
theorem op_eqCL {X : Cx} {k j : Nat} {x : Str} {sp : Sp} (c : EqC X.prog X.w X.K X.mg X.base k x sp) (hr : Room j X.A) (hk : k ≤ j) : OpR X (compareOp .Eq) (rEqOL X.K (ga X.K x) sp E0) := by
  obtain ⟨f, fd, ps, F, hs, hf, hb⟩ := c.ex
  exact op_eqOwnL F hs hf hb pass0 (hr.mono hk)
/-! ### xs != ys, lists of the same objects -/
def rNeR (K : PySem.W.Frag) : R2 := fun x y H Q => ∃ (a b : Addr) (ps : List Addr), x = .ref a ∧ y = .ref b ∧ SqL K H a (ps.map V.ref) ∧ SqL K H b (ps.map V.ref) ∧ Q (.bl false) H
theorem op_neR {X : Cx} {k : Nat} (hr : Room k X.A) : OpR X (compareOp .NotEq) (rNeR X.K) := by
  intro pins s σ H x y v u Q I rx ry q
  obtain ⟨a, b, ps, rfl, rfl, ha, hb, q⟩ := q
  cases rx
  cases ry
  obtain ⟨its, rv, pl, _⟩ := I.list ha
  obtain ⟨its2, rv2, pl2, _⟩ := I.list hb
  have e1 := refs_of rv
  have e2 := refs_of rv2
  subst e1 e2
  have h := SeqAt.RcNeAt.lists (A := X.A) (s := s) (e := fun _ => true) pl.isList pl2.isList rfl hr.units0 fun j h1 h2 => SeqAt.EqAt.same _
  have e0 : ((List.range (ps.map Value.ref).toArray.size).all fun _ => true) = true := List.all_eq_true.mpr fun _ _ => rfl
  rw [e0] at h
  have h2 : SeqAt.RcNeAt X.A s (.ref a) (.ref b) false := h
  exact h2 X.prog X.w X.xe _ ⟨.bl false, H, I, rfl, q⟩
/-! ### data: ints, bools, texts, tuples of ints -/
theorem plain_ints : ∀ xs : List Int, PyData.plainAll (Di xs) = true
  | [] => by simp [PyData.plainAll]
  | x :: xs => by
    show PyData.plainAll (.int x :: Di xs) = true
    rw [PyData.plainAll, plain_ints xs]
    simp [PyData.plain]
theorem e_eqPV {K : PySem.W.Frag} {x y : V} {H : Hp} {Q : VK} {d e : PyData} (h1 : Dp K H x d) (h2 : Dp K H y e) (p1 : d.plain = true) (p2 : e.plain = true) (hd : d.depth ≤ 60) {b : Bool} (hb : PyData.eqv d e = b) (q : Q (.bl b) H) : rEqP K x y H Q := ⟨d, e, h1, h2, p1, p2, hd, by rw [hb]; exact q⟩
theorem e_nePV {K : PySem.W.Frag} {x y : V} {H : Hp} {Q : VK} {d e : PyData} (h1 : Dp K H x d) (h2 : Dp K H y e) (p1 : d.plain = true) (p2 : e.plain = true) (hd : d.depth ≤ 60) {b : Bool} (hb : PyData.eqv d e = b) (q : Q (.bl (!b)) H) : rNeP K x y H Q := ⟨d, e, h1, h2, p1, p2, hd, by rw [hb]; exact q⟩
theorem dp_ti {K : PySem.W.Frag} {H : Hp} {a : Addr} {xs : List Int} (h : SqT K H a (xs.map V.int)) : Dp K H (.ref a) (.tuple (Di xs)) := .tup h (dpAll_ints xs)
theorem e_eqPT {K : PySem.W.Frag} {H : Hp} {Q : VK} {a b : Addr} {xs ys : List Int} (h1 : SqT K H a (xs.map V.int)) (h2 : SqT K H b (ys.map V.int)) (q : Q (.bl (decide (xs = ys))) H) : rEqP K (.ref a) (.ref b) H Q :=
  e_eqPV (dp_ti h1) (dp_ti h2) (by simp [PyData.plain, plain_ints]) (by simp [PyData.plain, plain_ints]) (by
    show PyData.depthAll (Di xs) + 1 ≤ 60
    rw [depthAll_ints]; decide) (eqvAll_ints xs ys) q
end Vf

namespace Vf
open PySem L2 PySem.Spec PyProof.Rows He
/-! ### a dict comprehension over what is walked -/
def DcB (J : It) (g : TG) (tt : TT) (tk tv : TE) (vs : List Nat) (σ : L2.St) (D : Addr) (H1 : Hp) (Q : VK) : Prop := ∃ W : Nat → Nat → Hp → Prop, (∃ m, W 0 m (upd H1 D (.dK []))) ∧ ∀ i m H, W i m H →
  (J.stop i H ∧ Q (.ref D) H) ∨ (J.go i H ∧
    ∃ Nx : Hp → Prop, (∀ H', Nx H' → ∃ m', m' < m ∧ W (i + 1) m' H') ∧
    ∀ x H', J.yld i H x H' → g x (wipe σ vs) H' fun σ2 H2 => wipe σ2 vs = wipe σ vs ∧ tt σ2 H2 fun b H3 =>
    if b = true then tk σ2 H3 fun y H4 =>
      tv σ2 H4 fun z H5 => ∃ kvs k, y = kV k ∧ H5 D = some (.dK kvs) ∧ kvs.length < sizeLine ∧
      Nx (upd H5 D (.dK (putK kvs k z))) else Nx H3)
theorem e_dc {wi : TI} {g : TG} {tt : TT} {tk tv : TE} {vs : List Nat} {σ : L2.St} {H : Hp} {Q : VK} (q : wi σ H fun J H1 => ∀ D, H1 D = none → DcB J g tt tk tv vs σ D H1 Q) : tDc wi g tt tk tv vs σ H Q := q
theorem dc_it {J : It} {n : Nat} {G : Hp → Prop} {Y : Nat → Hp → V → Hp → Prop} (w : Walk J n G Y) {g : TG} {tt : TT} {tk tv : TE} {vs : List Nat} {σ : L2.St} {H1 : Hp} {D : Addr} {Q : VK} (Pv : Nat → Hp → Prop) (h0 : Pv 0 (upd H1 D (.dK []))) (hG : ∀ i H, i ≤ n → Pv i H → G H)
    (hs : ∀ i x H H', i < n → Pv i H → Y i H x H' → g x (wipe σ vs) H' fun σ2 H2 => wipe σ2 vs = wipe σ vs ∧ tt σ2 H2 fun b H3 =>
      if b = true then tk σ2 H3 fun y H4 => tv σ2 H4 fun z H5 => ∃ kvs k, y = kV k ∧ H5 D = some (.dK kvs) ∧ kvs.length < sizeLine ∧ Pv (i + 1) (upd H5 D (.dK (putK kvs k z))) else Pv (i + 1) H3)
    (hd : ∀ H, Pv n H → Q (.ref D) H) : DcB J g tt tk tv vs σ D H1 Q := by
  refine ⟨fun i m H => m = n - i ∧ i ≤ n ∧ Pv i H, ⟨n, by simp, Nat.zero_le _, h0⟩, ?_⟩
  rintro i m H ⟨rfl, hi, p⟩
  by_cases lt : i < n
  · exact .inr ⟨w.goes i H lt (hG i H hi p), Pv (i + 1), fun H' p' => ⟨n - (i + 1), by omega, rfl, lt, p'⟩, fun x H' y => hs i x H H' lt p (w.yields i H x H' lt (hG i H hi p) y)⟩
  · have e : i = n := by omega
    subst e
    exact .inl ⟨w.stops H (hG i H hi p), hd H p⟩
theorem tupOK (K : PySem.W.Frag) {X : Cx} (hK : X.K = K := by rfl) : CallR X (.type "tuple") (fun xs H Q => ∃ p ys, xs = [.ref p] ∧ ((SqL K H p ys ∧ ∀ l, H l = none → Q (.ref l) (upd H l (.tup ys))) ∨ (SqT K H p ys ∧ Q (.ref p) H))) := hK ▸ call_tuple_of
/-! ### dicts that differ in nothing -/
def rNeDD (K : PySem.W.Frag) : R2 := fun x y H Q => ∃ a b ks ls, x = .ref a ∧ y = .ref b ∧ H a = some (.dK ks) ∧ H b = some (.dK ls) ∧ ks.length = ls.length ∧
  (∀ p ∈ ks, ∃ u d, valV ls p.1 = some u ∧ Dp K H p.2 d ∧ Dp K H u d ∧ PySem.W.alike d d = true ∧ d.depth ≤ 60 ∧ PyData.eqv d d = true) ∧ Q (.bl false) H
theorem hits_data {X : Cx} {pins : List (Addr × Obj)} {σ : L2.St} {H : Hp} {s : Shared} (I : Inv X pins σ H s) {A : Around} (hu : A.units + 60 < cLine) {ls : List (L2.Key × V)} {vb : List (L2.Key × Value)} (rb : KV ls vb) {ks : List (L2.Key × V)} {va : List (L2.Key × Value)} (ra : KV ks va) :
    (∀ p ∈ ks, ∃ u d, valV ls p.1 = some u ∧ Dp X.K H p.2 d ∧ Dp X.K H u d ∧ PySem.W.alike d d = true ∧ d.depth ≤ 60 ∧ PyData.eqv d d = true) → PySem.W.KeqHits A s vb va true := by
  unfold KV at ra
  induction ra with
  | nil => intro _; exact .nil
  | @cons p q ps qs h t ih =>
    intro hp
    obtain ⟨h1, h2⟩ := h
    obtain ⟨u, d, e, d1, d2, al, dp, ev⟩ := hp p (List.mem_cons_self ..)
    have rr : RelO (some u) (valueAt vb p.1) := by rw [← e]; exact rb.val p.1
    obtain ⟨y, hy, ry⟩ := rr.some_of
    obtain ⟨key, v⟩ := q
    have h1' : p.1 = key := h1
    rw [h1'] at hy
    obtain ⟨as1, r1⟩ := Dp.reads I d p.2 v d1 h2
    obtain ⟨as2, r2⟩ := Dp.reads I d u y d2 ry
    have eq := PySem.W.eqAt_alike d d A s v y as1 as2 r1 r2 al (by have := Nat.min_le_left d.depth d.depth; omega)
    rw [ev] at eq
    have z := PySem.W.KeqHits.hit hy eq (ih fun p' hm => hp p' (List.mem_cons_of_mem _ hm))
    exact z
theorem op_neDD {X : Cx} (hu : X.A.units + 64 < cLine) : OpR X (compareOp .NotEq) (rNeDD X.K) := by
  intro pins s σ H x y v u Q I rx ry h
  obtain ⟨a, b, ks, ls, rfl, rfl, ea, eb, hlen, hp, q⟩ := h
  obtain rfl : v = Value.ref a := rx
  obtain rfl : u = Value.ref b := ry
  obtain ⟨_, ya, va, ra, da⟩ := (show ObjOk X.prog X.w H s.heap a (.dK ks) from I.hok a _ ea)
  obtain ⟨_, yb, vb, rb, db⟩ := (show ObjOk X.prog X.w H s.heap b (.dK ls) from I.hok b _ eb)
  have hl : va.length = vb.length := by rw [← ra.length, ← rb.length]; exact hlen
  refine PySem.W.keq_ne (knd := mixKind X.prog X.w) (r := true) ya yb da db (by omega) (fun _ => hits_data I (by show X.A.units + 1 + 60 < cLine; omega) rb ra hp) ?_
  rw [show (va.length == vb.length && true) = true from by rw [hl]; simp]
  exact ⟨.bl false, H, I, rfl, q⟩
end Vf

/-! set(xs), xs a list of ints: as HandS.SetFor has it for a tuple; sorted of it by cr_sortedSet. -/
namespace Vf
open PySem L2 PySem.Spec PyProof.Rows He
section
variable {P : Program} {w : World} {A : Around} {E : Value → Shared → Prop} {s : Shared}
/-- the new set as it is made -/
abbrev emptyS (w : World) : Obj := { cls := .type "set", dict := none, data := .set #[] 0 (.fresh 0 0 (!w.params.followText "set-order")) }
theorem set_of_ints {l : Addr} {its : Array Value} (ns : List Int) {Q : Value → Shared → Prop}
    (h0 : A.handled = none) (isl : s.heap.IsList l its) (hin : IntsAre its.toList ns)
    (small : ns.length + 1 < scanBound)
    (q : ∀ (g : Heap) (tk n : Nat), SetR w g s.heap.objs.size (fun j => decide (j ∈ ns)) n → n ≤ ns.length →
      (∀ b o, s.heap.get? b = some o → g.get? b = some o) →
      Q (.ref s.heap.objs.size) { s with heap := g, toks := tk }) :
    wpAny (model P w) A (call (.type "set") [.ref l]) Q E s := by
  have size : its.size = ns.length := by
    rw [← IntsAre.length hin]; exact Array.length_toList.symm
  obtain ⟨_, _, mro⟩ := F.called_set.mro
  have made := F.called_set.made; have sub := F.called_set.sub
  have e1 := F.called_set.notType; have e2 := F.called_set.canCreate
  have e3 := F.typeCall_set_1 (.ref l)
  refine wpAny_call (codeAny_of_tree ?_)
  show wpAny _ _ (callAny (.type "set") _) _ _ _
  refine wpAny_pure ⟨Code.quiet_builtin _ (by decide +kernel),
    codeAny_builtin F.entry_type_call ?_⟩
  rw [Around.under_plain (weight_type_call_type "set" [.ref l] []) rfl]
  repeat (any_goals (first | assumption | wp_step))

  refine codeAny_mono (code_set_led1 (.ref l) (E := E)
    (Q₁ := fun r t => r = .ref s.heap.objs.size ∧ t = { s with heap := s.heap.push (emptyS w) })
    ⟨rfl, rfl⟩) fun r t hr => ?_
  rcases r with e | fl
  · exact hr
  cases fl with
  | ret obj =>
    obtain ⟨rfl, rfl⟩ := hr
    have at1 : (s.heap.push (emptyS w)).get? s.heap.objs.size = some (emptyS w) := Heap.get?_push_size _ rfl
    have ty1 : Shared.TypeIs { s with heap := s.heap.push (emptyS w) } (.ref s.heap.objs.size) "set" := ⟨_, at1, rfl⟩
    have look := F.called_set.init.lookup
    have bind := F.called_set.init.bind (.ref s.heap.objs.size)
    repeat (any_goals (first | assumption | wp_step))

    refine codeAny_mono (codeAny_call_builtin
      (R := wants (fun r t => r = .none ∧ ∃ g tk n, t = { s with heap := g, toks := tk } ∧
        SetR w g s.heap.objs.size (fun j => decide (j ∈ ns)) n ∧ n ≤ ns.length ∧
        (∀ b o, s.heap.get? b = some o → g.get? b = some o)) E)
      F.called_set.init.plain F.entry_set_init (check_set_init_1 ty1 ?_)) fun r2 t2 hr2 => ?_
    · have isl1 : (s.heap.push (emptyS w)).IsList l its := isl.push _
      have d1 := F.sub_list_set
      have d2 := F.sub_list_frozenset
      have nd : (Value.type "list" == Value.type "dict") = false := by decide
      obtain ⟨ol, hol, hcl, nl, hdl⟩ := id isl
      obtain ⟨oc, od, odt, osl⟩ := ol
      simp only at hcl hdl
      subst hcl; subst hdl
      have hol1 := Heap.get?_push_of_some (emptyS w) hol
      unfold Builtin.«set.__init__» noKeywords Builtin.Frozenset.updateFrom
      generalize hPI : pyIter = PI
      wp_walk
      subst hPI

      refine wpAny_pyIter_list isl1 ?_
      refine wpAny_bind (wpAny_runValue ?_)
      have lt : l < s.heap.objs.size := Heap.lt_size hol
      have h3 : A.in1.in1.in1.handled = none := by simp [h0]
      have sz : (s.heap.push (emptyS w)).objs.size = s.heap.objs.size + 1 := Heap.size_push ..
      have n1 : l ≠ (s.heap.push (emptyS w)).objs.size := by rw [sz]; exact Nat.ne_of_lt (Nat.lt_succ_of_lt lt)
      have n2 : s.heap.objs.size ∉ [(s.heap.push (emptyS w)).objs.size, l] := by
        rw [sz]
        intro m
        rcases List.mem_cons.mp m with z | z
        · exact Nat.succ_ne_self _ z.symm
        · exact Nat.ne_of_gt lt (List.mem_singleton.mp z)
      have val : ∀ (i : Nat) (v : Value), its[i]? = some v → ∃ k t, ns[i]? = some k ∧ v = .int k t := fun i v hv => by
        have hi : i < ns.length := by rw [← size]; exact (Array.getElem?_eq_some_iff.mp hv).1
        obtain ⟨t, e⟩ := IntsAre.int_at hin i v (by rw [Array.getElem?_toList]; exact hv)
        rw [List.getD_eq_getElem?_getD, List.getElem?_eq_getElem hi] at e
        exact ⟨ns[i], t, List.getElem?_eq_getElem hi, e⟩
      refine set_update_ints ((Walks.list h3 _ l n1 its).toS) s.heap.objs.size n2 ns size small val
        (its.size - 0) 0 _ (by omega) (Nat.zero_le _)
        ⟨⟨_, Heap.get?_push_size _ rfl, rfl, rfl⟩, isl1.push _⟩
        ⟨0, Nat.le_refl 0, setR_new_at (Heap.get?_push_of_some _ at1)⟩ fun t' n mv le R => ?_
      obtain ⟨g, g2, dr, tk, os⟩ := t'
      have eg : g2 = s.gens := mv.gens
      have ed : dr = s.drawn := mv.drawn
      have eo : os = s.os := mv.os
      subst eg ed eo
      rw [size] at le
      show wpAny _ _ _ _ _ _
      refine wpAny_pure ?_
      show wpAny _ _ (ret Value.none) _ _ _
      refine wpAny_pure ⟨rfl, g, tk, n, rfl, R, le, fun b o e => ?_⟩
      have lb : b < s.heap.objs.size := Heap.lt_size e
      refine mv.heap b o (fun m => ?_) (Heap.get?_push_of_some _ (Heap.get?_push_of_some _ e))
      rcases List.mem_cons.mp m with z | z
      · exact Nat.ne_of_lt lb z
      · have := List.mem_singleton.mp z
        rw [sz] at this
        exact Nat.ne_of_lt (Nat.lt_succ_of_lt lb) this
    · rcases r2 with e | fl2
      · exact hr2
      cases fl2 with
      | ret r =>
        obtain ⟨rfl, g, tk, n, rfl, h1, h2, h3⟩ := hr2
        repeat (any_goals (first | assumption | wp_step))
        exact q _ _ _ h1 h2 h3
      | _ => exact hr2.elim
  | _ => exact hr.elim
end
/-- set(xs), xs a list of ints -/
def rSetL (K : PySem.W.Frag) (w : World) : List V → Hp → VK → Prop := fun xs H Q => ∃ (p : Addr) (ns : List Int), xs = [.ref p] ∧ SqL K H p (ns.map V.int) ∧ ns.length ≤ 1000 ∧
  ∀ a n, H a = none → n ≤ ns.length → Q (.ref a) (upd H a (SetO w a (fun j => decide (j ∈ ns)) n))
theorem cr_setL {X : Cx} (hc : X.calm = true) : CallR X (.type "set") (rSetL X.K X.w) := by
  intro pins s σ H xs us Q I r h
  obtain ⟨p, ns, rfl, hq, hl, q⟩ := h
  obtain ⟨u, rfl, rx⟩ := vals1 r
  cases rx
  obtain ⟨its, rv, pl, hz⟩ := I.list hq
  refine set_of_ints ns (I.ok.hd hc) pl.isList (by simpa using ints_of_vals rv) (by unfold scanBound; omega) fun g tk n R le k => ?_
  exact ⟨.ref s.heap.objs.size, _, I.laid (t' := tk) k (Nat.le_refl _) (setO_new R), rfl, q _ n (I.hok.fresh (Nat.le_refl _)) le⟩
end Vf
namespace Vf
open PySem L2 PySem.Spec PyProof.Rows He
theorem niDK (K : PySem.W.Frag) {X : Cx} (hu : X.A.units + 65 < cLine) (hK : X.K = K := by rfl) : OpR X (compareOp .NotIn) (rNotInD K) := hK ▸ op_notInD hu
/-! ### [e for x in xs for y in f(x)] -/
/-- the inner clause's turns, Nx where it ends -/
def Inn (J1 : It) (g1 : TG) (tt1 : TT) (te : TE) (vs1 : List Nat) (σ2 : L2.St) (D : Addr) (H4 : Hp) (Nx : Hp → Prop) : Prop :=
  ∃ W1 : Nat → Nat → Hp → Prop, (∃ m, W1 0 m H4) ∧ ∀ j k H, W1 j k H → (J1.stop j H ∧ Nx H) ∨ (J1.go j H ∧
    ∃ Nx1 : Hp → Prop, (∀ H', Nx1 H' → ∃ k', k' < k ∧ W1 (j + 1) k' H') ∧
    ∀ x H', J1.yld j H x H' → g1 x (wipe σ2 vs1) H' fun σ3 H5 => wipe σ3 vs1 = wipe σ2 vs1 ∧ tt1 σ3 H5 fun b H6 =>
      if b = true then te σ3 H6 fun y H7 => ∃ acc, H7 D = some (.lst acc) ∧ acc.length < sizeLine ∧ Nx1 (upd H7 D (.lst (acc ++ [y])))
      else Nx1 H6)
def Lc2B (J : It) (g : TG) (tt : TT) (wi1 : TI) (g1 : TG) (tt1 : TT) (te : TE) (vs vs1 : List Nat) (σ : L2.St) (D : Addr) (H1 : Hp) (Q : VK) : Prop :=
  ∃ W : Nat → Nat → Hp → Prop, (∃ m, W 0 m (upd H1 D (.lst []))) ∧ ∀ i m H, W i m H → (J.stop i H ∧ Q (.ref D) H) ∨ (J.go i H ∧
    ∃ Nx : Hp → Prop, (∀ H', Nx H' → ∃ m', m' < m ∧ W (i + 1) m' H') ∧
    ∀ x H', J.yld i H x H' → g x (wipe σ vs) H' fun σ2 H2 => wipe σ2 vs = wipe σ vs ∧ tt σ2 H2 fun b H3 =>
      if b = true then wi1 σ2 H3 fun J1 H4 => Inn J1 g1 tt1 te vs1 σ2 D H4 Nx else Nx H3)
theorem e_lc2 {wi wi1 : TI} {g g1 : TG} {tt tt1 : TT} {te : TE} {vs vs1 : List Nat} {σ : L2.St} {H : Hp} {Q : VK}
    (q : wi σ H fun J H1 => ∀ D, H1 D = none → Lc2B J g tt wi1 g1 tt1 te vs vs1 σ D H1 Q) : tLc2 wi g tt wi1 g1 tt1 te vs vs1 σ H Q := q
theorem inn_it {J : It} {n : Nat} {G : Hp → Prop} {Y : Nat → Hp → V → Hp → Prop} (w : Walk J n G Y) {g : TG} {tt : TT} {te : TE} {vs : List Nat} {σ : L2.St} {D : Addr} {H1 : Hp} {Nx : Hp → Prop}
    (Pv : Nat → Hp → Prop) (h0 : Pv 0 H1) (hG : ∀ i H, i ≤ n → Pv i H → G H)
    (hs : ∀ i x H H', i < n → Pv i H → Y i H x H' → g x (wipe σ vs) H' fun σ2 H2 => wipe σ2 vs = wipe σ vs ∧ tt σ2 H2 fun b H3 =>
      if b = true then te σ2 H3 fun y H4 => ∃ acc, H4 D = some (.lst acc) ∧ acc.length < sizeLine ∧ Pv (i + 1) (upd H4 D (.lst (acc ++ [y]))) else Pv (i + 1) H3)
    (hd : ∀ H, Pv n H → Nx H) : Inn J g tt te vs σ D H1 Nx := by
  refine ⟨fun i m H => m = n - i ∧ i ≤ n ∧ Pv i H, ⟨n, by simp, Nat.zero_le _, h0⟩, ?_⟩
  rintro i m H ⟨rfl, hi, p⟩
  by_cases lt : i < n
  · exact .inr ⟨w.goes i H lt (hG i H hi p), Pv (i + 1), fun H' p' => ⟨n - (i + 1), by omega, rfl, lt, p'⟩, fun x H' y => hs i x H H' lt p (w.yields i H x H' lt (hG i H hi p) y)⟩
  · have e : i = n := by omega
    subst e
    exact .inl ⟨w.stops H (hG i H hi p), hd H p⟩
theorem lc2_it {J : It} {n : Nat} {G : Hp → Prop} {Y : Nat → Hp → V → Hp → Prop} (w : Walk J n G Y) {g g1 : TG} {tt tt1 : TT} {te : TE} {wi1 : TI} {vs vs1 : List Nat} {σ : L2.St} {D : Addr} {H1 : Hp} {Q : VK}
    (Pv : Nat → Hp → Prop) (h0 : Pv 0 (upd H1 D (.lst []))) (hG : ∀ i H, i ≤ n → Pv i H → G H)
    (hs : ∀ i x H H', i < n → Pv i H → Y i H x H' → g x (wipe σ vs) H' fun σ2 H2 => wipe σ2 vs = wipe σ vs ∧ tt σ2 H2 fun b H3 =>
      if b = true then wi1 σ2 H3 fun J1 H4 => Inn J1 g1 tt1 te vs1 σ2 D H4 (Pv (i + 1)) else Pv (i + 1) H3)
    (hd : ∀ H, Pv n H → Q (.ref D) H) : Lc2B J g tt wi1 g1 tt1 te vs vs1 σ D H1 Q := by
  refine ⟨fun i m H => m = n - i ∧ i ≤ n ∧ Pv i H, ⟨n, by simp, Nat.zero_le _, h0⟩, ?_⟩
  rintro i m H ⟨rfl, hi, p⟩
  by_cases lt : i < n
  · exact .inr ⟨w.goes i H lt (hG i H hi p), Pv (i + 1), fun H' p' => ⟨n - (i + 1), by omega, rfl, lt, p'⟩, fun x H' y => hs i x H H' lt p (w.yields i H x H' lt (hG i H hi p) y)⟩
  · have e : i = n := by omega
    subst e
    exact .inl ⟨w.stops H (hG i H hi p), hd H p⟩
end Vf

/-! set(xs), xs a list of texts, and sorted of it; xs.remove(x) where the items are data. -/
namespace Vf
open PySem L2 PySem.Spec PyProof.Rows He
abbrev tk_ (P : Program) (w : World) := PySem.strKind P w
def txOf (e : Int × Value) : Str := match e.2 with | .str x _ => x | _ => Str.empty
def TxE (w : World) (e : Int × Value) : Prop := ∃ x u, e.2 = Value.str x u ∧ e.1 = hashStr w x
/-- the set at a has the texts L -/
def TxS (w : World) (h : Heap) (a : Addr) (L : List Str) : Prop :=
  ∃ ob arr ep tb, h.get? a = some ob ∧ ob.ExactSet ∧ ob.data = .set arr ep tb ∧ (∀ e ∈ arr.toList, TxE w e)
    ∧ (arr.toList.map txOf).Perm L ∧ L.Nodup ∧ L.length < scanBound ∧ tb.fits arr.size = true
    ∧ Ris tb.place.toList ∧ (w.params.followText "set-order" = true ∨ tb.led = true)
theorem TxS.to {w : World} {h g : Heap} {a : Addr} {L : List Str} (t : TxS w h a L) (k : ∀ o, h.get? a = some o → g.get? a = some o) : TxS w g a L := by
  obtain ⟨ob, arr, ep, tb, h1, r⟩ := t
  exact ⟨ob, arr, ep, tb, k _ h1, r⟩
section
variable {P : Program} {w : World} {A : Around} {E : Value → Shared → Prop} {s : Shared}
theorem tx_kinds {l : List (Int × Value)} (g : ∀ e ∈ l, TxE w e) : ElemsOf (tk_ P w) l := fun e m => by
  obtain ⟨x, u, e1, e2⟩ := g e m
  exact ⟨⟨x, by rw [e1]; exact PySem.strKind_is P w x u, e2⟩, by rw [e1]; rfl⟩
theorem tx_is {e : Int × Value} (g : TxE w e) (x : Str) : (tk_ P w).is x e.2 = true ↔ txOf e = x := by
  obtain ⟨y, u, e1, _⟩ := g
  have h1 : txOf e = y := by unfold txOf; rw [e1]
  rw [h1, e1]
  constructor
  · intro q
    exact (tk_ P w).inj _ _ _ (PySem.strKind_is P w y u) q
  · rintro rfl
    exact PySem.strKind_is P w y u
theorem tx_size {arr : Array (Int × Value)} {L : List Str} (p : (arr.toList.map txOf).Perm L) : arr.size = L.length := by
  have := p.length_eq
  rw [List.length_map] at this
  rw [← this]
  exact Array.length_toList.symm
/-- where the new one is stored -/
theorem tx_store {gv : Bool → Sem Unit} (hgv : ∀ (b : Bool) (s1 : Shared) (R : Unit → Shared → Prop), R () s1 → wpAny (model P w) A (gv b) R E s1)
    {a : Addr} {ob : Obj} {arr : Array (Int × Value)} {ep : Nat} {tb : SetTable}
    (e0 : s.heap.get? a = some ob) (ex : ob.ExactSet) (ed : ob.data = .set arr ep tb)
    {arr1 : Array (Int × Value)} {tb1 : SetTable} {L : List Str}
    (g1 : ∀ e ∈ arr1.toList, TxE w e) (p1 : (arr1.toList.map txOf).Perm L) (n1 : L.Nodup) (b1 : L.length < scanBound)
    (f1 : tb1.fits arr1.size = true) (r1 : Ris tb1.place.toList) (l1 : w.params.followText "set-order" = true ∨ tb1.led = true)
    {dm : Bool} {R : Option Bool → Shared → Prop}
    (q : ∀ g, Heap.SameBut a s.heap g → TxS w g a L → R (some true) { s with heap := g }) :
    wpAny (model P w) A (do
      storeSet a arr1 tb1
      if (!dm && tb1.tooFull) = true then do
        gv (relayAll tb1 arr1 (SetTable.grown arr1.size)).2.2
        storeSet a (relayAll tb1 arr1 (SetTable.grown arr1.size)).1 (relayAll tb1 arr1 (SetTable.grown arr1.size)).2.1
        pure (some true)
      else pure (some true)) R E s := by
  have bs : arr1.size < scanBound := by rw [tx_size p1]; exact b1
  refine wpAny_bind (wpAny_storeSet_of e0 ed ?_ (fits_of_scanBound bs))
  have e1 := store_at (es' := arr1) (t' := tb1) e0 ed
  have sb := Heap.SameBut.update s.heap a (Obj.putSet arr1 tb1)
  by_cases c : (!dm && tb1.tooFull) = true
  · rw [if_pos c]
    have pm := relayAll_perm tb1 arr1 (SetTable.grown arr1.size)
    have pf := relayAll_fits tb1 arr1 (SetTable.grown arr1.size)
    have pr := relayAll_ris tb1 arr1 (SetTable.grown arr1.size)
    have pl := relayAll_led tb1 arr1 (SetTable.grown arr1.size)
    revert pm pf pr pl
    generalize relayAll tb1 arr1 (SetTable.grown arr1.size) = rel
    obtain ⟨arr2, tb2, gave⟩ := rel
    intro pm pf pr pl
    dsimp only at pm pf pr pl ⊢
    have p2 : (arr2.toList.map txOf).Perm L := (pm.map txOf).trans p1
    have bs2 : arr2.size < scanBound := by rw [tx_size p2]; exact b1
    refine wpAny_bind (hgv _ _ _ ?_)
    refine wpAny_bind (wpAny_storeSet_of e1 rfl ?_ (fits_of_scanBound bs2))
    have e2 := store_at (es' := arr2) (t' := tb2) e1 rfl
    refine wpAny_pure (q _ (sb.trans (Heap.SameBut.update _ a _)) ?_)
    refine ⟨_, arr2, _, tb2, e2, ex, rfl, fun e m => g1 e (pm.mem_iff.mp m), p2, n1, b1, pf, pr, ?_⟩
    exact l1.imp id fun z => pl.trans z
  · rw [if_neg c]
    exact wpAny_pure (q _ sb ⟨_, arr1, _, tb1, e1, ex, rfl, g1, p1, n1, b1, f1, r1, l1⟩)
/-- one text more -/
theorem tx_add {a : Addr} {L : List Str} {x : Str} {u : Tok} {Q : Bool → Shared → Prop} (t : TxS w s.heap a L) (room : L.length + 1 < scanBound)
    (q1 : x ∈ L → Q false s) (q2 : x ∉ L → ∀ g, Heap.SameBut a s.heap g → TxS w g a (x :: L) → Q true { s with heap := g }) :
    wpAny (model P w) A (setAddHashed a (.str x u) ((tk_ P w).hash x)) Q E s := by
  obtain ⟨ob, arr, ep, tb, e0, ex, ed, g, p, n, b, f, r, l⟩ := t
  have hx : (tk_ P w).is x (.str x u) = true := PySem.strKind_is P w x u
  have hs : (Value.str x u).scannable = true := rfl
  have bs : arr.size < scanBound := by rw [tx_size p]; exact b
  have el : ElemsOf (tk_ P w) arr.toList := tx_kinds g
  have mem : x ∈ L ↔ ∃ e ∈ arr.toList, (tk_ P w).is x e.2 = true := by
    rw [← p.mem_iff, List.mem_map]
    exact ⟨fun ⟨e, m, h⟩ => ⟨e, m, (tx_is (g e m) x).2 h⟩, fun ⟨e, m, h⟩ => ⟨e, m, (tx_is (g e m) x).1 h⟩⟩
  unfold setAddHashed setAddHashedIn
  refine wpAny_holding (wpAny_bind (wpAny_setState_of e0 ed f ?_))
  dsimp only
  rw [byScan_of hs bs el]
  simp only [↓reduceIte]
  unfold setAddByScan
  refine wpAny_bind ?_
  refine wpAny_bind (wpAny_rule ?_)
  refine wpAny_bind (wpAny_setScan_of hx e0 ed f el ?_)
  cases fi : List.findIdx? (fun e => (tk_ P w).is x e.2) arr.toList with
  | some j =>
    dsimp only
    obtain ⟨hj, pj, _⟩ := List.findIdx?_eq_some_iff_getElem.mp fi
    exact wpAny_pure (wpAny_pure (q1 (mem.2 ⟨_, List.getElem_mem hj, pj⟩)))
  | none =>
    dsimp only
    have nx : x ∉ L := fun m => by
      obtain ⟨e, m2, h⟩ := mem.1 m
      have z := List.findIdx?_eq_none_iff.mp fi e m2
      rw [h] at z
      cases z
    have gw : ∀ (c : Bool) {s1 : Shared} {R : Unit → Shared → Prop}, R () s1 → wpAny (model P w) A (match c with | true => rule "set.scan.the-table-gave-way" | false => pure ()) R E s1 := fun c s1 R h => by
      cases c
      · exact wpAny_pure h
      · exact wpAny_rule h
    have pm := layNew_perm tb arr ((tk_ P w).hash x) (.str x u)
    have pf := layNew_fits tb arr ((tk_ P w).hash x) (.str x u)
    have pr := layNew_ris tb arr ((tk_ P w).hash x) (.str x u) r
    have pl := layNew_led tb arr ((tk_ P w).hash x) (.str x u)
    revert pm pf pr pl
    generalize layNew tb arr ((tk_ P w).hash x) (.str x u) = new
    obtain ⟨arr1, tb1, dm, gave⟩ := new
    intro pm pf pr pl
    dsimp only at pm pf pr pl ⊢
    rw [Array.toList_push] at pm
    have pc : arr1.toList.Perm (((tk_ P w).hash x, Value.str x u) :: arr.toList) := pm.trans (List.perm_append_singleton _ _)
    have p1 : (arr1.toList.map txOf).Perm (x :: L) := (pc.map txOf).trans (p.cons x)
    have g1 : ∀ e ∈ arr1.toList, TxE w e := fun e m => by
      rcases List.mem_cons.mp (pc.mem_iff.mp m) with z | z
      · exact ⟨x, u, by rw [z], by rw [z]; rfl⟩
      · exact g e z
    have n1 : (x :: L).Nodup := List.nodup_cons.mpr ⟨nx, n⟩
    have b1 : (x :: L).length < scanBound := room
    have l1 : w.params.followText "set-order" = true ∨ tb1.led = true := l.imp id fun z => pl.trans z
    have fin := fun g' sb r' => q2 nx g' sb r'
    refine wpAny_bind (gw _ ?_)
    split
    · refine wpAny_bind ?_
      rw [hashByValue_scannable 8 hs]
      refine wpAny_pure ?_
      refine tx_store ?_ e0 ex ed g1 p1 n1 b1 ?_ ?_ ?_ ?_
      · intro c s1 R h; exact gw c h
      · first | (split <;> first | exact pf | exact SetTable.fits_plain_off pf) | exact pf
      · first | (split <;> exact pr) | exact pr
      · first | (split <;> exact l1) | exact l1
      · intro g' sb r'; dsimp only; exact wpAny_pure (fin g' sb r')
    · refine wpAny_bind (wpAny_pure ?_)
      simp only [↓reduceIte]
      refine tx_store ?_ e0 ex ed g1 p1 n1 b1 pf pr l1 ?_
      · intro c s1 R h; exact gw c h
      · intro g' sb r'; dsimp only; exact wpAny_pure (fin g' sb r')
/-- the set takes all of a list -/
theorem tx_loop {I : Addr} {fp wr : List Addr} {G : Array GenState → Array GenState → Prop} {n : Nat} {Pv : Nat → Value → Prop} {St : Nat → Shared → Prop} {R : Result → Shared → Prop}
    (W : WalksS P w A.in1 I fp wr G n Pv St) (a : Addr) (na : a ∉ fp) (xs : List Str) (hn : n = xs.length) (room : xs.length + 1 < scanBound)
    (pv : ∀ i v, Pv i v → ∃ x u, xs[i]? = some x ∧ v = .str x u) :
    ∀ (k i : Nat) (s : Shared), n = i + k → St i s →
      (∃ L, L.length ≤ i ∧ (∀ x, x ∈ L ↔ x ∈ xs.take i) ∧ TxS w s.heap a L) →
      (∀ s' L, Moved (a :: wr) G s s' → L.length ≤ n → (∀ x, x ∈ L ↔ x ∈ xs) → TxS w s'.heap a L → R (.ok (.ret .none)) s') →
      codeAny (model P w) A (.builtin "set.update.loop" ⟨[.ref a, .ref I], []⟩) R s := by
  have nw : a ∉ wr := fun z => na (W.sub _ z)
  have sub : ∀ b ∈ wr, b ∈ a :: wr := fun b m => List.mem_cons_of_mem _ m
  intro k
  induction k with
  | zero =>
    rintro i s hk st ⟨L, l1, l2, t⟩ q
    have e : n = i := by omega
    subst e
    refine codeAny_builtin F.entry_set_update_loop ?_
    rw [Around.under_plainId F.plain_set_update_loop _]
    show wpAny _ A.in1 (pyNext (.ref I) >>= _) _ _ s
    refine wpAny_bind (W.done s _ _ st fun s' m => ?_)
    show wpAny _ A.in1 (ret Value.none) _ _ s'
    refine wpAny_pure (q s' L (m.mono sub) l1 (fun x => ?_) (t.to fun o h => m.heap a o nw h))
    rw [l2, List.take_of_length_le (by omega)]
  | succ k ih =>
    rintro i s hk st ⟨L, l1, l2, t⟩ q
    have lt : i < n := by omega
    refine codeAny_builtin F.entry_set_update_loop ?_
    rw [Around.under_plainId F.plain_set_update_loop _]
    show wpAny _ A.in1 (pyNext (.ref I) >>= _) _ _ s
    refine wpAny_bind (W.item i s _ _ lt st fun v s' hp st' m => ?_)
    obtain ⟨x, u, hx, rfl⟩ := pv i v hp
    have t' := t.to (g := s'.heap) fun o h => m.heap a o nw h
    have l3 : ∀ z, z ∈ xs.take (i + 1) ↔ z ∈ xs.take i ∨ z = x := fun z => by
      rw [List.take_add_one, hx, List.mem_append]
      exact or_congr Iff.rfl (by simp)
    have next : ∀ (g : Heap) (M : List Str), (∀ b o, b ≠ a → s'.heap.get? b = some o → g.get? b = some o) → M.length ≤ i + 1 → (∀ z, z ∈ M ↔ z ∈ xs.take (i + 1)) → TxS w g a M →
        codeAny (model P w) A (.builtin "set.update.loop" ⟨[.ref a, .ref I], []⟩) R { s' with heap := g, toks := s'.toks + 1 } := fun g M k1 lm lz tm => by
      refine ih (i + 1) _ (by omega) (W.frame _ s' _ _ st' (Nat.le_succ _) fun b mb o e => ?_) ⟨M, lm, lz, tm⟩ fun s2 L2 m2 c1 c2 c3 => ?_
      · exact k1 b o (fun z => na (z ▸ mb)) e
      · refine q s2 L2 (Moved.trans W.gtrans ((m.mono sub).then_heap (Nat.le_succ _) fun b o nb e => ?_) m2) c1 c2 c3
        exact k1 b o (fun z => nb (by rw [z]; exact List.mem_cons_self)) e
    show wpAny _ A.in1 (holding [Value.str x u] (setAdd a (.str x u)) >>= _) _ _ s'
    refine wpAny_bind (wpAny_holding ?_)
    unfold setAdd
    refine wpAny_holding ?_
    refine wpAny_bind ((tk_ P w).pyHash (k := x) (PySem.strKind_is P w x u) ?_)
    refine tx_add (s := { s' with toks := s'.toks + 1 }) t' (by omega) (fun mx => ?_) fun nx g sb tn => ?_
    · refine wpAny_pure ⟨plainId_quiet F.plain_set_update_loop _, next s'.heap L (fun b o _ e => e) (by omega) (fun z => ?_) t'⟩
      rw [l3, ← l2 z]
      exact ⟨.inl, fun h => h.elim id fun e => e ▸ mx⟩
    · refine wpAny_pure ⟨plainId_quiet F.plain_set_update_loop _, next g (x :: L) (fun b o nb e => by rw [sb.2 b nb]; exact e) (by rw [List.length_cons]; omega) (fun z => ?_) tn⟩
      rw [l3, ← l2 z, List.mem_cons]
      exact Or.comm
theorem strs_get : ∀ {us : List Value} {xs : List Str}, StrsAre us xs → ∀ (i : Nat) (v : Value), us[i]? = some v → ∃ x u, xs[i]? = some x ∧ v = .str x u
  | _, _, .nil, i, v, h => by simp at h
  | _, _, .cons n t r, 0, v, h => ⟨n, t, rfl, by simpa using h.symm⟩
  | _, _, .cons n t r, i + 1, v, h => strs_get r i v (by simpa using h)
/-- set(xs) -/
theorem tx_of {l : Addr} {its : Array Value} (xs : List Str) {Q : Value → Shared → Prop}
    (h0 : A.handled = none) (isl : s.heap.IsList l its) (hin : StrsAre its.toList xs) (small : xs.length + 1 < scanBound)
    (q : ∀ (g : Heap) (tk : Nat) (L : List Str), TxS w g s.heap.objs.size L → L.length ≤ xs.length → (∀ x, x ∈ L ↔ x ∈ xs) →
      (∀ b o, s.heap.get? b = some o → g.get? b = some o) → Q (.ref s.heap.objs.size) { s with heap := g, toks := tk }) :
    wpAny (model P w) A (call (.type "set") [.ref l]) Q E s := by
  have size : its.size = xs.length := by rw [← StrsAre.len_eq hin]; exact Array.length_toList.symm
  obtain ⟨_, _, mro⟩ := F.called_set.mro
  have made := F.called_set.made; have sub := F.called_set.sub
  have e1 := F.called_set.notType; have e2 := F.called_set.canCreate
  have e3 := F.typeCall_set_1 (.ref l)
  refine wpAny_call (codeAny_of_tree ?_)
  show wpAny _ _ (callAny (.type "set") _) _ _ _
  refine wpAny_pure ⟨Code.quiet_builtin _ (by decide +kernel), codeAny_builtin F.entry_type_call ?_⟩
  rw [Around.under_plain (weight_type_call_type "set" [.ref l] []) rfl]
  repeat (any_goals (first | assumption | wp_step))

  refine codeAny_mono (code_set_led1 (.ref l) (E := E)
    (Q₁ := fun r t => r = .ref s.heap.objs.size ∧ t = { s with heap := s.heap.push (emptyS w) }) ⟨rfl, rfl⟩) fun r t hr => ?_
  rcases r with e | fl
  · exact hr
  cases fl with
  | ret obj =>
    obtain ⟨rfl, rfl⟩ := hr
    have at1 : (s.heap.push (emptyS w)).get? s.heap.objs.size = some (emptyS w) := Heap.get?_push_size _ rfl
    have ty1 : Shared.TypeIs { s with heap := s.heap.push (emptyS w) } (.ref s.heap.objs.size) "set" := ⟨_, at1, rfl⟩
    have look := F.called_set.init.lookup
    have bind := F.called_set.init.bind (.ref s.heap.objs.size)
    repeat (any_goals (first | assumption | wp_step))

    refine codeAny_mono (codeAny_call_builtin
      (R := wants (fun r t => r = .none ∧ ∃ g tk L, t = { s with heap := g, toks := tk } ∧ TxS w g s.heap.objs.size L ∧ L.length ≤ xs.length ∧ (∀ x, x ∈ L ↔ x ∈ xs) ∧
        (∀ b o, s.heap.get? b = some o → g.get? b = some o)) E)
      F.called_set.init.plain F.entry_set_init (check_set_init_1 ty1 ?_)) fun r2 t2 hr2 => ?_
    · have isl1 : (s.heap.push (emptyS w)).IsList l its := isl.push _
      have d1 := F.sub_list_set
      have d2 := F.sub_list_frozenset
      have nd : (Value.type "list" == Value.type "dict") = false := by decide
      obtain ⟨ol, hol, hcl, nl, hdl⟩ := id isl
      obtain ⟨oc, od, odt, osl⟩ := ol
      simp only at hcl hdl
      subst hcl; subst hdl
      have hol1 := Heap.get?_push_of_some (emptyS w) hol
      unfold Builtin.«set.__init__» noKeywords Builtin.Frozenset.updateFrom
      generalize hPI : pyIter = PI
      wp_walk
      subst hPI

      refine wpAny_pyIter_list isl1 ?_
      refine wpAny_bind (wpAny_runValue ?_)
      have lt : l < s.heap.objs.size := Heap.lt_size hol
      have h3 : A.in1.in1.in1.handled = none := by simp [h0]
      have sz : (s.heap.push (emptyS w)).objs.size = s.heap.objs.size + 1 := Heap.size_push ..
      have n1 : l ≠ (s.heap.push (emptyS w)).objs.size := by rw [sz]; exact Nat.ne_of_lt (Nat.lt_succ_of_lt lt)
      have n2 : s.heap.objs.size ∉ [(s.heap.push (emptyS w)).objs.size, l] := by
        rw [sz]
        intro m
        rcases List.mem_cons.mp m with z | z
        · exact Nat.succ_ne_self _ z.symm
        · exact Nat.ne_of_gt lt (List.mem_singleton.mp z)
      have val : ∀ (i : Nat) (v : Value), its[i]? = some v → ∃ x u, xs[i]? = some x ∧ v = .str x u := fun i v hv => by
        exact strs_get hin i v (by rw [Array.getElem?_toList]; exact hv)
      refine tx_loop ((Walks.list h3 _ l n1 its).toS) s.heap.objs.size n2 xs size small val
        its.size 0 _ (Nat.zero_add _).symm
        ⟨⟨_, Heap.get?_push_size _ rfl, rfl, rfl⟩, isl1.push _⟩
        ⟨[], Nat.le_refl 0, by simp, _, #[], 0, _, Heap.get?_push_of_some _ at1, ?_, rfl, by simp, .nil, .nil, ?_, ?_, ?_, ?_⟩ fun t' L mv le mm R => ?_
      rotate_right
      · obtain ⟨g, g2, dr, tk, os⟩ := t'
        have eg : g2 = s.gens := mv.gens
        have ed : dr = s.drawn := mv.drawn
        have eo : os = s.os := mv.os
        subst eg ed eo
        rw [size] at le
        show wpAny _ _ _ _ _ _
        refine wpAny_pure ?_
        show wpAny _ _ (ret Value.none) _ _ _
        refine wpAny_pure ⟨rfl, g, tk, L, rfl, R, le, mm, fun b o e => ?_⟩
        have lb : b < s.heap.objs.size := Heap.lt_size e
        refine mv.heap b o (fun m => ?_) (Heap.get?_push_of_some _ (Heap.get?_push_of_some _ e))
        rcases List.mem_cons.mp m with z | z
        · exact Nat.ne_of_lt lb z
        · have := List.mem_singleton.mp z
          rw [sz] at this
          exact Nat.ne_of_lt (Nat.lt_succ_of_lt lb) this
      · exact ⟨rfl, rfl, rfl⟩
      · exact (by decide : 0 < scanBound)
      · rfl
      · exact List.Pairwise.nil
      · show _ ∨ (!w.params.followText "set-order") = true
        cases w.params.followText "set-order"
        · exact .inr rfl
        · exact .inl rfl
    · rcases r2 with e | fl2
      · exact hr2
      cases fl2 with
      | ret r =>
        obtain ⟨rfl, g, tk, L, rfl, h1, h2, h3, h4⟩ := hr2
        repeat (any_goals (first | assumption | wp_step))
        exact q _ _ _ h1 h2 h3 h4
      | _ => exact hr2.elim
  | _ => exact hr.elim
/-- sorted(it) -/
theorem tx_sorted {a : Addr} {L : List Str} {Q : Value → Shared → Prop} (t : TxS w s.heap a L) (h0 : A.handled = none) (h64 : L.length < 64)
    (q : ∀ s' p (out : Array Value) (c : Nat) (ys : List Str), (∀ b o, s.heap.get? b = some o → s'.heap.get? b = some o) → s'.gens = s.gens → s'.os = s.os → s.heap.objs.size ≤ p →
      s'.heap.get? p = some (seqObj "list" out c) → StrsAre out.toList ys → ys.Perm L → PyProof.Rows.sortedS ys = true → Q (.ref p) s') :
    wpAny (model P w) A (call (.builtin "sorted") [.ref a]) Q E s := by
  obtain ⟨ob, arr, ep, tb, e0, ex, ed, g, p, n, b, f, r, l⟩ := t
  have bs : arr.size < scanBound := by rw [tx_size p]; exact b
  refine Calls.call_function_entry kind_sorted plain_sorted entry_sorted (args_sorted1 _) ?_
  unfold Builtin.«sorted»
  refine wpAny_bind (m := checkCount "sorted" 1 1 _) (wpAny_pure ?_)
  refine wpAny_bind (collect_set (A := A.in1) h0 ⟨ob, e0, ex.1, ed⟩ f bs r l fun s1 vs k1 hz g1 o1 pm => ?_)
  have vl : vs.length = L.length := by rw [pm.length_eq, List.length_map, Array.length_toList, tx_size p]
  have mk : ∀ us : List Value, (∀ v ∈ us, ∃ x u, v = Value.str x u) → StrsAre us (us.map fun v => match v with | .str x _ => x | _ => Str.empty) := fun us => by
    induction us with
    | nil => intro _; exact .nil
    | cons v us ih =>
      intro hv
      obtain ⟨x, u, rfl⟩ := hv v List.mem_cons_self
      exact .cons x u (ih fun z m => hv z (List.mem_cons_of_mem _ m))
  have hS := mk vs fun v hv => by
    obtain ⟨e, he, z⟩ := List.mem_map.mp (pm.mem_iff.mp hv)
    obtain ⟨x, u, h1, _⟩ := g e he
    exact ⟨x, u, z ▸ h1⟩
  have pk := pm.map fun v : Value => match v with | .str x _ => x | _ => Str.empty
  rw [List.map_map] at pk
  refine wpAny_bind (wpAny_newList ?_ (by rw [vl, sizeLine_eq]; omega))
  have hoL : (s1.heap.push (seqObj "list" vs.toArray 0)).get? s1.heap.objs.size = some (seqObj "list" vs.toArray 0) := Heap.get?_push_size _ rfl
  refine wpAny_bind (wpAny_holding (wpAny_call_entry slot_list_sort ⟨_, hoL, rfl⟩ entry_list_sort
    (list_sort_treeK strKind_oneLt hoL hS.keysOf (fun v₁ v₂ rest e => keyKind_strs (by rw [← e]; exact hS)) (by rw [vl]; exact h64) fun st hp hs => ⟨_, rfl, ?_⟩)
    (args_list_sort _)))
  obtain ⟨ys, y1, y2, y3⟩ := sorted_out_str hS hp hs
  obtain ⟨c, hc⟩ := sortedHeap_at (vs := vs) (out := (arrOf st).map (·.2)) hoL
  refine wpAny_pure ⟨_, rfl, q _ s1.heap.objs.size _ c ys (fun b' u e => ?_) g1 o1 hz hc y1 ((y2.trans pk).trans p) y3⟩
  have e2 := k1 b' u e
  have lt := Heap.lt_size e2
  show (sortedHeap (s1.heap.push (seqObj "list" vs.toArray 0)) s1.heap.objs.size vs _).get? b' = some u
  rw [sortedHeap_old (Nat.ne_of_lt lt) (by rw [size_push']; exact Nat.lt_succ_of_lt lt)]
  exact Heap.get?_push_of_some _ e2
end
/-- the set of texts at a -/
def TxO (w : World) (a : Addr) (L : List Str) : HO := .ext fun h => TxS w h a L
def rSetT (K : PySem.W.Frag) (w : World) : List V → Hp → VK → Prop := fun xs H Q => ∃ (p : Addr) (ns : List Str), xs = [.ref p] ∧ SqL K H p (ns.map V.str) ∧ ns.length ≤ 1000 ∧
  ∀ a L, H a = none → L.length ≤ ns.length → (∀ x, x ∈ L ↔ x ∈ ns) → Q (.ref a) (upd H a (TxO w a L))
theorem cr_setT {X : Cx} (hc : X.calm = true) : CallR X (.type "set") (rSetT X.K X.w) := by
  intro pins s σ H xs us Q I r h
  obtain ⟨p, ns, rfl, hq, hl, q⟩ := h
  obtain ⟨u, rfl, rx⟩ := vals1 r
  cases rx
  obtain ⟨its, rv, pl, hz⟩ := I.list hq
  refine tx_of ns (I.ok.hd hc) pl.isList (by simpa using Vals.strs rv) (by unfold scanBound; omega) fun g tk L R le mm k => ?_
  have ob : ObjOk X.prog X.w (upd H s.heap.objs.size (TxO X.w s.heap.objs.size L)) g s.heap.objs.size (TxO X.w s.heap.objs.size L) := by
    have ⟨o, _, _, _, ho, _⟩ := R
    exact ⟨R, ⟨o, ho⟩, fun h1 h2 p k => TxS.to p k⟩
  exact ⟨.ref s.heap.objs.size, _, I.laid (t' := tk) k (Nat.le_refl _) ob, rfl, q _ L (I.hok.fresh (Nat.le_refl _)) le mm⟩
end Vf

namespace Vf
open PySem L2 PySem.Spec PyProof.Rows He
def rSortT (w : World) : List V → Hp → VK → Prop := fun vs H Q => ∃ (a : Addr) (L : List Str), vs = [V.ref a] ∧ H a = some (TxO w a L) ∧ L.length < 64 ∧
  ∀ (ys : List Str) (p : Addr), L.Nodup → ys.Perm L → PyProof.Rows.sortedS ys = true → H p = none → Q (.ref p) (upd H p (.lst (ys.map V.str)))
theorem cr_sortedT {X : Cx} (hc : X.calm = true) : CallR X (.builtin "sorted") (rSortT X.w) := by
  intro pins s σ H vs us Q I r h
  obtain ⟨a, L, rfl, ha, h64, q⟩ := h
  have R : TxS X.w s.heap a L := (I.hok a _ ha).1
  have nd : L.Nodup := let ⟨_, _, _, _, _, _, _, _, _, n, _⟩ := R; n
  rw [Vals.ref1 r]
  refine tx_sorted R (I.ok.hd hc) h64 fun s' p out c ys k g o hp hg hi hm hs => ?_
  have len : (ys.map V.str).length ≤ sizeLine := by rw [List.length_map, hm.length_eq, sizeLine_eq]; omega
  have hn : H p = none := I.hok.fresh hp
  have J : Inv X pins σ (upd H p (.lst (ys.map V.str))) { s with heap := s'.heap, gens := s'.gens, drawn := s'.drawn, toks := s'.toks } :=
    I.call (ch := []) (Un.laid k hp hn) (I.hok.laid k hp ⟨len, out.toList, c, vals_of_strs hi, hg⟩) (by rw [g]; exact I.bare) (fun _ z => nomatch z)
  have e : s' = { s with heap := s'.heap, gens := s'.gens, drawn := s'.drawn, toks := s'.toks } := by
    obtain ⟨_, _, _, _, _⟩ := s'
    obtain ⟨_, _, _, _, _⟩ := s
    cases o
    rfl
  rw [e]
  exact ⟨.ref p, _, J, rfl, q ys p nd hm hs hn⟩
/-- xs.remove(y): the first equal one goes -/
def rRemD (K : PySem.W.Frag) : V → List V → Hp → VK → Prop := fun x vs H Q => ∃ (l : Addr) (y : V) (xs : List V) (d : PyData) (ds : List PyData) (j : Nat) (z : PyData), x = .ref l ∧ vs = [y] ∧ H l = some (.lst xs) ∧ DpAll K H xs ds ∧ Dp K H y d ∧
  SeqAt.shaped (.list ds) = true ∧ SeqAt.shaped d = true ∧ ds[j]? = some z ∧ PyData.eqv z d = true ∧ (∀ (m : Nat) (z' : PyData), m < j → ds[m]? = some z' → PyData.eqv z' d = false) ∧ Q .non (upd H l (.lst (xs.eraseIdx j)))
theorem mt_removeD {X : Cx} (hu : X.A.units + 65 < cLine) : MtM X "list.remove" (rRemD X.K) := by
  intro pins s σ H x vs v us Q I rx rv h
  obtain ⟨l, y, xs, d, ds, j, z, rfl, rfl, hH, hds, hy, sl, sd, hz, hzj, hno, q⟩ := h
  cases rx
  obtain ⟨uy, rfl, ry⟩ := rv.one
  obtain ⟨bs, r1⟩ := Dp.reads I d y uy hy ry
  obtain ⟨zl, its, n, r, hl, e⟩ := I.lstM hH
  obtain ⟨as, r2⟩ := Dp.readsAll I ds xs its hds r
  have can : PyData.canLayAll0 ds = true := SeqAt.canLay_of_shaped sl
  have rm : X.A.units + 1 + min (PyData.depthAll ds) d.depth < cLine := room_in_shaped sd hu
  have n1 : its.length = ds.length := SeqAt.ReadsAll.length ds its as r2
  have mp : its.map (SeqAt.readOf s.heap) = ds := SeqAt.readsAll_map ds its as can r2
  have jd : j < ds.length := (List.getElem?_eq_some_iff.mp hz).1
  have hj : j < its.toArray.size := by rw [List.size_toArray]; omega
  have see : ∀ (m : Nat) (hm : m < its.toArray.size) (z' : PyData), ds[m]? = some z' → SeqAt.readOf s.heap its.toArray[m] = z' := fun m hm z' e1 => by
    have hm2 : m < its.length := by rw [List.size_toArray] at hm; exact hm
    rw [← mp, List.getElem?_map, List.getElem?_eq_getElem hm2] at e1
    simpa using Option.some.inj e1
  have sl9 := sizeLine_eq
  refine call_meets PySem.F.slot_list_remove ⟨_, e, rfl⟩ PySem.F.entry_list_remove (PySem.F.args_list_remove_2 _ _)
    (SeqAt.list_removeAt l its.toArray n _ _ uy (fun u => PyData.eqv (SeqAt.readOf s.heap u) d) j hj ?_ ?_ (by rw [List.size_toArray]; omega))
    ⟨e, SeqAt.items_eqAt (vs := its.toArray) (show ReadsAll s.heap its.toArray.toList ds as from r2) r1 can (SeqAt.canLay_of_shaped sd) rm, ?_⟩
  · show PyData.eqv (SeqAt.readOf s.heap its.toArray[j]) d = true
    rw [see j hj z hz]; exact hzj
  · intro m hm lt
    have md : m < ds.length := by omega
    show PyData.eqv (SeqAt.readOf s.heap its.toArray[m]) d = false
    rw [see m hm _ (List.getElem?_eq_getElem md)]
    exact hno m _ lt (List.getElem?_eq_getElem md)
  · refine ⟨.non, _, I.lset (its' := its.eraseIdx j) (t' := s.toks) hH e ?_ (r.eraseIdx j) ?_, rfl, q⟩
    · show its.toArray.eraseIdxIfInBounds j = (its.eraseIdx j).toArray
      rw [List.eraseIdxIfInBounds_toArray]
    · have := len_erase xs j
      omega
end Vf
namespace Vf
open PySem L2 PySem.Spec PyProof.Rows He
theorem ePK (K : PySem.W.Frag) {X : Cx} (hu : X.A.units + 64 < cLine) (hK : X.K = K := by rfl) : OpR X (compareOp .Eq) (rEqP K) := hK ▸ op_eqP hu
theorem nPK (K : PySem.W.Frag) {X : Cx} (hu : X.A.units + 64 < cLine) (hK : X.K = K := by rfl) : OpR X (compareOp .NotEq) (rNeP K) := hK ▸ op_neP hu
end Vf

/-! for k, (a, b) in enumerate(zip(s, t)): two tuples. The pairs are let go by nobody: the zip then knows of one that is out. -/
namespace Vf
open PySem L2 PySem.Spec PyProof.Rows He RZ
abbrev ZSt (h : Heap) (z TI TO : Addr) (own : Value) (f : Bool) : Prop := h.get? z = some { slots := #[], data := .fields #[own, .bool f, .bool false, .ref TI, .ref TO], dict := none, cls := .type "zip" }
def OwnOk (own : Value) : Prop := own = .none ∨ ∃ T : Addr, own = rawInt T
section
variable {P : Program} {w : World} {A : Around} {E : Value → Shared → Prop} {s : Shared} {z TI TO : Addr} {own : Value} {f : Bool}
theorem z_free (hz : ZSt s.heap z TI TO own f) (ho : OwnOk own) {Q : Bool → Shared → Prop} (q : ∀ (b : Bool) (g : Heap) (f' : Bool), ZSt g z TI TO own f' → Heap.SameBut z s.heap g → Q b { s with heap := g }) :
    wpAny (model P w) A (Builtin.SmallTypes.ownedTupleIsFree (.ref z)) Q E s := by
  unfold Builtin.SmallTypes.ownedTupleIsFree
  rcases ho with rfl | ⟨T, rfl⟩
  · exact wpAny_bind (wpAny_field hz rfl (x := .none) rfl (wpAny_pure (q true s.heap f hz (Heap.SameBut.refl _ _))))
  · refine wpAny_bind (wpAny_field hz rfl (x := rawInt T) rfl ?_)
    show wpAny _ _ (loadIfAlive ((T : Int).toNat) >>= _) _ _ _
    refine wpAny_bind ?_
    have al : ∀ {R : Option Obj → Shared → Prop}, R (s.heap.get? (T : Int).toNat) s → wpAny (model P w) A (loadIfAlive ((T : Int).toNat)) R E s := by
      intro R h
      exact fun _ _ _ => h
    refine al ?_
    cases hT : s.heap.get? (T : Int).toNat with
    | none => exact wpAny_pure (q true s.heap f hz (Heap.SameBut.refl _ _))
    | some o =>
      simp only [Option.isNone_some, Bool.false_eq_true, if_false]
      refine wpAny_bind (wpAny_field hz rfl (x := .bool f) rfl ?_)
      cases f with
      | true =>
        rw [if_neg (show ¬ ((Value.bool true != Value.bool true) = true) from Bool.false_ne_true)]
        exact wpAny_pure (q false s.heap true hz (Heap.SameBut.refl _ _))
      | false =>
        rw [if_pos (show (Value.bool false != Value.bool true) = true from rfl)]
        exact wpAny_bind (wpAny_setField_rec hz (by simp) fun g hg sg => wpAny_pure (q false g true hg sg))
/-- what is apart -/
theorem z_item {i1 i2 l1 l2 : Addr} {k : Nat} {xs ys : Array Value} {x y c d : Value} {Q : Value → Shared → Prop} (D : ZipApart z TI TO i1 i2 l1 l2) (hz : ZSt s.heap z TI TO own f) (ho : OwnOk own)
    (hI : IsPair s.heap TI (.ref i1) (.ref i2)) (hO : IsPair s.heap TO c d) (t1 : s.heap.IsTupleIter i1 l1 k) (t2 : s.heap.IsTupleIter i2 l2 k)
    (r1 : s.heap.IsTuple l1 xs) (r2 : s.heap.IsTuple l2 ys) (ex : xs[k]? = some x) (ey : ys[k]? = some y)
    (q : ∀ (g : Heap) (own' : Value) (f' : Bool) (c' d' : Value), ZSt g z TI TO own' f' → OwnOk own' → IsPair g TO c' d' → g.IsTupleIter i1 l1 (k + 1) → g.IsTupleIter i2 l2 (k + 1) → IsPair g s.heap.objs.size x y → g.objs.size = s.heap.objs.size + 1 →
      (∀ b o, b ≠ z → b ≠ TO → b ≠ i1 → b ≠ i2 → s.heap.get? b = some o → g.get? b = some o) → Q (.ref s.heap.objs.size) { s with heap := g }) :
    wpAny (model P w) A (Builtin.SmallTypes.nextOf (.ref z)) Q E s := by
  have ty : s.TypeIs (.ref z) "zip" := ⟨_, hz, rfl⟩
  unfold Builtin.SmallTypes.nextOf
  refine wpAny_bind (wpAny_callSpecial?_slot (name := Str.ofString "__next__") ty F.slot_zip_next (wpAny_call_entry F.slot_zip_next ty F.entry_zip_next ?_ (F.args_zip_next_1 _)))
  show wpAny _ _ (field (.ref z) 2 >>= _) _ _ _
  refine wpAny_bind (wpAny_field hz rfl (x := .bool false) rfl ?_)
  show wpAny _ _ (field (.ref z) 3 >>= _) _ _ _
  refine wpAny_bind (wpAny_field hz rfl (x := .ref TI) rfl ?_)
  refine wpAny_bind (wpAny_seqItems hI rfl ?_)
  show wpAny _ _ (Builtin.SmallTypes.ownedTupleIsFree (.ref z) >>= _) _ _ _
  refine wpAny_bind (z_free hz ho fun b g1 f1 z1 s1 => ?_)
  have t1a := t1.extBut s1.extBut D.i1z
  have t2a := t2.extBut s1.extBut D.i2z
  have r1a := r1.extBut s1.extBut D.l1z
  have r2a := r2.extBut s1.extBut D.l2z
  have oa : IsPair g1 TO c d := s1.extBut _ _ D.TOz hO
  cases b with
  | true =>
    simp only [if_true]
    refine wpAny_bind (wpAny_rule ?_)
    refine wpAny_bind (wpAny_field z1 rfl (x := .ref TO) rfl ?_)
    refine wpAny_bind (wpAny_setField_rec z1 (by simp) fun g2 z2 s2 => ?_)
    replace z2 : ZSt g2 z TI TO .ellipsis f1 := z2
    refine wpAny_bind ?_
    simp only [List.zipIdx_cons, List.zipIdx_nil, List.forIn_cons, List.forIn_nil]
    refine wpAny_bind (wpAny_bind (wpAny_onRaise ?_))
    show wpAny _ _ (Builtin.SmallTypes.nextOf (.ref i1) >>= _) _ _ _
    refine wpAny_bind (nextOf_tuple_item (t1a.extBut s2.extBut D.i1z) (r1a.extBut s2.extBut D.l1z) ex fun g3 t1b s3 => wpAny_pure ?_)
    have ob : IsPair g3 TO c d := s3.extBut _ _ D.TOi1 (s2.extBut _ _ D.TOz oa)
    refine wpAny_bind (wpAny_seqItems ob rfl ?_)
    refine wpAny_bind (wpAny_updateSeq_pair ob fun g4 oc s4 => ?_)
    replace oc : IsPair g4 TO x d := oc
    refine wpAny_bind (wpAny_letGo (wpAny_pure ?_))
    refine wpAny_bind (wpAny_bind (wpAny_onRaise ?_))
    show wpAny _ _ (Builtin.SmallTypes.nextOf (.ref i2) >>= _) _ _ _
    refine wpAny_bind (nextOf_tuple_item (((t2a.extBut s2.extBut D.i2z).extBut s3.extBut D.i12.symm).extBut s4.extBut D.TOi2.symm) (((r2a.extBut s2.extBut D.l2z).extBut s3.extBut D.l2i1).extBut s4.extBut D.l2TO) ey fun g5 t2b s5 => wpAny_pure ?_)
    have od : IsPair g5 TO x d := s5.extBut _ _ D.TOi2 oc
    refine wpAny_bind (wpAny_seqItems od rfl ?_)
    refine wpAny_bind (wpAny_updateSeq_pair od fun g6 oe s6 => ?_)
    replace oe : IsPair g6 TO x y := oe
    refine wpAny_bind (wpAny_letGo (wpAny_pure (wpAny_pure ?_)))
    refine wpAny_bind (wpAny_seqItems oe rfl ?_)
    refine wpAny_bind (wpAny_newTuple ?_)
    have size : g6.objs.size = s.heap.objs.size := by rw [s6.1, s5.1, s4.1, s3.1, s2.1, s1.1]
    have z6 : ZSt g6 z TI TO .ellipsis f1 := s6.extBut _ _ D.TOz.symm (s5.extBut _ _ D.i2z.symm (s4.extBut _ _ D.TOz.symm (s3.extBut _ _ D.i1z.symm z2)))
    have k6 : ∀ b o, b ≠ z → b ≠ TO → b ≠ i1 → b ≠ i2 → s.heap.get? b = some o → g6.get? b = some o := fun b o n1 n2 n3 n4 e => s6.extBut _ _ n2 (s5.extBut _ _ n4 (s4.extBut _ _ n2 (s3.extBut _ _ n3 (s2.extBut _ _ n1 (s1.extBut _ _ n1 e)))))
    have t16 : g6.IsTupleIter i1 l1 (k + 1) := ((t1b.extBut s4.extBut D.TOi1.symm).extBut s5.extBut D.i12).extBut s6.extBut D.TOi1.symm
    have t26 : g6.IsTupleIter i2 l2 (k + 1) := t2b.extBut s6.extBut D.TOi2.symm
    have zl : z < g6.objs.size := Heap.lt_size z6
    show wpAny _ _ (Builtin.SmallTypes.ownedTupleHandOut (.ref z) (.ref g6.objs.size) >>= _) _ _ _
    refine wpAny_bind ?_
    unfold Builtin.SmallTypes.ownedTupleHandOut
    have z7 : ZSt (g6.push { cls := .type "tuple", data := .seq #[x, y] }) z TI TO .ellipsis f1 := Heap.get?_push_of_some _ z6
    refine wpAny_bind (wpAny_setField_rec z7 (by simp) fun g8 z8 s8 => ?_)
    replace z8 : ZSt g8 z TI TO (rawInt g6.objs.size) f1 := z8
    refine wpAny_setField_rec z8 (by simp) fun g9 z9 s9 => ?_
    replace z9 : ZSt g9 z TI TO (rawInt g6.objs.size) false := z9
    have up : ∀ b o, b ≠ z → g6.get? b = some o → g9.get? b = some o := fun b o n e => s9.extBut _ _ n (s8.extBut _ _ n (Heap.get?_push_of_some _ e))
    have p9 : IsPair g9 g6.objs.size x y := s9.extBut _ _ (Nat.ne_of_gt zl) (s8.extBut _ _ (Nat.ne_of_gt zl) (Heap.get?_push_size _ rfl))
    have size9 : g9.objs.size = g6.objs.size + 1 := by rw [s9.1, s8.1, Heap.size_push]
    rw [size] at z9 p9 size9
    refine wpAny_pure ⟨_, rfl, wpAny_pure ?_⟩
    show Q (.ref g6.objs.size) _
    rw [size]
    exact q g9 _ _ _ _ z9 (.inr ⟨_, rfl⟩) (up _ _ D.TOz oe) (t16.at fun o e => up _ o D.i1z e) (t26.at fun o e => up _ o D.i2z e) p9 size9 fun b o n1 n2 n3 n4 e => up b o n1 (k6 b o n1 n2 n3 n4 e)
  | false =>
    simp only [Bool.false_eq_true, if_false]
    refine wpAny_bind ?_
    rw [← Array.forIn_toList]
    simp only [List.forIn_cons, List.forIn_nil]
    refine wpAny_bind (wpAny_bind (wpAny_holding ?_))
    show wpAny _ _ (Builtin.SmallTypes.nextOf (.ref i1) >>= _) _ _ _
    refine wpAny_bind (nextOf_tuple_item t1a r1a ex fun g3 t1b s3 => wpAny_pure ?_)
    refine wpAny_pure ?_
    refine wpAny_bind (wpAny_bind (wpAny_holding ?_))
    show wpAny _ _ (Builtin.SmallTypes.nextOf (.ref i2) >>= _) _ _ _
    refine wpAny_bind (nextOf_tuple_item (t2a.extBut s3.extBut D.i12.symm) (r2a.extBut s3.extBut D.l2i1) ey fun g5 t2b s5 => wpAny_pure ?_)
    refine wpAny_pure (wpAny_pure ?_)
    show wpAny _ _ (newTuple [x, y] >>= _) _ _ _
    refine wpAny_bind (wpAny_newTuple ?_)
    have size : g5.objs.size = s.heap.objs.size := by rw [s5.1, s3.1, s1.1]
    have z5 : ZSt g5 z TI TO own f1 := s5.extBut _ _ D.i2z.symm (s3.extBut _ _ D.i1z.symm z1)
    have o5 : IsPair g5 TO c d := s5.extBut _ _ D.TOi2 (s3.extBut _ _ D.TOi1 oa)
    have k5 : ∀ b o, b ≠ z → b ≠ i1 → b ≠ i2 → s.heap.get? b = some o → g5.get? b = some o := fun b o n1 n3 n4 e => s5.extBut _ _ n4 (s3.extBut _ _ n3 (s1.extBut _ _ n1 e))
    have t15 : g5.IsTupleIter i1 l1 (k + 1) := t1b.extBut s5.extBut D.i12
    have p9 : IsPair (g5.push { cls := .type "tuple", data := .seq #[x, y] }) g5.objs.size x y := Heap.get?_push_size _ rfl
    have size9 : (g5.push { cls := .type "tuple", data := .seq #[x, y] }).objs.size = g5.objs.size + 1 := Heap.size_push ..
    refine wpAny_pure ⟨_, rfl, wpAny_pure ?_⟩
    show Q (.ref g5.objs.size) _
    rw [size] at p9 size9 ⊢
    exact q _ _ _ _ _ (Heap.get?_push_of_some _ z5) ho (Heap.get?_push_of_some _ o5) (t15.at fun o e => Heap.get?_push_of_some _ e) (t2b.at fun o e => Heap.get?_push_of_some _ e) p9 size9 fun b o n1 _ n3 n4 e => Heap.get?_push_of_some _ (k5 b o n1 n3 n4 e)
/-- nothing is left -/
theorem z_end {i1 i2 l1 l2 : Addr} {k : Nat} {xs ys : Array Value} {c d : Value} {Q : Value → Shared → Prop} (h0 : A.handled = none) (D : ZipApart z TI TO i1 i2 l1 l2) (hz : ZSt s.heap z TI TO own f) (ho : OwnOk own)
    (hI : IsPair s.heap TI (.ref i1) (.ref i2)) (hO : IsPair s.heap TO c d) (t1 : s.heap.IsTupleIter i1 l1 k) (t2 : s.heap.IsTupleIter i2 l2 k)
    (r1 : s.heap.IsTuple l1 xs) (r2 : s.heap.IsTuple l2 ys) (ends : xs[k]? = none ∨ ys[k]? = none)
    (q : ∀ (g : Heap) (x : Addr), (∀ b o, b ≠ z → b ≠ TO → b ≠ i1 → b ≠ i2 → s.heap.get? b = some o → g.get? b = some o) → (∃ o, g.get? x = some o ∧ o.cls = .type "StopIteration") → E (.ref x) { s with heap := g }) :
    wpAny (model P w) A (Builtin.SmallTypes.nextOf (.ref z)) Q E s := by
  have ty : s.TypeIs (.ref z) "zip" := ⟨_, hz, rfl⟩
  unfold Builtin.SmallTypes.nextOf
  refine wpAny_bind (wpAny_callSpecial?_slot (name := Str.ofString "__next__") ty F.slot_zip_next (wpAny_call_entry F.slot_zip_next ty F.entry_zip_next ?_ (F.args_zip_next_1 _)))
  show wpAny _ _ (field (.ref z) 2 >>= _) _ _ _
  refine wpAny_bind (wpAny_field hz rfl (x := .bool false) rfl ?_)
  show wpAny _ _ (field (.ref z) 3 >>= _) _ _ _
  refine wpAny_bind (wpAny_field hz rfl (x := .ref TI) rfl ?_)
  refine wpAny_bind (wpAny_seqItems hI rfl ?_)
  show wpAny _ _ (Builtin.SmallTypes.ownedTupleIsFree (.ref z) >>= _) _ _ _
  refine wpAny_bind (z_free hz ho fun b g1 f1 z1 s1 => ?_)
  have t1a := t1.extBut s1.extBut D.i1z
  have t2a := t2.extBut s1.extBut D.i2z
  have r1a := r1.extBut s1.extBut D.l1z
  have r2a := r2.extBut s1.extBut D.l2z
  have oa : IsPair g1 TO c d := s1.extBut _ _ D.TOz hO
  cases b with
  | true =>
    simp only [if_true]
    refine wpAny_bind (wpAny_rule ?_)
    refine wpAny_bind (wpAny_field z1 rfl (x := .ref TO) rfl ?_)
    refine wpAny_bind (wpAny_setField_rec z1 (by simp) fun g2 z2 s2 => ?_)
    replace z2 : ZSt g2 z TI TO .ellipsis f1 := z2
    refine wpAny_bind ?_
    simp only [List.zipIdx_cons, List.zipIdx_nil, List.forIn_cons, List.forIn_nil]
    refine wpAny_bind (wpAny_bind (wpAny_onRaise ?_))
    show wpAny _ _ (Builtin.SmallTypes.nextOf (.ref i1) >>= _) _ _ _
    cases ex : xs[k]? with
    | none =>
      refine wpAny_bind (nextOf_tuple_end h0 (t1a.extBut s2.extBut D.i1z) (r1a.extBut s2.extBut D.l1z) ex fun g3 er s3 ⟨oe, e1, e2⟩ => ?_)
      have z3 : ZSt g3 z TI TO .ellipsis f1 := s3 _ _ D.i1z.symm z2
      have ne : er ≠ z := fun h => by subst h; rw [z3] at e1; cases e1; simp at e2
      refine wpAny_setField_rec z3 (by simp) fun g4 _ s4 => q g4 er (fun b o n1 n2 n3 n4 e => s4.extBut _ _ n1 (s3 _ _ n3 (s2.extBut _ _ n1 (s1.extBut _ _ n1 e)))) ⟨oe, s4.extBut _ _ ne e1, e2⟩
    | some x =>
      have ey : ys[k]? = none := ends.resolve_left (by rw [ex]; exact fun z => nomatch z)
      refine wpAny_bind (nextOf_tuple_item (t1a.extBut s2.extBut D.i1z) (r1a.extBut s2.extBut D.l1z) ex fun g3 t1b s3 => wpAny_pure ?_)
      have ob : IsPair g3 TO c d := s3.extBut _ _ D.TOi1 (s2.extBut _ _ D.TOz oa)
      refine wpAny_bind (wpAny_seqItems ob rfl ?_)
      refine wpAny_bind (wpAny_updateSeq_pair ob fun g4 oc s4 => ?_)
      refine wpAny_bind (wpAny_letGo (wpAny_pure ?_))
      refine wpAny_bind (wpAny_bind (wpAny_onRaise ?_))
      show wpAny _ _ (Builtin.SmallTypes.nextOf (.ref i2) >>= _) _ _ _
      refine wpAny_bind (nextOf_tuple_end h0 (((t2a.extBut s2.extBut D.i2z).extBut s3.extBut D.i12.symm).extBut s4.extBut D.TOi2.symm) (((r2a.extBut s2.extBut D.l2z).extBut s3.extBut D.l2i1).extBut s4.extBut D.l2TO) ey fun g5 er s5 ⟨oe, e1, e2⟩ => ?_)
      have z5 : ZSt g5 z TI TO .ellipsis f1 := s5 _ _ D.i2z.symm (s4.extBut _ _ D.TOz.symm (s3.extBut _ _ D.i1z.symm z2))
      have ne : er ≠ z := fun h => by subst h; rw [z5] at e1; cases e1; simp at e2
      refine wpAny_setField_rec z5 (by simp) fun g6 _ s6 => q g6 er (fun b o n1 n2 n3 n4 e => s6.extBut _ _ n1 (s5 _ _ n4 (s4.extBut _ _ n2 (s3.extBut _ _ n3 (s2.extBut _ _ n1 (s1.extBut _ _ n1 e)))))) ⟨oe, s6.extBut _ _ ne e1, e2⟩
  | false =>
    simp only [Bool.false_eq_true, if_false]
    refine wpAny_bind ?_
    rw [← Array.forIn_toList]
    simp only [List.forIn_cons, List.forIn_nil]
    refine wpAny_bind (wpAny_bind (wpAny_holding ?_))
    show wpAny _ _ (Builtin.SmallTypes.nextOf (.ref i1) >>= _) _ _ _
    cases ex : xs[k]? with
    | none =>
      exact wpAny_bind (nextOf_tuple_end h0 t1a r1a ex fun g3 er s3 he => q g3 er (fun b o n1 n2 n3 n4 e => s3 _ _ n3 (s1.extBut _ _ n1 e)) he)
    | some x =>
      have ey : ys[k]? = none := ends.resolve_left (by rw [ex]; exact fun z => nomatch z)
      refine wpAny_bind (nextOf_tuple_item t1a r1a ex fun g3 t1b s3 => wpAny_pure ?_)
      refine wpAny_pure ?_
      refine wpAny_bind (wpAny_bind (wpAny_holding ?_))
      show wpAny _ _ (Builtin.SmallTypes.nextOf (.ref i2) >>= _) _ _ _
      exact wpAny_bind (nextOf_tuple_end h0 (t2a.extBut s3.extBut D.i12.symm) (r2a.extBut s3.extBut D.l2i1) ey fun g5 er s5 he => q g5 er (fun b o n1 n2 n3 n4 e => s5 _ _ n4 (s3.extBut _ _ n3 (s1.extBut _ _ n1 e))) he)
/-- the next one told: its pair first, then the pair of its number and that -/
theorem ez_item {e i1 i2 l1 l2 : Addr} {k : Nat} {xs ys : Array Value} {x y c d prev : Value} {Q : Option Value → Shared → Prop} (D : ZipApart z TI TO i1 i2 l1 l2) (he : IsEnum s.heap e z (k : Int) prev) (hz : ZSt s.heap z TI TO own f) (ho : OwnOk own)
    (n1 : e ≠ z) (n2 : e ≠ TO) (n3 : e ≠ i1) (n4 : e ≠ i2) (n5 : e ≠ TI)
    (hI : IsPair s.heap TI (.ref i1) (.ref i2)) (hO : IsPair s.heap TO c d) (t1 : s.heap.IsTupleIter i1 l1 k) (t2 : s.heap.IsTupleIter i2 l2 k)
    (r1 : s.heap.IsTuple l1 xs) (r2 : s.heap.IsTuple l2 ys) (ex : xs[k]? = some x) (ey : ys[k]? = some y)
    (q : ∀ (g g' : Heap) (tk : Nat) (own' : Value) (f' : Bool) (c' d' v : Value), IsPair g s.heap.objs.size x y → g.objs.size = s.heap.objs.size + 1 → (∀ b o, b ≠ z → b ≠ TO → b ≠ i1 → b ≠ i2 → s.heap.get? b = some o → g.get? b = some o) →
      (∀ b o, b ≠ e → g.get? b = some o → g'.get? b = some o) → IsEnumOut g' e z ((k : Int) + 1) v (s.heap.objs.size + 1) → ZSt g' z TI TO own' f' → OwnOk own' → IsPair g' TO c' d' → g'.IsTupleIter i1 l1 (k + 1) → g'.IsTupleIter i2 l2 (k + 1) →
      (∃ tt, IsPair g' (s.heap.objs.size + 1) (.int k tt) (.ref s.heap.objs.size)) → Q (some (.ref (s.heap.objs.size + 1))) { s with heap := g', toks := tk }) :
    wpAny (model P w) A (pyNext (.ref e)) Q E s := by
  have ty : s.TypeIs (.ref e) "enumerate" := ⟨_, he, rfl⟩
  unfold pyNext
  refine wpAny_bind (wpAny_attempt (wpAny_callSpecial?_slot (name := Str.ofString "__next__") ty F.slot_enumerate_next (wpAny_call_entry F.slot_enumerate_next ty F.entry_enumerate_next ?_ (F.args_enumerate_next_1 _))))
  show wpAny (model P w) A.in1 (field (.ref e) 2 >>= _) _ _ s
  refine wpAny_bind (wpAny_field he rfl (x := .ref z) rfl ?_)
  refine wpAny_bind (z_item D hz ho hI hO t1 t2 r1 r2 ex ey fun g own' f' c' d' z' oo po a1 a2 pn size keep => ?_)
  obtain ⟨hp, gs, dr, tk, os⟩ := s
  dsimp only at he pn size keep q ⊢
  have e1 : IsEnum g e z (k : Int) prev := keep e _ n1 n2 n3 n4 he
  have el : e < hp.objs.size := Heap.lt_size he
  show wpAny _ _ (field (.ref e) 3 >>= _) _ _ ⟨g, gs, dr, tk, os⟩
  refine wpAny_bind (wpAny_field e1 rfl (x := rawInt k) rfl ?_)
  show wpAny _ _ (field (.ref e) 4 >>= _) _ _ ⟨g, gs, dr, tk, os⟩
  refine wpAny_bind (wpAny_field e1 rfl (x := .none) rfl ?_)
  show wpAny _ _ (mkInt k >>= _) _ _ ⟨g, gs, dr, tk, os⟩
  refine wpAny_bind (wpAny_mkInt ?_)
  show wpAny _ _ (setField (.ref e) 3 (rawInt ((k : Int) + 1)) >>= _) _ _ ⟨g, gs, dr, tk + 1, os⟩
  refine wpAny_bind (wpAny_setField_rec e1 (by simp) fun g2 e2 s2 => ?_)
  replace s2 : Heap.SameBut e g g2 := s2
  replace e2 : IsEnum g2 e z ((k : Int) + 1) prev := e2
  show wpAny _ _ (setField (.ref e) 4 .none >>= _) _ _ ⟨g2, gs, dr, tk + 1, os⟩
  refine wpAny_bind (wpAny_setField_rec e2 (by simp) fun g3 e3 s3 => ?_)
  replace s3 : Heap.SameBut e g2 g3 := s3
  replace e3 : IsEnum g3 e z ((k : Int) + 1) prev := e3
  show wpAny _ _ (newTuple [.int k tk, .ref hp.objs.size] >>= _) _ _ ⟨g3, gs, dr, tk + 1, os⟩
  refine wpAny_bind (wpAny_newTuple ?_)
  have size3 : g3.objs.size = hp.objs.size + 1 := by rw [s3.1, s2.1, size]
  have e4 : IsEnum (g3.push { cls := .type "tuple", data := .seq #[.int k tk, .ref hp.objs.size] }) e z ((k : Int) + 1) prev := Heap.get?_push_of_some _ e3
  have p4 : IsPair (g3.push { cls := .type "tuple", data := .seq #[.int k tk, .ref hp.objs.size] }) (hp.objs.size + 1) (.int k tk) (.ref hp.objs.size) := by rw [← size3]; exact Heap.get?_push_size _ rfl
  have k4 : ∀ b o, b ≠ e → g.get? b = some o → (g3.push { cls := .type "tuple", data := .seq #[.int k tk, .ref hp.objs.size] }).get? b = some o := fun b o n h => Heap.get?_push_of_some _ (s3.extBut b o n (s2.extBut b o n h))
  generalize g3.push { cls := .type "tuple", data := .seq #[.int k tk, .ref hp.objs.size] } = g4 at e4 p4 k4
  show wpAny _ _ (Builtin.SmallTypes.ownedTupleIsFree (.ref e) >>= _) _ _ ⟨g4, gs, dr, tk + 1, os⟩
  rw [size3]
  refine wpAny_bind ?_
  unfold Builtin.SmallTypes.ownedTupleIsFree
  refine wpAny_bind (wpAny_field e4 rfl (x := .none) rfl (wpAny_pure ?_))
  simp only [if_true]
  refine wpAny_bind (wpAny_rule ?_)
  refine wpAny_bind (wpAny_field e4 rfl (x := prev) rfl ?_)
  refine wpAny_bind (wpAny_setField_rec e4 (by simp) fun g5 e5 s5 => ?_)
  replace s5 : Heap.SameBut e g4 g5 := s5
  replace e5 : IsEnum g5 e z ((k : Int) + 1) (.ref hp.objs.size) := e5
  show wpAny _ _ (Builtin.SmallTypes.ownedTupleHandOut (.ref e) (.ref (hp.objs.size + 1)) >>= _) _ _ ⟨g5, gs, dr, tk + 1, os⟩
  refine wpAny_bind ?_
  unfold Builtin.SmallTypes.ownedTupleHandOut
  refine wpAny_bind (wpAny_setField_rec e5 (by simp) fun g6 e6 s6 => ?_)
  replace s6 : Heap.SameBut e g5 g6 := s6
  replace e6 : IsEnumOut g6 e z ((k : Int) + 1) (.ref hp.objs.size) (hp.objs.size + 1) := e6
  refine wpAny_setField_rec e6 (by simp) fun g7 e7 s7 => ?_
  replace s7 : Heap.SameBut e g6 g7 := s7
  replace e7 : IsEnumOut g7 e z ((k : Int) + 1) (.ref hp.objs.size) (hp.objs.size + 1) := e7
  have k7 : ∀ b o, b ≠ e → g4.get? b = some o → g7.get? b = some o := fun b o n h => s7.extBut b o n (s6.extBut b o n (s5.extBut b o n h))
  have up : ∀ b o, b ≠ e → g.get? b = some o → g7.get? b = some o := fun b o n h => k7 b o n (k4 b o n h)
  refine wpAny_bind (wpAny_letGo (wpAny_pure ⟨_, rfl, wpAny_pure (q g g7 (tk + 1) own' f' c' d' _ pn size keep up e7 (up _ _ (Ne.symm n1) z') oo (up _ _ (Ne.symm n2) po) (a1.at fun o h => up _ o (Ne.symm n3) h) (a2.at fun o h => up _ o (Ne.symm n4) h) ⟨tk, k7 _ _ ?_ p4⟩)⟩))
  exact Nat.ne_of_gt (Nat.lt_succ_of_lt el)
theorem ez_end {e i1 i2 l1 l2 : Addr} {k : Nat} {xs ys : Array Value} {c d prev : Value} {Q : Option Value → Shared → Prop} (h0 : A.handled = none) (D : ZipApart z TI TO i1 i2 l1 l2) (he : IsEnum s.heap e z (k : Int) prev) (hz : ZSt s.heap z TI TO own f) (ho : OwnOk own)
    (hI : IsPair s.heap TI (.ref i1) (.ref i2)) (hO : IsPair s.heap TO c d) (t1 : s.heap.IsTupleIter i1 l1 k) (t2 : s.heap.IsTupleIter i2 l2 k)
    (r1 : s.heap.IsTuple l1 xs) (r2 : s.heap.IsTuple l2 ys) (ends : xs[k]? = none ∨ ys[k]? = none)
    (q : ∀ g : Heap, (∀ b o, b ≠ z → b ≠ TO → b ≠ i1 → b ≠ i2 → s.heap.get? b = some o → g.get? b = some o) → Q none { s with heap := g }) :
    wpAny (model P w) A (pyNext (.ref e)) Q E s := by
  have ty : s.TypeIs (.ref e) "enumerate" := ⟨_, he, rfl⟩
  unfold pyNext
  refine wpAny_bind (wpAny_attempt (wpAny_callSpecial?_slot (name := Str.ofString "__next__") ty F.slot_enumerate_next (wpAny_call_entry F.slot_enumerate_next ty F.entry_enumerate_next ?_ (F.args_enumerate_next_1 _))))
  show wpAny (model P w) A.in1 (field (.ref e) 2 >>= _) _ _ s
  refine wpAny_bind (wpAny_field he rfl (x := .ref z) rfl ?_)
  refine wpAny_bind (z_end (by simp [h0]) D hz ho hI hO t1 t2 r1 r2 ends fun g x keep ⟨oe, e1, e2⟩ => ?_)
  refine wpAny_bind (wpAny_isInstance (T := "StopIteration") (b := true) ⟨oe, e1, e2⟩ isSubtype_stop ?_)
  exact wpAny_pure (q g keep)
end
end Vf

namespace PySem
theorem meets_enumerate_zip (z TI TO : Addr) (f0 : Value) :
    Meets (Builtin.«enumerate.__new__» ⟨[.type "enumerate", .ref z], []⟩) (fun _ R s => IsZip s.heap z TI TO f0 ∧
      R (.ok (.ret (.ref s.heap.objs.size))) { s with heap := s.heap.push { data := .fields #[.none, .bool false, .ref z, rawInt 0, .none, .none], cls := .type "enumerate" } }) :=
  .of_wp fun prg w A R s h => by
    obtain ⟨hp, g, d, tk, os⟩ := s; obtain ⟨hz, h⟩ := h
    have hsub := sub_enumerate
    have zz : IsZip (Shared.heap ⟨hp, g, d, tk, os⟩) z TI TO f0 := hz
    have q1 : ∀ {A' : Around} {E : Value → Shared → Prop} {Q : Value → Shared → Prop}, Q (.ref z) ⟨hp, g, d, tk, os⟩ → wpAny (model prg w) A' (pyIter (.ref z)) Q E ⟨hp, g, d, tk, os⟩ := fun q => wpAny_pyIter_zip zz q
    wp_walk using q1
    refine wpAny_stack_any fun here => wpAny_pure ?_
    split
    · rename_i cls9 _ _ _ _ _
      cases (cls9 == Value.type "enumerate")
      · wp_walk using q1
        exact ⟨_, rfl, h⟩
      · wp_walk using q1
        exact ⟨_, rfl, h⟩
    · wp_walk using q1
      exact ⟨_, rfl, h⟩
theorem call_enumerate_zip {prg : Program} {w : World} {A : Around} {E : Value → Shared → Prop} {s : Shared} {z TI TO : Addr} {f0 : Value} {Q : Value → Shared → Prop} (hz : IsZip s.heap z TI TO f0)
    (h : ∀ g, IsEnum g s.heap.objs.size z 0 .none → (∀ b o, s.heap.get? b = some o → g.get? b = some o) → Q (.ref s.heap.objs.size) { s with heap := g }) :
    wpAny (model prg w) A (call (.type "enumerate") [.ref z]) Q E s := by
  refine callType_new F.called_enumerate (by decide) (F.typeCall_enumerate_1 _) (F.newCall_enumerate_1 _) (fun it => F.args_object_init_2 it _) F.entry_enumerate_new (meets_enumerate_zip z TI TO f0) ⟨hz, ?_⟩
  have qe : IsEnum (s.heap.push { data := .fields #[.none, .bool false, .ref z, rawInt 0, .none, .none], cls := .type "enumerate" }) s.heap.objs.size z 0 .none := Heap.get?_push_size _ rfl
  exact ⟨⟨_, qe, rfl⟩, h _ qe fun b o e => Heap.get?_push_of_some _ e⟩
end PySem
namespace Vf
open PySem L2 PySem.Spec PyProof.Rows He RZ
/-- enumerate(zip(s, t)), s and t tuples -/
def IteZ (K : PySem.W.Frag) (a b : Addr) : It :=
  ⟨fun i H => ∃ (xs ys : List V) (x y : V), SqT K H a xs ∧ SqT K H b ys ∧ xs[i]? = some x ∧ ys[i]? = some y,
   fun i H v H' => ∃ Pp T x y, v = .ref T ∧ H Pp = none ∧ upd H Pp (.tup [x, y]) T = none ∧ H' = upd (upd H Pp (.tup [x, y])) T (.tup [.int (i : Nat), .ref Pp]) ∧ (∀ xs, SqT K H a xs → xs[i]? = some x) ∧ ∀ ys, SqT K H b ys → ys[i]? = some y,
   fun i H => ∃ xs ys : List V, SqT K H a xs ∧ SqT K H b ys ∧ (xs.length ≤ i ∨ ys.length ≤ i)⟩
structure EzAt (a b e z TI TO i1 i2 : Addr) (i : Nat) (h : Heap) : Prop where
  e : ∃ prev, IsEnum h e z (i : Int) prev
  z : ∃ own f, ZSt h z TI TO own f ∧ OwnOk own
  p : IsPair h TI (.ref i1) (.ref i2)
  o : ∃ c d, IsPair h TO c d
  t1 : h.IsTupleIter i1 a i
  t2 : h.IsTupleIter i2 b i
theorem turn_enumZ {P : Program} {w : World} {K : PySem.W.Frag} {elts : List Expr} {kk : Nat} {tpos : Pos} {a b e z TI TO i1 i2 : Addr} (D : ZipApart z TI TO i1 i2 a b) (n1 : e ≠ z) (n2 : e ≠ TO) (n3 : e ≠ i1) (n4 : e ≠ i2) (n5 : e ≠ TI) :
    Turn P w K (.Tuple elts kk tpos) (IteZ K a b) [e, z, TI, TO, i1, i2] e (EzAt a b e z TI TO i1 i2) where
  mem := by simp
  obj := fun i h here c hc => by
    obtain ⟨⟨prev, he⟩, ⟨own, f, hz, _⟩, hp, ⟨c', d', ho⟩, ⟨o1, e1, _, d1⟩, ⟨o2, e2, _, d2⟩⟩ := here
    have e' : c = e ∨ c = z ∨ c = TI ∨ c = TO ∨ c = i1 ∨ c = i2 := by simpa using hc
    rcases e' with q | q | q | q | q | q
    · rw [q]; exact ⟨_, he, fun v q => nomatch q⟩
    · rw [q]; exact ⟨_, hz, fun v q => nomatch q⟩
    · rw [q]; exact ⟨_, hp, fun v q => nomatch q⟩
    · rw [q]; exact ⟨_, ho, fun v q => nomatch q⟩
    · rw [q]; exact ⟨o1, e1, fun v q => by rw [d1] at q; cases q⟩
    · rw [q]; exact ⟨o2, e2, fun v q => by rw [d2] at q; cases q⟩
  keep := fun i h h' here k => by
    obtain ⟨⟨prev, he⟩, ⟨own, f, hz, oo⟩, hp, ⟨c', d', ho⟩, h1, h2⟩ := here
    exact ⟨⟨prev, k e (by simp) _ he⟩, ⟨own, f, k z (by simp) _ hz, oo⟩, k TI (by simp) _ hp, ⟨c', d', k TO (by simp) _ ho⟩, h1.at fun o q => k i1 (by simp) o q, h2.at fun o q => k i2 (by simp) o q⟩
  item := by
    intro X hP hw hK wc i pins s σ H E I fp here got
    subst hP hw hK
    obtain ⟨⟨prev, he⟩, ⟨own, f, hz, oo⟩, hp, ⟨c', d', ho⟩, h1, h2⟩ := here
    obtain ⟨xs, ys, x, y, qx, qy, hx, hy⟩ := got
    obtain ⟨its, rv, p1, _⟩ := I.tuple qx
    obtain ⟨its2, rv2, p2, _⟩ := I.tuple qy
    obtain ⟨u, hu, ru⟩ := rv.get hx
    obtain ⟨u2, hu2, ru2⟩ := rv2.get hy
    have el : e < s.heap.objs.size := Heap.lt_size he
    have small : ∀ c ∈ [e, z, TI, TO, i1, i2], c < s.heap.objs.size := fun c hc => by
      have e' : c = e ∨ c = z ∨ c = TI ∨ c = TO ∨ c = i1 ∨ c = i2 := by simpa using hc
      rcases e' with q | q | q | q | q | q
      · rw [q]; exact el
      · rw [q]; exact Heap.lt_size hz
      · rw [q]; exact Heap.lt_size hp
      · rw [q]; exact Heap.lt_size ho
      · rw [q]; obtain ⟨_, e1, _⟩ := h1; exact Heap.lt_size e1
      · rw [q]; obtain ⟨_, e2, _⟩ := h2; exact Heap.lt_size e2
    refine ez_item D he hz oo n1 n2 n3 n4 n5 hp ho h1 h2 p1 p2 (x := u) (y := u2) (by simpa using hu) (by simpa using hu2) fun g g' tk own' f' c2 d2 v pn size keep up en z' oo' po a1 a2 ⟨tt, pT⟩ => ?_
    refine ⟨_, rfl, wpAny_letOwnedTupleGo_enum (s := { s with heap := g', toks := tk }) en fun g2 e2 only => ?_⟩
    have up2 : ∀ c o, c ≠ e → g'.get? c = some o → g2.get? c = some o := fun c o n h => (only.2 c n).trans h
    have I1 : Inv X pins σ (upd H s.heap.objs.size (.tup [x, y])) { s with heap := g, toks := s.toks } :=
      I.turnedNew (ch := [e, z, TI, TO, i1, i2]) (fun c o hb q => keep c o (fun q' => hb (by simp [q'])) (fun q' => hb (by simp [q'])) (fun q' => hb (by simp [q'])) (fun q' => hb (by simp [q'])) q) fp (Nat.le_refl _)
        ⟨by show 2 ≤ sizeLine; decide, [u, u2], .cons ru (.cons ru2 .nil), ⟨_, pn, rfl, _, rfl⟩⟩
    have fp1 : ∀ c ∈ [e, z, TI, TO, i1, i2], FpOk X pins (upd H s.heap.objs.size (.tup [x, y])) c := fun c hc => ⟨by rw [upd_ne (Nat.ne_of_lt (small c hc))]; exact (fp c hc).1, (fp c hc).2⟩
    have hT : upd H s.heap.objs.size (.tup [x, y]) (s.heap.objs.size + 1) = none := I1.hok.fresh (by show g.objs.size ≤ _; rw [size]; exact Nat.le_refl _)
    have pT2 : IsPair g2 (s.heap.objs.size + 1) (.int i tt) (.ref s.heap.objs.size) := up2 _ _ (Nat.ne_of_gt (Nat.lt_succ_of_lt el)) pT
    have I2 : Inv X pins σ (upd (upd H s.heap.objs.size (.tup [x, y])) (s.heap.objs.size + 1) (.tup [.int (i : Nat), .ref s.heap.objs.size])) { s with heap := g2, toks := tk } :=
      I1.turnedNew (t' := tk) (ch := [e]) (fun c o hb q => up2 c o (fun q' => hb (by simp [q'])) (up c o (fun q' => hb (by simp [q'])) q)) (fun c hc => fp1 c (by rw [List.mem_singleton.mp hc]; simp)) (by show g.objs.size ≤ _; rw [size]; exact Nat.le_refl _)
        ⟨by show 2 ≤ sizeLine; decide, [.int i tt, .ref s.heap.objs.size], .cons ⟨_, rfl⟩ (.cons rfl .nil), ⟨_, pT2, rfl, _, rfl⟩⟩
    refine ⟨.ref (s.heap.objs.size + 1), _, I2, rfl, ⟨s.heap.objs.size, _, x, y, rfl, I.hok.fresh (Nat.le_refl _), hT, rfl, fun l hl => by rw [I.tuple_inj hl qx]; exact hx, fun l hl => by rw [I.tuple_inj hl qy]; exact hy⟩, ⟨⟨v, ?_⟩, ⟨own', f', up2 _ _ (Ne.symm n1) z', oo'⟩, up2 _ _ (Ne.symm n5) (up _ _ (Ne.symm n5) (keep _ _ D.TIz D.TITO D.TIi1 D.TIi2 hp)), ⟨c2, d2, up2 _ _ (Ne.symm n2) po⟩, a1.at fun o q => up2 _ o (Ne.symm n3) q, a2.at fun o q => up2 _ o (Ne.symm n4) q⟩, fun c hc => ?_⟩
    · have up1 : ((i + 1 : Nat) : Int) = (i : Int) + 1 := by omega
      rw [up1]; exact e2
    · have lt := small c hc
      rw [upd_ne (Nat.ne_of_lt (Nat.lt_succ_of_lt lt)), upd_ne (Nat.ne_of_lt lt)]
      exact (fp c hc).1
  done := by
    intro X hP hw hK wc i pins s σ H E I fp here got
    subst hP hw hK
    obtain ⟨⟨prev, he⟩, ⟨own, f, hz, oo⟩, hp, ⟨c', d', ho⟩, h1, h2⟩ := here
    obtain ⟨xs, ys, qx, qy, ends⟩ := got
    obtain ⟨its, rv, p1, _⟩ := I.tuple qx
    obtain ⟨its2, rv2, p2, _⟩ := I.tuple qy
    have l1 := rv.length
    have l2 := rv2.length
    have en : its.toArray[i]? = none ∨ its2.toArray[i]? = none := by
      rcases ends with q | q
      · exact .inl (by simp; omega)
      · exact .inr (by simp; omega)
    exact ez_end (I.ok.hd wc) D he hz oo hp ho h1 h2 p1 p2 en fun g keep => ⟨rfl, I.turnedL (t' := s.toks) (ch := [e, z, TI, TO, i1, i2]) (fun c o hb q =>
      keep c o (fun q' => hb (by simp [q'])) (fun q' => hb (by simp [q'])) (fun q' => hb (by simp [q'])) (fun q' => hb (by simp [q'])) q) fp⟩
  self := fun A i s Q E here h => let ⟨_, he⟩ := here.e; wpAny_pyIter_enum he h
def iEnumZ (K : PySem.W.Frag) (ta : TA) : TI := fun σ H R => ta σ H fun vs H1 => ∃ a b xs ys, vs = [.ref a, .ref b] ∧ SqT K H1 a xs ∧ SqT K H1 b ys ∧ R (IteZ K a b) H1
theorem pi_enumZ {X : Cx} {e e2 : Expr} {ta : TA} {p p2 pos pos2 tpos : Pos} {elts : List Expr} {kk : Nat} (g1 : Gl X "enumerate") (m1 : X.mg "enumerate" = none) (g2 : Gl X "zip") (m2 : X.mg "zip" = none) (ha : PA X [e, e2] ta)
    (hs : starEach [e, e2] X.env = (false, eval e X.env) :: starEach [e2] X.env := by rfl) (hpl : (backTo pos2 (starEach [e2] X.env)).any (·.1) = false := by rfl)
    (hs1 : starEach [Expr.Call (.Name "zip" p2) [e, e2] [] pos2] X.env = [(false, eval (.Call (.Name "zip" p2) [e, e2] [] pos2) X.env)] := by rfl) :
    PI X (.Tuple elts kk tpos) (.Call (.Name "enumerate" p) [.Call (.Name "zip" p2) [e, e2] [] pos2] [] pos) (iEnumZ X.K ta) := by
  refine ⟨fun pins s σ H R I h => ?_⟩
  refine Call_ (ld_blt I g1 m1 boot_enumerate (PyProof.Rows.callWith_type1 ?_ hs1 rfl))
  rw [hs1]
  show wpAny _ _ (spliced [(false, eval (.Call (.Name "zip" p2) [e, e2] [] pos2) X.env)]) _ _ s
  refine Calls.spliced_cons ?_
  refine Call_ (ld_blt I g2 m2 PyProof.Rows.boot_zip (PyProof.Rows.callWith_type1 (thn (ha.run pos2 pins s σ H _ I h) fun us s1 ⟨vs, H1, I1, r1, q1⟩ => ?_) hs hpl))
  obtain ⟨a, b, xs, ys, ex, qx, qy, q⟩ := q1
  subst ex
  cases r1 with
  | cons r rr =>
    cases rr with
    | cons r' rr =>
      cases rr
      cases r
      cases r'
      obtain ⟨its, rv, p1, _⟩ := I1.tuple qx
      obtain ⟨its2, rv2, p2', _⟩ := I1.tuple qy
      obtain ⟨o1, ho1, _⟩ := id p1
      obtain ⟨o2, ho2, _⟩ := id p2'
      refine call_zipT (show s1.heap.IsTuple a its.toArray from p1) (show s1.heap.IsTuple b its2.toArray from p2') fun g hz hTI hTO t1 t2 hsz hk => ?_
      refine Calls.spliced_nil ?_
      refine call_enumerate_zip (s := { s1 with heap := g }) hz fun g2 he hk2 => wpAny_pyIter_enum he ?_
      have I2 : Inv X pins σ H1 { s1 with heap := g2 } := I1.kept (t' := s1.toks) fun c o q => hk2 c o (hk c o q)
      have above : ∀ c, s1.heap.objs.size ≤ c → FpOk X pins H1 c := fun c hle => I1.fpOk hle (I1.hok.fresh hle)
      dsimp only at he hk2
      rw [hsz] at he ⊢
      refine ⟨s1.heap.objs.size + 5, [s1.heap.objs.size + 5, s1.heap.objs.size + 4, s1.heap.objs.size + 2, s1.heap.objs.size + 3, s1.heap.objs.size, s1.heap.objs.size + 1], _, _, H1, rfl, I2,
        turn_enumZ (PySem.W.ktu_apart s1.heap.objs.size a b (Heap.lt_size ho1) (Heap.lt_size ho2)) (by intro z; exact absurd (Nat.add_left_cancel z) (by decide)) (by intro z; exact absurd (Nat.add_left_cancel z) (by decide)) (Nat.ne_of_gt (Nat.lt_add_of_pos_right (by decide))) (by intro z; exact absurd (Nat.add_left_cancel z) (by decide)) (by intro z; exact absurd (Nat.add_left_cancel z) (by decide)),
        ⟨⟨.none, he⟩, ⟨.none, false, hk2 _ _ hz, .inl rfl⟩, hk2 _ _ hTI, ⟨_, _, hk2 _ _ hTO⟩, t1.at fun o q => hk2 _ o q, t2.at fun o q => hk2 _ o q⟩, fun c hc => ?_, q⟩
      have e' : c = s1.heap.objs.size + 5 ∨ c = s1.heap.objs.size + 4 ∨ c = s1.heap.objs.size + 2 ∨ c = s1.heap.objs.size + 3 ∨ c = s1.heap.objs.size ∨ c = s1.heap.objs.size + 1 := by simpa using hc
      rcases e' with z | z | z | z | z | z <;> rw [z] <;> exact above _ (by first | exact Nat.le_add_right _ _ | exact Nat.le_refl _)
/-- the turns of such a loop -/
theorem for_enumZ {K : PySem.W.Frag} {a b : Addr} {xs ys : List V} {g : TG} {tb : TS} {D : Ends} {σ : L2.St} {H : Hp} (hl : xs.length = ys.length) (Pv : Nat → L2.St → Hp → Prop) (h0 : Pv 0 σ H) (hq : ∀ i σ H, Pv i σ H → SqT K H a xs ∧ SqT K H b ys)
    (hs : ∀ (i : Nat) (x y : V) (Pp T : Addr) (σ : L2.St) (H : Hp), xs[i]? = some x → ys[i]? = some y → Pv i σ H → H Pp = none → upd H Pp (.tup [x, y]) T = none →
      g (.ref T) σ (upd (upd H Pp (.tup [x, y])) T (.tup [.int (i : Nat), .ref Pp])) fun σ2 H2 => tb { D with nx := Pv (i + 1), ct := Pv (i + 1), bk := D.nx } σ2 H2)
    (hd : ∀ σ H, Pv xs.length σ H → D.nx σ H) : ForB (IteZ K a b) g tb D σ H := by
  refine ⟨fun i m σ H => m = xs.length - i ∧ i ≤ xs.length ∧ Pv i σ H, ⟨xs.length, rfl, Nat.zero_le _, h0⟩, ?_⟩
  rintro i m σ H ⟨rfl, hi, p⟩
  obtain ⟨qx, qy⟩ := hq i σ H p
  by_cases lt : i < xs.length
  · have hx : xs[i]? = some xs[i] := List.getElem?_eq_getElem lt
    have hy : ys[i]? = some (ys[i]'(by omega)) := List.getElem?_eq_getElem (by omega)
    refine .inr ⟨⟨xs, ys, _, _, qx, qy, hx, hy⟩, Pv (i + 1), fun σ' H' p' => ⟨xs.length - (i + 1), by omega, rfl, lt, p'⟩, fun v H' y => ?_⟩
    obtain ⟨Pp, T, x', y', rfl, hP, hT, rfl, f1, f2⟩ := y
    exact hs i x' y' Pp T σ H (f1 xs qx) (f2 ys qy) p hP hT
  · have e : i = xs.length := by omega
    subst e
    exact .inl ⟨⟨xs, ys, qx, qy, .inl (Nat.le_refl _)⟩, hd σ H p⟩
end Vf

namespace Vf
open PySem L2 PySem.Spec PyProof.Rows He RZ
/-! max(xs): xs a list of references to data of one form -/
structure MdK (K : PySem.W.Frag) (H : Hp) (a : Addr) (ps : List Addr) (kd : Nat → PyData) : Prop where
  lst : SqL K H a (ps.map V.ref)
  dp : ∀ i p, ps[i]? = some p → Dp K H (.ref p) (kd i)
  alk : ∀ i j, i < ps.length → j < ps.length → PySem.W.alike (kd i) (kd j) = true
  nn : ∀ i, i < ps.length → kd i ≠ .none
  dep : ∀ i, i < ps.length → (kd i).depth ≤ 60
section
variable {X : Cx} {a : Addr} {pins : List (Addr × Obj)} {σ : L2.St} {ps : List Addr} {kd : Nat → PyData} {H : Hp} {S it : Addr} {R : Result → Shared → Prop}
theorem md_loop (hc : X.calm = true) (hu : X.A.units + 64 < cLine) (M : MdK X.K H a ps kd) (fS : FpOk X pins H S) (fI : FpOk X pins H it) (ne : S ≠ it) :
    ∀ (m j : Nat) (s : Shared) (p : Addr) (c : Nat), ps.length - (j + 1) = m → j + 1 ≤ ps.length → Inv X pins σ H s → ps[argBest (mxB kd) j]? = some p → s.heap.get? S = some (mxS (.ref p) (.ref p) c) → s.heap.IsListIter it a (j + 1) →
    (∀ (s' : Shared) (p : Addr), Inv X pins σ H s' → ps[argBest (mxB kd) (ps.length - 1)]? = some p → R (.ok (.ret (.ref p))) s') → codeAny (model X.prog X.w) X.A (.builtin "max.loop" ⟨[.ref it, .none, .ref S], []⟩) R s := by
  have hname : (toString "max" ++ toString ".loop" : String) = "max.loop" := by decide
  intro m
  induction m with
  | zero =>
    intro j s p c hm hj I hp hS st hR
    obtain ⟨its, rv, pl, hz⟩ := I.list M.lst
    have hl := rv.length
    rw [List.length_map] at hl
    refine codeAny_builtin PySem.F.entry_max_loop ?_
    rw [Around.under_plainId PySem.F.plain_max_loop _]
    show wpAny _ X.A.in1 (seqItems? (.ref S) >>= _) _ _ s
    refine wpAny_bind (wpAny_seqItems hS rfl ?_)
    refine wpAny_bind (wpAny_tryCatch ?_)
    refine wpAny_pyNext_list_end (I.ok.hd hc) st pl.isList (by simp; omega) fun h' eb => ?_
    have I1 : Inv X pins σ H { s with heap := h' } := I.turned (t' := s.toks) (fun b o hb e => eb b o hb e) fI.1 fI.2.1 fI.2.2.2.1 fI.2.2.2.2.1 fI.2.2.2.2.2
    have hS' : ({ s with heap := h' } : Shared).heap.get? S = some (mxS (.ref p) (.ref p) c) := eb S _ ne hS
    show wpAny _ X.A.in1 (updateSeq S (fun _ => #[]) >>= _) _ _ _
    refine wpAny_bind (wpAny_updateSeq hS' rfl (wpAny_bind (wpAny_letGo (wpAny_pure ?_))))
    have I2 := I1.turned (it := S) (t' := s.toks) (h' := h'.update S (Obj.mapSeq fun _ => #[])) (fun b o hb e => (Heap.get?_update_other _ _ (Ne.symm hb)).trans e) fS.1 fS.2.1 fS.2.2.2.1 fS.2.2.2.2.1 fS.2.2.2.2.2
    refine hR _ p I2 ?_
    rw [show ps.length - 1 = j from by omega]
    exact hp
  | succ m ih =>
    intro j s p c hm hj I hp hS st hR
    obtain ⟨its, rv, pl, hz⟩ := I.list M.lst
    have hlt : j + 1 < ps.length := by omega
    have hx : ps[j + 1]? = some ps[j + 1] := List.getElem?_eq_getElem hlt
    obtain ⟨u, hu1, ru⟩ := rv.get (i := j + 1) (x := .ref ps[j + 1]) (by rw [List.getElem?_map, hx]; rfl)
    cases ru
    generalize ps[j + 1] = q at hx hu1
    refine codeAny_builtin PySem.F.entry_max_loop ?_
    rw [Around.under_plainId PySem.F.plain_max_loop _]
    show wpAny _ X.A.in1 (seqItems? (.ref S) >>= _) _ _ s
    refine wpAny_bind (wpAny_seqItems hS rfl ?_)
    refine wpAny_bind (wpAny_tryCatch ?_)
    refine wpAny_pyNext_list_item st pl.isList (x := .ref q) (by simpa using hu1) fun h' st' sb => ?_
    have I1 : Inv X pins σ H { s with heap := h' } := I.turned (t' := s.toks) (fun b o hb e => (sb.2 b hb).trans e) fI.1 fI.2.1 fI.2.2.2.1 fI.2.2.2.2.1 fI.2.2.2.2.2
    have hS' : ({ s with heap := h' } : Shared).heap.get? S = some (mxS (.ref p) (.ref p) c) := (sb.2 S ne).trans hS
    have hbl := argBest_lt (mxB kd) j
    obtain ⟨as1, r1⟩ := Dp.reads I1 _ _ _ (M.dp _ _ hx) rfl
    obtain ⟨as2, r2⟩ := Dp.reads I1 _ _ _ (M.dp _ _ hp) rfl
    refine wpAny_bind (wpAny_pure ?_)
    refine wpAny_bind (wpAny_tryCatch (wpAny_holding (wpAny_bind (PySem.W.gt_data r1 r2 (M.alk _ _ hlt (by omega)) (M.nn _ hlt) (by
      have h1 := Nat.min_le_left (kd (j + 1)).depth (kd (argBest (mxB kd) j)).depth
      have h2 := M.dep _ hlt
      show X.A.units + 1 + _ < _
      omega) ?_))))
    refine wpAny_bind (wpAny_holding (wpAny_truthy_bool ?_))
    refine wpAny_bind (wpAny_letGo (wpAny_pure ?_))
    have eB : argBest (mxB kd) (j + 1) = if PySem.W.dataLt (kd (argBest (mxB kd) j)) (kd (j + 1)) = true then j + 1 else argBest (mxB kd) j := rfl
    cases hcmp : PySem.W.dataLt (kd (argBest (mxB kd) j)) (kd (j + 1)) with
    | true =>
      rw [hcmp, if_pos rfl] at eB
      simp only [if_true]
      refine wpAny_bind (wpAny_updateSeq hS' rfl (wpAny_bind (wpAny_letGo ?_)))
      rw [hname]
      refine wpAny_pure ⟨plainId_quiet PySem.F.plain_max_loop _, ih (j + 1) _ q c (by omega) hlt ?_ (by rw [eB]; exact hx) ?_ (st'.at fun o e => ?_) hR⟩
      · exact I1.turned (it := S) (t' := s.toks) (fun b o hb e => (Heap.get?_update_other _ _ (Ne.symm hb)).trans e) fS.1 fS.2.1 fS.2.2.2.1 fS.2.2.2.2.1 fS.2.2.2.2.2
      · exact Heap.get?_update_self _ hS' rfl
      · exact (Heap.get?_update_other _ _ ne).trans e
    | false =>
      rw [hcmp, if_neg Bool.false_ne_true] at eB
      simp only [Bool.false_eq_true, if_false]
      refine wpAny_bind (wpAny_letGo ?_)
      rw [hname]
      exact wpAny_pure ⟨plainId_quiet PySem.F.plain_max_loop _, ih (j + 1) _ p c (by omega) hlt I1 (by rw [eB]; exact hp) hS' st' hR⟩
/-- the first of the best -/
def rMaxD (K : PySem.W.Frag) : List V → Hp → VK → Prop := fun vs H Q => ∃ (a : Addr) (ps : List Addr) (kd : Nat → PyData), vs = [.ref a] ∧ 0 < ps.length ∧ MdK K H a ps kd ∧ ∀ p, ps[mxI kd ps.length]? = some p → Q (.ref p) H
theorem cr_maxD (hc : X.calm = true) (hu : X.A.units + 64 < cLine) : CallR X (.builtin "max") (rMaxD X.K) := by
  intro pins s σ H vs us Q I r hq
  obtain ⟨a, ps, kd, rfl, hn, M, q⟩ := hq
  obtain rfl := Vals.ref1 r
  have hname : (toString "max" ++ toString ".loop" : String) = "max.loop" := by decide
  refine PyProof.Rows.kmk_tree PySem.F.kind_max PySem.F.plain_max PySem.F.entry_max (by unfold argsOk; kernel_rfl) ?_
  refine wpAny_bind (wpAny_of_eq (a := [none, none]) (by rfl) ?_)
  refine wpAny_bind (wpAny_pure ?_)
  obtain ⟨its, rv, pl, hz⟩ := I.list M.lst
  refine wpAny_bind (wpAny_pyIter_list pl.isList ?_)
  have I1 : Inv X pins σ H { s with heap := s.heap.push { cls := .type "list_iterator", data := .fields #[.ref a, .int 0 0] } } := I.kept (t' := s.toks) fun b o e => Heap.get?_push_of_some _ e
  have fI : FpOk X pins H s.heap.objs.size := I.fpOk (Nat.le_refl _) (I.hok.fresh (Nat.le_refl _))
  have st0 : ({ s with heap := s.heap.push { cls := .type "list_iterator", data := .fields #[.ref a, .int 0 0] } } : Shared).heap.IsListIter s.heap.objs.size a 0 := ⟨_, Heap.get?_push_size _ rfl, rfl, rfl⟩
  generalize hs1 : ({ s with heap := s.heap.push { cls := .type "list_iterator", data := .fields #[.ref a, .int 0 0] } } : Shared) = s1 at I1 st0 ⊢
  have sz1 : s1.heap.objs.size = s.heap.objs.size + 1 := by rw [← hs1]; exact size_push' ..
  have fS : FpOk X pins H s1.heap.objs.size := I1.fpOk (Nat.le_refl _) (I1.hok.fresh (Nat.le_refl _))
  refine wpAny_bind (wpAny_newObj_type ?_)
  rw [hname]
  have I2 : Inv X pins σ H { s1 with heap := s1.heap.push { cls := .type "list", data := .seq #[] 0 } } := I1.kept (t' := s1.toks) fun b o e => Heap.get?_push_of_some _ e
  have hS : (s1.heap.push { cls := .type "list", data := .seq #[] 0 }).get? s1.heap.objs.size = some { cls := .type "list", data := .seq #[] 0 } := Heap.get?_push_size _ rfl
  have st1 := st0.at (h' := s1.heap.push { cls := .type "list", data := .seq #[] 0 }) fun o e => Heap.get?_push_of_some _ e
  have ne : s1.heap.objs.size ≠ s.heap.objs.size := fun z => by rw [sz1] at z; exact absurd z (Nat.succ_ne_self _)
  refine wpAny_pure ⟨plainId_quiet PySem.F.plain_max_loop _, ?_⟩
  generalize hs2 : ({ s1 with heap := s1.heap.push { cls := .type "list", data := .seq #[] 0 } } : Shared) = s2 at I2
  have hS2 : s2.heap.get? s1.heap.objs.size = some { cls := .type "list", data := .seq #[] 0 } := by rw [← hs2]; exact hS
  have st2 : s2.heap.IsListIter s.heap.objs.size a 0 := by rw [← hs2]; exact st1
  obtain ⟨its2, rv2, pl2, hz2⟩ := I2.list M.lst
  have hx : ps[0]? = some ps[0] := List.getElem?_eq_getElem hn
  obtain ⟨u, hu1, ru⟩ := rv2.get (i := 0) (x := .ref ps[0]) (by rw [List.getElem?_map, hx]; rfl)
  cases ru
  generalize ps[0] = b0 at hx hu1
  refine codeAny_builtin PySem.F.entry_max_loop ?_
  rw [Around.under_plainId PySem.F.plain_max_loop _]
  show wpAny _ X.A.in1 (seqItems? (.ref s1.heap.objs.size) >>= _) _ _ s2
  refine wpAny_bind (wpAny_seqItems hS2 rfl ?_)
  refine wpAny_bind (wpAny_tryCatch ?_)
  refine wpAny_pyNext_list_item st2 pl2.isList (x := .ref b0) (by simpa using hu1) fun h' st' sb => ?_
  have I3 : Inv X pins σ H { s2 with heap := h' } := I2.turned (t' := s2.toks) (fun b o hb e => (sb.2 b hb).trans e) fI.1 fI.2.1 fI.2.2.2.1 fI.2.2.2.2.1 fI.2.2.2.2.2
  have hS3 : ({ s2 with heap := h' } : Shared).heap.get? s1.heap.objs.size = some { cls := .type "list", data := .seq #[] 0 } := (sb.2 _ ne).trans hS2
  refine wpAny_bind (wpAny_pure ?_)
  refine wpAny_bind (wpAny_updateSeq hS3 rfl ?_)
  rw [hname]
  refine wpAny_pure ⟨plainId_quiet PySem.F.plain_max_loop _, md_loop hc hu M fS fI ne _ 0 _ b0 1 rfl hn ?_ hx ?_ (st'.at fun o e => ?_) fun s' p I' hp' => ⟨.ref p, H, I', rfl, q p hp'⟩⟩
  · exact I3.turned (it := s1.heap.objs.size) (t' := s2.toks) (fun b o hb e => (Heap.get?_update_other _ _ (Ne.symm hb)).trans e) fS.1 fS.2.1 fS.2.2.2.1 fS.2.2.2.2.1 fS.2.2.2.2.2
  · exact Heap.get?_update_self _ hS3 rfl
  · exact (Heap.get?_update_other _ _ ne).trans e
end
end Vf

namespace Vf
open PySem L2 PySem.Spec PyProof.Rows He RZ
/-! zip(xs, t), a list and a tuple -/
def ItzLT (K : PySem.W.Frag) (a b : Addr) : It :=
  ⟨fun i H => ∃ (xs ys : List V) (x y : V), SqL K H a xs ∧ SqT K H b ys ∧ xs[i]? = some x ∧ ys[i]? = some y,
   fun i H v H' => ∃ T x y, v = .ref T ∧ H T = none ∧ H' = upd H T (.tup [x, y]) ∧ (∀ xs, SqL K H a xs → xs[i]? = some x) ∧ ∀ ys, SqT K H b ys → ys[i]? = some y,
   fun i H => ∃ xs ys : List V, SqL K H a xs ∧ SqT K H b ys ∧ (xs.length = i ∨ ys.length = i) ∧ i ≤ xs.length ∧ i ≤ ys.length⟩
structure ZlAt (a b z TI TO i1 i2 : Addr) (i : Nat) (h : Heap) : Prop where
  z : IsZip h z TI TO .none
  p : IsTupOf2 h TI (.ref i1) (.ref i2)
  o : ∃ c d, IsTupOf2 h TO c d
  t1 : h.IsListIter i1 a i
  t2 : h.IsTupleIter i2 b i
theorem turn_zipLT {P : Program} {w : World} {K : PySem.W.Frag} {elts : List Expr} {kk : Nat} {tpos : Pos} {a b z TI TO i1 i2 : Addr} (D : ZipSep2 z TI TO i1 i2 [i1, a] [i2, b]) (na : a ≠ i1) (nb : b ≠ i2) :
    Turn P w K (.Tuple elts kk tpos) (ItzLT K a b) [z, TI, TO, i1, i2] z (ZlAt a b z TI TO i1 i2) where
  mem := by simp
  obj := fun i h here c hc => by
    obtain ⟨hz, hp, ⟨c', d', ho⟩, ⟨o1, e1, _, d1⟩, ⟨o2, e2, _, d2⟩⟩ := here
    have e' : c = z ∨ c = TI ∨ c = TO ∨ c = i1 ∨ c = i2 := by simpa using hc
    rcases e' with q | q | q | q | q
    · rw [q]; exact ⟨_, hz, fun v q => nomatch q⟩
    · rw [q]; exact ⟨_, hp, fun v q => nomatch q⟩
    · rw [q]; exact ⟨_, ho, fun v q => nomatch q⟩
    · rw [q]; exact ⟨o1, e1, fun v q => by rw [d1] at q; cases q⟩
    · rw [q]; exact ⟨o2, e2, fun v q => by rw [d2] at q; cases q⟩
  keep := fun i h h' here k => by
    obtain ⟨hz, hp, ⟨c', d', ho⟩, h1, h2⟩ := here
    exact ⟨k z (by simp) _ hz, k TI (by simp) _ hp, ⟨c', d', k TO (by simp) _ ho⟩, h1.at fun o q => k i1 (by simp) o q, h2.at fun o q => k i2 (by simp) o q⟩
  item := by
    intro X hP hw hK wc i pins s σ H E I fp here got
    subst hP hw hK
    obtain ⟨hz, hp, ⟨c', d', ho⟩, h1, h2⟩ := here
    obtain ⟨xs, ys, x, y, qx, qy, hx, hy⟩ := got
    obtain ⟨its, rv, p1, _⟩ := I.list qx
    obtain ⟨its2, rv2, p2, _⟩ := I.tuple qy
    obtain ⟨u, hu, ru⟩ := rv.get hx
    obtain ⟨u2, hu2, ru2⟩ := rv2.get hy
    have h0 : X.A.in1.handled = none := I.ok.hd wc
    have zl : z < s.heap.objs.size := Heap.lt_size hz
    have lt1 : i < its.toArray.size := by have := (List.getElem?_eq_some_iff.mp hu).1; simpa using this
    have lt2 : i < its2.toArray.size := by have := (List.getElem?_eq_some_iff.mp hu2).1; simpa using this
    refine wpAny_pyNext_zipD2_item D (Draws.list (A := X.A.in1) h0 i1 a na its.toArray) (Draws.tuple (A := X.A.in1) h0 i2 b nb its2.toArray) hz hp ho ⟨h1, p1.isList⟩ ⟨h2, p2⟩ lt1 lt2 fun x1 x2 g tk y1 y2 z' o' s1 s2 pT size keep => ?_
    have e1 : x1 = u := by
      have q1 : its[i]? = some x1 := by simpa using y1
      exact Option.some.inj (q1.symm.trans hu)
    have e2 : x2 = u2 := by
      have q1 : its2[i]? = some x2 := by simpa using y2
      exact Option.some.inj (q1.symm.trans hu2)
    subst e1 e2
    refine ⟨_, rfl, wpAny_letOwnedTupleGo_zip (s := { s with heap := g, toks := tk }) z' fun g2 z2 only => ?_⟩
    have up : ∀ c o, c ≠ z → g.get? c = some o → g2.get? c = some o := fun c o n h => (only.2 c n).trans h
    have pT2 : IsTupOf2 g2 s.heap.objs.size x1 x2 := up _ _ (Nat.ne_of_gt zl) pT
    have I1 : Inv X pins σ (upd H s.heap.objs.size (.tup [x, y])) { s with heap := g2, toks := tk } :=
      I.turnedNew (ch := [z, TI, TO, i1, i2]) (fun c o hb q => up c o (fun q' => hb (by simp [q'])) (keep c o (fun q' => hb (by simp [q'])) (fun q' => hb (by simp [q'])) (fun q' => hb (by simp [q'])) (fun q' => hb (by simp [q'])) q)) fp (Nat.le_refl _)
        ⟨by show 2 ≤ sizeLine; decide, [x1, x2], .cons ru (.cons ru2 .nil), ⟨_, pT2, rfl, _, rfl⟩⟩
    refine ⟨.ref s.heap.objs.size, _, I1, rfl, ⟨_, x, y, rfl, I.hok.fresh (Nat.le_refl _), rfl, fun l hl => by rw [I.list_inj hl qx]; exact hx, fun l hl => by rw [I.tuple_inj hl qy]; exact hy⟩, ⟨z2, up _ _ D.TIz (keep _ _ D.TIz D.TITO D.TIi1 D.TIi2 hp), ⟨x1, x2, up _ _ D.TOz o'⟩, s1.1.at fun o q => up _ o D.zi1.symm q, s2.1.at fun o q => up _ o D.zi2.symm q⟩, fun c hcm => ?_⟩
    have lt : c < s.heap.objs.size := by
      have e' : c = z ∨ c = TI ∨ c = TO ∨ c = i1 ∨ c = i2 := by simpa using hcm
      rcases e' with q | q | q | q | q
      · rw [q]; exact zl
      · rw [q]; exact Heap.lt_size hp
      · rw [q]; exact Heap.lt_size ho
      · rw [q]; obtain ⟨_, e1, _⟩ := h1; exact Heap.lt_size e1
      · rw [q]; obtain ⟨_, e2, _⟩ := h2; exact Heap.lt_size e2
    rw [upd_ne (Nat.ne_of_lt lt)]
    exact (fp c hcm).1
  done := by
    intro X hP hw hK wc i pins s σ H E I fp here got
    subst hP hw hK
    obtain ⟨hz, hp, ⟨c', d', ho⟩, h1, h2⟩ := here
    obtain ⟨xs, ys, qx, qy, en, le1, le2⟩ := got
    obtain ⟨its, rv, p1, _⟩ := I.list qx
    obtain ⟨its2, rv2, p2, _⟩ := I.tuple qy
    have l1 := rv.length
    have l2 := rv2.length
    have h0 : X.A.in1.handled = none := I.ok.hd wc
    refine wpAny_pyNext_zipD2_end D (Draws.list (A := X.A.in1) h0 i1 a na its.toArray) (Draws.tuple (A := X.A.in1) h0 i2 b nb its2.toArray) hz hp ho ⟨h1, p1.isList⟩ ⟨h2, p2⟩ (by simp; omega) (by simp; omega) (by simp; omega) fun g tk keep => ⟨rfl, ?_⟩
    exact I.turnedL (t' := tk) (ch := [z, TI, TO, i1, i2]) (fun c o hb q => keep c o (fun q' => hb (by simp [q'])) (fun q' => hb (by simp [q'])) (fun q' => hb (by simp [q'])) (fun q' => hb (by simp [q'])) q) fp
  self := fun A i s Q E here h => wpAny_pyIter_zip here.z h
def iZipLT (K : PySem.W.Frag) (ta : TA) : TI := fun σ H R => ta σ H fun vs H1 => ∃ a b xs ys, vs = [.ref a, .ref b] ∧ SqL K H1 a xs ∧ SqT K H1 b ys ∧ R (ItzLT K a b) H1
theorem pi_zipLT {X : Cx} {e e2 : Expr} {ta : TA} {p pos tpos : Pos} {elts : List Expr} {kk : Nat} (hg : Gl X "zip") (hm : X.mg "zip" = none) (ha : PA X [e, e2] ta)
    (hs : starEach [e, e2] X.env = (false, eval e X.env) :: starEach [e2] X.env := by rfl) (hpl : (backTo pos (starEach [e2] X.env)).any (·.1) = false := by rfl) :
    PI X (.Tuple elts kk tpos) (.Call (.Name "zip" p) [e, e2] [] pos) (iZipLT X.K ta) := by
  refine ⟨fun pins s σ H R I h => ?_⟩
  refine Call_ (ld_blt I hg hm PyProof.Rows.boot_zip (PyProof.Rows.callWith_type1 (thn (ha.run pos pins s σ H _ I h) fun us s1 ⟨vs, H1, I1, r1, q1⟩ => ?_) hs hpl))
  obtain ⟨a, b, xs, ys, ex, qx, qy, q⟩ := q1
  subst ex
  cases r1 with
  | cons r rr =>
    cases rr with
    | cons r' rr =>
      cases rr
      cases r
      cases r'
      obtain ⟨its, rv, p1, _⟩ := I1.list qx
      obtain ⟨its2, rv2, p2, _⟩ := I1.tuple qy
      have la : a < s1.heap.objs.size := p1.lt
      obtain ⟨o2, ho2, _⟩ := id p2
      have lb : b < s1.heap.objs.size := Heap.lt_size ho2
      refine zip_begins2 (begins_list a its.toArray) (begins_tuple b its2.toArray) p1.isList p2 fun g hz hTI hTO g1 g2 size hk => wpAny_pyIter_zip hz ?_
      have I2 : Inv X pins σ H1 { s1 with heap := g } := I1.kept (t' := s1.toks) hk
      refine ⟨s1.heap.objs.size + 4, [s1.heap.objs.size + 4, s1.heap.objs.size + 2, s1.heap.objs.size + 3, s1.heap.objs.size, s1.heap.objs.size + 1], _, _, H1, rfl, I2,
        turn_zipLT (a := a) (b := b) (zip_sep2 (fp1 := [a]) (fp2 := [b]) (fun c hc => by rw [List.mem_singleton.mp hc]; exact la) (fun c hc => by rw [List.mem_singleton.mp hc]; exact lb)) (Nat.ne_of_lt la) (Nat.ne_of_lt (Nat.lt_succ_of_lt lb)),
        ⟨hz, hTI, ⟨_, _, hTO⟩, ⟨_, g1, rfl, rfl⟩, ⟨_, g2, rfl, rfl⟩⟩, fun c hc => ?_, q⟩
      have e' : c = s1.heap.objs.size + 4 ∨ c = s1.heap.objs.size + 2 ∨ c = s1.heap.objs.size + 3 ∨ c = s1.heap.objs.size ∨ c = s1.heap.objs.size + 1 := by simpa using hc
      have above : s1.heap.objs.size ≤ c := by rcases e' with z | z | z | z | z <;> rw [z] <;> first | exact Nat.le_add_right _ _ | exact Nat.le_refl _
      exact I1.fpOk above (I1.hok.fresh above)
theorem walk_zipLT {K : PySem.W.Frag} {a b : Addr} {xs ys : List V} (hl : xs.length = ys.length) : Walk (ItzLT K a b) xs.length (fun H => SqL K H a xs ∧ SqT K H b ys) (YPair (fun i => xs[i]?) (fun i => ys[i]?)) := by
  refine ⟨fun i H hi q => ⟨xs, ys, xs[i], ys[i]'(by omega), q.1, q.2, List.getElem?_eq_getElem hi, List.getElem?_eq_getElem (by omega)⟩, fun H q => ⟨xs, ys, q.1, q.2, .inl rfl, Nat.le_refl _, by omega⟩, fun i H v H' hi q y => ?_⟩
  obtain ⟨T, x, y, g1, g2, g3, g4, g5⟩ := y
  exact ⟨T, x, y, g1, g2, g3, g4 xs q.1, g5 ys q.2⟩
end Vf

namespace Vf
open PySem L2 PySem.Spec PyProof.Rows He RZ
/-! x != y by the class's own __eq__: object's __ne__ asks it and turns the answer -/
def rNeO (K : PySem.W.Frag) (C : Addr) (sp : Sp) (E : XK) : R2 := fun x y H Q => ∃ (a b dx dy : Addr) (fs gs : List (Str × V)), x = .ref a ∧ y = .ref b ∧ H a = some (.ins C dx fs) ∧ H b = some (.ins C dy gs) ∧ sp [x, y] H (fun z H' => ∃ t, z = .bl t ∧ Q (.bl (!t)) H') E
theorem ne_bind (self : Value) : bindSpecial (.builtin "object.__ne__") self = pure (.builtin "object.__ne__", [self]) :=
  (Slot.of (T := "object") (name := "__ne__") (owner := "object") (n := "__ne__") (by rw [typeLookup_type, builtinLookup_eq_fast]; kernel_rfl) (by decide +kernel) (by decide +kernel) (by decide +kernel)
    (.inl (by decide +kernel)) (by rw [isSubtype_type]; kernel_rfl)).bind self
theorem op_neOwn {X : Cx} {C f : Addr} {fd : FuncData} {ps : List Str} {sp : Sp} {n : Nat} (F : FnOk X.prog X.w X.K X.mg X.base CX0 n f fd ps sp)
    (hs : PySem.W.findIn X.K (.ref C) "__eq__" = some (some (.ref f))) (hf : PySem.W.isFn X.K (.ref f) = true) (hb : Binds X.K fd ps [])
    (hn : PySem.W.findIn X.K (.ref C) "__ne__" = some (some (.builtin "object.__ne__"))) (ho : PySem.W.mroIn X.K C (.type "object") = some true) (hr : Room (n + 1) X.A) : OpR X (compareOp .NotEq) (rNeO X.K C sp E0) := by
  intro pins s σ H x y v u Q I rx ry q
  obtain ⟨a, b, dx, dy, fs, gs, rfl, rfl, ha, hy, hsp⟩ := q
  cases rx
  cases ry
  obtain ⟨mA, J, _⟩ := ins_get I.hok ha
  obtain ⟨od, J, _⟩ := J.look
  obtain ⟨mB, J', _⟩ := ins_get I.hok hy
  obtain ⟨od', J', _⟩ := J'.look
  have KI : X.K.In s.heap := I.kIn
  have sub : PySem.W.Looks (model X.prog X.w) s.heap (isInstance (.ref a) (.type "object")) true := J.type.andThen (PySem.W.looks_mroIn KI ho)
  have run : ∀ {Q' : Value → Shared → Prop}, (∀ t s', (∃ H', Inv X pins σ H' s' ∧ Q (.bl (!t)) H') → Q' (.bool t) s') → wpAny (model X.prog X.w) X.A.in1 (call (.ref f) [.ref a, .ref b]) Q' X.xe s := fun {Q'} h =>
    run_in F hb hr.in1 rfl I (vs := [.ref a, .ref b]) (.cons rfl (.cons rfl .nil)) hsp fun w s' ⟨z, H', I', rz, t, ez, hQ⟩ => by
      subst ez
      cases rz
      exact h t s' ⟨H', I', hQ⟩
  have ib : wpAny (model X.prog X.w) X.A (callSpecialIfBound? (.ref a) "__ne__" [.ref b]) (fun r s' => ∃ t, r = some (.bool (!t)) ∧ ∃ H', Inv X pins σ H' s' ∧ Q (.bl (!t)) H') X.xe s := by
    simp only [callSpecialIfBound?, bindSpecialIfBound?]
    refine wpAny_holding (wpAny_bind (wpAny_bind (wpAny_bind (J.type.here ((PySem.W.looks_findIn KI hn).here ?_)))))
    have fin : wpAny (model X.prog X.w) X.A (call (.builtin "object.__ne__") ([.ref a] ++ [.ref b]) >>= fun v => pure (some v)) (fun r s' => ∃ t, r = some (.bool (!t)) ∧ ∃ H', Inv X pins σ H' s' ∧ Q (.bl (!t)) H') X.xe s := by
      refine wpAny_bind ?_
      refine wpAny_call (codeAny_call_builtin (by decide +kernel) PySem.F.cmpEntry_ne (@PySem.W.check_slot (model X.prog X.w) _ _ s "object.__ne__" "object" "__ne__" (.ref a) [.ref b] [] _ PySem.F.cmpKind_ne PySem.F.cmpSplit_ne sub (PySem.F.cmpArgs_ne _ _) ?_))
      unfold Builtin.«object.__ne__»
      refine wpAny_bind (wpAny_of_eq (a := (Value.ref a, [Value.ref b])) (by rfl) ?_)
      dsimp only
      refine wpAny_bind (wpAny_cRoomFor (by have := hr.un; show X.A.units + 1 < _; omega) ?_)
      refine wpAny_bind (PySem.W.ifBound_K KI J hs hf (run fun t s' h => ?_))
      dsimp only
      refine wpAny_bind (wpAny_truthy_bool ?_)
      exact wpAny_pure (wpAny_pure ⟨t, rfl, h⟩)
    refine wpAny_bind (wpAny_askSetting (wpAny_ite ?_))
    split
    · exact wpAny_bind (wpAny_of_eq (ne_bind _) (wpAny_pure (by exact fin)))
    · exact wpAny_tryCatch (wpAny_bind (wpAny_of_eq (ne_bind _) (wpAny_pure (by exact fin))))
  have one : wpAny (model X.prog X.w) X.A (tryCompare (.ref a) "__ne__" (.ref b)) (fun r s' => ∃ t, r = some (.bool (!t)) ∧ ∃ H', Inv X pins σ H' s' ∧ Q (.bl (!t)) H') X.xe s := by
    unfold tryCompare
    refine wpAny_bind (wpAny_mono ib (fun r s' z => ?_) fun _ _ e => e)
    obtain ⟨t, rfl, h⟩ := z
    exact wpAny_pure ⟨t, rfl, h⟩
  show wpAny _ _ (richCompare .NotEq (.ref a) (.ref b)) _ _ s
  unfold richCompare
  simp only [oneThing_ref]
  refine wpAny_holding (wpAny_bind (wpAny_cRoomFor (by have := hr.un; omega) ?_))
  refine wpAny_bind (J.type.here (wpAny_bind (J'.type.here ?_)))
  rw [show (Value.ref C != Value.ref C) = false from by simp]
  simp only [Bool.false_eq_true, if_false]
  refine wpAny_bind (wpAny_pure ?_)
  simp only [Bool.false_eq_true, if_false]
  refine wpAny_bind (wpAny_mono one (fun r s' z => ?_) fun _ _ e => e)
  obtain ⟨t, rfl, H', I', hQ⟩ := z
  exact wpAny_pure ⟨.bl (!t), H', I', rfl, hQ⟩
end Vf
namespace Vf
open PySem L2 PySem.Spec PyProof.Rows He RZ
def neB (x : Str) (K : PySem.W.Frag) : Bool := eqO (PySem.W.findIn K (.ref (ga K x)) "__ne__") (some (some (.builtin "object.__ne__"))) && (PySem.W.mroIn K (ga K x) (.type "object") == some true)
structure NeC (K : PySem.W.Frag) (x : Str) : Prop where
  n : PySem.W.findIn K (.ref (ga K x)) "__ne__" = some (some (.builtin "object.__ne__"))
  o : PySem.W.mroIn K (ga K x) (.type "object") = some true
theorem neB_ok {x : Str} {K : PySem.W.Frag} (c : neB x K = true) : NeC K x := by
  unfold neB at c
  obtain ⟨c1, c2⟩ := ba c
  exact ⟨eqO_ok c1, beq_iff_eq.mp c2⟩
theorem op_neC {X : Cx} {k j : Nat} {x : Str} {sp : Sp} (c : EqC X.prog X.w X.K X.mg X.base k x sp) (d : NeC X.K x) (hr : Room j X.A) (hk : k + 1 ≤ j) : OpR X (compareOp .NotEq) (rNeO X.K (ga X.K x) sp E0) := by
  obtain ⟨f, fd, ps, F, hs, hf, hb⟩ := c.ex
  exact op_neOwn F hs hf hb d.n d.o (hr.mono hk)
end Vf

namespace Vf
open PySem L2 PySem.Spec PyProof.Rows He RZ
/-! calls of a method that may raise -/
structure MetX (P : Program) (w : World) (K : PySem.W.Frag) (mg : Str → Option Value) (base : Heap) (k : Nat) (C : Addr) (m : Str) (sp : Sp) : Prop where
  ex : ∃ (f : Addr) (fd : FuncData) (ps : List Str), Cls K C ∧ Meth K C m f ∧ FnOk P w K mg base (L2.CX P w) k f fd ps sp ∧ Binds K fd ps []
def tMethX (C : Addr) (m : Str) (sp : Sp) (EE : L2.St → XK) (ta : TE) (t : TA) : TE := fun σ H Q => ta σ H fun x H1 => ∃ a dx fs, x = .ref a ∧ H1 a = some (.ins C dx fs) ∧ fs.lookup m = none ∧ t σ H1 fun vs H2 => sp (x :: vs) H2 Q (EE σ)
section
variable {X : Cx} {k j : Nat} {C : Addr} {m : Str} {sp : Sp} {o e : Expr} {es : List Expr} {ta : TE} {t : TA} {apos pos : Pos} {W : WX}
theorem pe_mtX {pl : Sem Bool} (c : MetX X.prog X.w X.K X.mg X.base k C m sp) (hr : Room j X.A) (hk : k ≤ j) (tk : Takes X W) (he : PE X o ta) (ha : PA X (e :: es) t)
    (hst : starEach (e :: es) X.env = (false, eval e X.env) :: starEach es X.env := by rfl) (hpl : (backTo pos (starEach es X.env)).any (·.1) = false := by rfl)
    (ht : eval (.Call (.Attribute o m apos) (e :: es) [] pos) X.env = (do
      let ov ← eval o X.env
      standAt apos.atName
      let (f, first) ← holding [ov] (getMethod ov m pl)
      callWith pos f first (backTo pos (starEach (e :: es) X.env)) (backToKw pos (keywordEach [] X.env))) := by rfl) :
    PE X (.Call (.Attribute o m apos) (e :: es) [] pos) (tMethX C m sp (WE W) ta t) := by
  obtain ⟨f, fd, ps, hc, hm, F, b⟩ := c.ex
  refine ⟨fun pins s σ H Q I h => ?_⟩
  refine PySem.W.methodCall_KW (pl := pl) (thn (he.run pins s σ H _ I h) fun u s1 ⟨x, H1, I1, rx, a, dx, fs, ex, ea, l, q⟩ => ?_) ht
  subst ex
  obtain rfl : u = Value.ref a := rx
  refine getmeth_ok I1 ea hc hm l ?_
  refine PySem.W.callWith_K (first := [.ref a]) (h₀ := X.base) I.ok.mod.kin hm.kp (thn (ha.run pos pins s1 σ H1 _ I1 q) fun us s2 ⟨vs, H2, I2, r, q2⟩ => ⟨I2.kIn, ?_⟩) hst hpl
  exact run_fnS (E := WE W) (us := .ref a :: us) (vs := .ref a :: vs) F (hr.mono hk) b (passAt tk σ) I2 (.cons rfl r) q2
theorem pe_mtX0 {pl : Sem Bool} (c : MetX X.prog X.w X.K X.mg X.base k C m sp) (hr : Room j X.A) (hk : k ≤ j) (tk : Takes X W) (he : PE X o ta)
    (ht : eval (.Call (.Attribute o m apos) [] [] pos) X.env = (do
      let ov ← eval o X.env
      standAt apos.atName
      let (f, first) ← holding [ov] (getMethod ov m pl)
      callWith pos f first (backTo pos (starEach [] X.env)) (backToKw pos (keywordEach [] X.env))) := by rfl) :
    PE X (.Call (.Attribute o m apos) [] [] pos) (tMethX C m sp (WE W) ta tNil) := by
  obtain ⟨f, fd, ps, hc, hm, F, b⟩ := c.ex
  refine ⟨fun pins s σ H Q I h => ?_⟩
  refine PySem.W.methodCall_KW (pl := pl) (thn (he.run pins s σ H _ I h) fun u s1 ⟨x, H1, I1, rx, a, dx, fs, ex, ea, l, q⟩ => ?_) ht
  subst ex
  obtain rfl : u = Value.ref a := rx
  refine getmeth_ok I1 ea hc hm l ?_
  exact PySem.W.callWith_K0 (first := [.ref a]) I1.kIn hm.kp (run_fnS (E := WE W) (us := [.ref a]) (vs := [.ref a]) F (hr.mono hk) b (passAt tk σ) I1 (.cons rfl .nil) q)
end
end Vf

namespace Vf
open PySem L2 PySem.Spec PyProof.Rows He RZ L2H
/-! a def called in an except suite that lets nothing out: FnH without the word of the handled exception's context -/
structure FnQ (P : Program) (w : World) (K : PySem.W.Frag) (mg : Str → Option Value) (base : Heap) (k : Nat) (f : Addr) (fd : FuncData) (ps : List Str) (sp : Sp) : Prop where
  len : ∀ vs H Q E, sp vs H Q E → vs.length = ps.length
  run : ∀ (A : Around) (out : List Env) (s : Shared) (H : Hp) (ar : Args) (us : List Value) (vs : List V) (Q : VK) (E : XK) (pp : Addr × Obj), RoomH k A → PinOk out H s pp →
    Env0 P w K mg base A out s H → BindsTo s fd ar (ps.zip us) → Vals vs us → sp vs H Q E → codeAny (model P w) A (.call (.ref f) ar) (CR CX0 out P w H s Q E) s
section
variable {P : Program} {w : World} {K : PySem.W.Frag} {mg : Str → Option Value} {base : Heap} {x qual : Str} {params : Arguments} {body : List Stmt} {scope : Scope} {dvs : List V} {kws : List (Str × V)} {f : Addr} {fd : FuncData}
theorem okQ {N ps : List Str} {k : Nat} {sp : Sp} (F : FunD K x qual params body scope dvs kws f fd) (S : FnScope N ps scope)
    (len : ∀ vs H Q E, sp vs H Q E → vs.length = ps.length)
    (hbody : ∀ (cdv : Value) (A : Around) (out : List Env) (s : Shared) (H : Hp) (vs : List V) (Q : VK) (E : XK) (pp : Addr × Obj), RoomH k (A.deeper (envOfC qual scope s.heap.objs.size f cdv)) →
      sp vs H Q E → ∃ t, PSs (cxH CX0 P w K mg base N qual scope f cdv A out s H E pp) body t ∧
        t { nx := fun _ H' => Q .non H', rt := Q } (L2.start N vs) H) : FnQ P w K mg base (k + 1) f fd ps sp := by
  obtain ⟨oc, od, dV, kV, doc, pm, an, cdv, ct, osl, rfl, lk, hcd, _, _⟩ := F.ex
  refine ⟨len, fun A out s H ar us vs Q E pp hr hpin e0 hb r hsp => ?_⟩
  have hl := len _ _ _ _ hsp
  have kin : K.In s.heap := e0.mod.kin.keeps fun b o e => (e0.bs b o e).1
  have nol : s.heap.NoLimit := e0.mod.nolimit.keeps fun b o e => (e0.bs b o e).1
  have knd : ∀ y ∈ ps.zip us, scope.names.lookup y.1 = some .local ∨
      (scope.names.lookup y.1 = some .cell ∧ ((cellsFrom (s.heap.objs.size + 1) scope.names []).lookup y.1).isSome = true) := fun ⟨n, v⟩ hy =>
    (S.par n (List.of_mem_zip hy).1).imp id fun q => ⟨q, PySem.W.cellsFrom_some _ _ _ (.inl q)⟩
  refine codeAny_call_function hr.depth (kin _ _ lk) rfl S.co S.gen rfl (PySem.W.codeRec_of kin hcd) (hb _ _ _ _ ?_)
  refine wpAny_newFunctionEnv_cells S.kind knd fun env he s1 x => ?_
  subst he
  refine ⟨nol.keeps x.toInCall.keep, codeAny_func ?_⟩
  obtain ⟨t, ht, hq⟩ := hbody cdv A out s H vs Q E pp (hr.deeper _) hsp
  have I := inv_startH (CX := CX0) (E := E) S hpin e0 hl r x
  refine wpAny_mono (ht.run [] s1 (L2.start N vs) H _ I hq) (fun fl s' hs => ?_) fun e s' hs => hs
  cases fl with
  | ret u => obtain ⟨v, σ', H', J, rv, q⟩ := hs; exact ⟨v, H', J.os, J.bare, J.base, J.hok, rv, q⟩
  | next => obtain ⟨σ', H', J, q⟩ := hs; exact ⟨V.non, H', J.os, J.bare, J.base, J.hok, rfl, q⟩
  | brk => exact False.elim (let ⟨_, _, _, q⟩ := hs; q)
  | cont => exact False.elim (let ⟨_, _, _, q⟩ := hs; q)
end
structure CalQ (P : Program) (w : World) (K : PySem.W.Frag) (mg : Str → Option Value) (base : Heap) (k : Nat) (x : Str) (sp : Sp) : Prop where
  ex : ∃ (f : Addr) (fd : FuncData) (ps : List Str), FnQ P w K mg base k f fd ps sp ∧ mg x = some (.ref f) ∧ PySem.W.keepIn K (.ref f) = true ∧ Binds K fd ps []
theorem roomQ {k : Nat} {A : Around} {h : Option Value} (r : Room k A) : RoomH k (A.mark h) := ⟨r.dp, r.un⟩
theorem huQ {k : Nat} {A : Around} {h : Option Value} (r : Room k A) : (A.mark h).units + 1 < cLine := by
  have e : A.units + 1 < cLine := hu_of r
  exact e
theorem pe_cQ {X : Cx} {k j : Nat} {x : Str} {sp : Sp} {p pos : Pos} {e : Expr} {es : List Expr} {t : TA} (c : CalQ X.prog X.w X.K X.mg X.base k x sp) (hr : RoomH j X.A) (hk : k ≤ j) (hp : ∃ pp : Addr × Obj, pp ∈ X.pn) (hg : Gl X x) (ha : PA X (e :: es) t)
    (hdb : (x == ("__debug__" : Str)) = false := by decide) (he : starEach (e :: es) X.env = (false, eval e X.env) :: starEach es X.env := by rfl)
    (hpl : (backTo pos (starEach es X.env)).any (·.1) = false := by rfl) : PE X (.Call (.Name x p) (e :: es) [] pos) (tCall sp [] E0 t) := by
  obtain ⟨f, fd, ps, F, hm, kp, b⟩ := c.ex
  obtain ⟨pp, hp⟩ := hp
  refine ⟨fun pins s σ H Q I h => ?_⟩
  refine wpAny_Call_Name_kw (ld_glob I hg hm ?_ hdb)
  refine PySem.W.callWith_K (h₀ := X.base) I.ok.mod.kin kp (thn (ha.run pos pins s σ H _ I h) fun us s1 ⟨vs, H1, I1, r, q⟩ => ⟨I1.kIn, ?_⟩) he hpl
  have q : sp (vs ++ []) H1 Q E0 := q
  rw [List.append_nil] at q
  have hl : us.length = ps.length := by rw [← r.length]; exact F.len _ _ _ _ q
  have b2 := b s1 us I1.kIn (by rw [List.append_nil]; exact hl)
  rw [List.append_nil] at b2
  have P1 := I1.pin pp (List.mem_append_left _ hp)
  have pk : PinOk X.stack H1 s1 pp := ⟨P1.1, P1.2.1, fun hm => (List.mem_cons.mp (I1.stkSub pp.1 hm)).elim P1.2.2.1 P1.2.2.2.1, P1.2.2.2.2⟩
  refine wpAny_call (codeAny_mono (F.run X.A X.stack s1 H1 ⟨us, []⟩ us vs Q _ pp (hr.mono hk) pk I1.env0 b2 r q) fun r s' hq => ?_)
  cases r with
  | error e => exact False.elim hq
  | ok fl =>
    cases fl with
    | ret u => exact I1.after hq
    | next => exact False.elim hq
    | brk => exact False.elim hq
    | cont => exact False.elim hq
end Vf

namespace Vf
open PySem L2 PySem.Spec PyProof.Rows He RZ
/-! ### a comprehension whose element may raise -/
section
variable {X : Cx} {W : WX} {E : XK}
theorem comp_raise {pinsB pins : List (Addr × Obj)} {σB σ : L2.St} {HB H3 : Hp} {sB s3 s' : Shared} {scope : Scope} {ce : Env} {fp : List Addr} {xe : Value → Shared → Prop} {u : Value}
    (tk : Takes X W) (hst : X.stack = X.env :: X.outer) (hfr : X.env.frame = some X.env.locals) (hcf : ce.frame = X.env.frame)
    (I3 : Inv X pins σ H3 s3) (IB : Inv ((X.blk s3 H3 scope ce fp).wish xe) pinsB σB HB sB) (ff : ∀ b ∈ fp, FpOk X pins H3 b) (fC : s3.heap.objs.size ≤ ce.locals)
    (hE : ∀ cls d H', E cls d H' → W cls d σ H') (c : L2.CX X.prog X.w X.stack HB sB E u s') : notedBy (model X.prog X.w) X.A ce (CompFails (model X.prog X.w) X.A X.xe ce) u s' := by
  obtain ⟨a, Bh, H', cls, d, rfl, fl, hok, ub, na, os, ag, hE'⟩ := c
  have hA : X.A.frames = some (X.env :: X.outer) := by rw [I3.ok.frames, hst]
  obtain ⟨m, hn, _⟩ := IB.loc
  obtain ⟨oC, es, ep, hoC, hdC, hr⟩ := id hn
  have hoC : sB.heap.get? ce.locals = some oC := hoC
  have nCB : HB ce.locals = none := IB.free
  have nCf : ce.locals ∉ frs X.stack := fun hm => by
    rcases List.mem_cons.mp (I3.stkSub _ hm) with z | z
    · have := I3.lt
      rw [z] at fC
      exact absurd (Nat.lt_of_lt_of_le this fC) (Nat.lt_irrefl _)
    · exact I3.nofs fC z
  have hBC : Bh.get? ce.locals = some oC := ub.keep _ _ hoC nCB nCf
  have nC' : H' ce.locals = none := ub.free _ _ hoC nCB
  have fl2 : HandSPX.FlyingZ Bh (X.env :: X.outer) a (Zc cls d) s'.heap := by rw [← hst]; exact fl
  show wpAny _ X.A (noteFrame (.ref a) ce) _ _ s'
  rw [noteFrame_env _ hcf]
  refine HandSPX.looks_onZ Zc.steady hA hfr fl2 fun h' hh up => ?_
  obtain ⟨b1, b0, f1, oe, vs, T, oT, ts, he, hz, hd, h1, hnT, hTe, hT, hdT, h3⟩ := hh
  refine ⟨m, ⟨oC, es, ep, b1 _ _ hBC, hdC, hr⟩, fun h2 m2 hn2 hs2 => ?_⟩
  obtain ⟨B2, g1, g2⟩ := restrict h2 fun b => (Bh.get? b).isSome
  have st2 : B2.StaysIn h2 := fun b o e => by
    cases q : (Bh.get? b).isSome with
    | false => rw [g2 b q] at e; cases e
    | true => rw [g1 b q] at e; exact e
  have same : ∀ b o, b ≠ ce.locals → Bh.get? b = some o → B2.get? b = some o := fun b o ne e => by
    rw [g1 b (by simp [e]), hs2.2 b ne]
    exact b1 b o e
  have none2 : ∀ b, Bh.get? b = none → B2.get? b = none := fun b e => g2 b (by simp [e])
  have naC : a ≠ ce.locals := fun z => by rw [z, hBC] at b0; cases b0
  have nTC : T ≠ ce.locals := fun z => by rw [z, hBC] at hnT; cases hnT
  have he2 : h2.get? a = some oe := (hs2.2 a naC).trans he
  have hT2 : h2.get? T = some oT := (hs2.2 T nTC).trans hT
  have f2 : h2.FunFrames Bh (X.env :: X.outer) := Heap.FunFrames.sameBut hs2 hn2 f1
  have f3 : h2.FunFrames B2 (X.env :: X.outer) := funFrames_none f2 fun b hb => none2 b (f2.mem hb).1
  have hh2 : HandSPX.HeldZ B2 (X.env :: X.outer) a (Zc cls d) X.env.locals h2 := ⟨st2, none2 _ b0, f3, oe, vs, T, oT, ts, he2, hz, hd, h1, none2 _ hnT, hTe, hT2, hdT, h3⟩
  unfold PySem.passOn
  refine wpAny_bind (wpAny_field he2 hd h1 ?_)
  rw [if_neg (show ¬ ((Value.ref T == Value.none) = true) from by simp), hcf, hfr]
  refine wpAny_bind (HandSPX.setFlight_onZ hh2 fun h4 hh4 up4 => ?_)
  refine wpAny_throw (tk _ _ ?_)
  -- the block's state, then the def's, without the exception
  obtain ⟨G, k1, k2⟩ := restrict s'.heap fun b => (Bh.get? b).isSome || decide (b ∈ frs X.stack)
  have st : Bh.StaysIn s'.heap := fl.1
  have gB : ∀ b o, Bh.get? b = some o → G.get? b = some o := fun b o e => by
    rw [k1 b (by simp [e])]
    exact st b o e
  have gF : ∀ b, b ∈ frs X.stack → G.get? b = s'.heap.get? b := fun b hb => k1 b (by simp [hb])
  have og : ∀ b o, G.get? b = some o → s'.heap.get? b = some o ∧ ((Bh.get? b).isSome = true ∨ b ∈ frs X.stack) := fun b o e => by
    cases q : ((Bh.get? b).isSome || decide (b ∈ frs X.stack)) with
    | false => rw [k2 b q] at e; cases e
    | true =>
      rw [k1 b q] at e
      exact ⟨e, by simpa [Bool.or_eq_true] using q⟩
  have IB2 : Inv ((X.blk s3 H3 scope ce fp).wish xe) pinsB σB H' { sB with heap := G, gens := s'.gens, drawn := s'.drawn, toks := s'.toks } := by
    refine IB.call (ch := []) ⟨fun b o e n hb _ => gB b o (ub.keep b o e n hb), fun b o e n hb _ => ?_, fun b o e n _ => ub.free b o e n, fun b o e _ => ?_, ub.tups, ub.frzs, ub.tbls⟩ (hok.kept gB) ag (fun _ z => nomatch z)
    · obtain ⟨sl, q⟩ := ub.slot b o e hb
      exact ⟨sl, by rw [gF b hb]; exact q⟩
    · by_cases hb : b ∈ frs X.stack
      · obtain ⟨sl, q⟩ := ub.slot b o e hb
        exact ⟨_, by rw [gF b hb]; exact q⟩
      · obtain ⟨o', q⟩ := ub.there b o e hb
        exact ⟨o', gB b o' q⟩
  have J : Inv X pins σ H' { sB with heap := G, gens := s'.gens, drawn := s'.drawn, toks := s'.toks } := I3.call' (ch := fp) IB2.os IB2.base IB2.hok IB2.bare fun b hb => ⟨(ff b hb).2.2.2.1, (ff b hb).2.1, (ff b hb).2.2.2.2.1, (ff b hb).2.2.2.2.2⟩
  obtain ⟨G2, l1, l2⟩ := restrict h4 fun b => (B2.get? b).isSome || decide (b ∈ frs X.stack)
  obtain ⟨st4, _, f4, _⟩ := id hh4
  have gB2 : ∀ b o, B2.get? b = some o → G2.get? b = some o := fun b o e => by
    rw [l1 b (by simp [e])]
    exact st4 b o e
  have gF2 : ∀ b, b ∈ frs X.stack → G2.get? b = h4.get? b := fun b hb => l1 b (by simp [hb])
  have og2 : ∀ b o, G2.get? b = some o → h4.get? b = some o ∧ ((B2.get? b).isSome = true ∨ b ∈ frs X.stack) := fun b o e => by
    cases q : ((B2.get? b).isSome || decide (b ∈ frs X.stack)) with
    | false => rw [l2 b q] at e; cases e
    | true =>
      rw [l1 b q] at e
      exact ⟨e, by simpa [Bool.or_eq_true] using q⟩
  have slot2 : ∀ b o, G.get? b = some o → b ∈ frs X.stack → ∃ sl, G2.get? b = some { o with slots := sl } := fun b o e hb => by
    have e1 := (og b o e).1
    have hb' : b ∈ frs (X.env :: X.outer) := by rw [← hst]; exact hb
    obtain ⟨_, o₀, e₀, hnf⟩ := fl2.2.2.1.mem hb'
    rw [e1] at e₀; cases e₀
    obtain ⟨sl, e2⟩ := up b _ e1 hnf
    have e3 : h2.get? b = some { o with slots := sl } := (hs2.2 b fun z => nCf (z ▸ hb)).trans e2
    obtain ⟨sl2, e4⟩ := up4 b _ e3 hnf
    exact ⟨sl2, by rw [gF2 b hb]; exact e4⟩
  have keep2 : ∀ b o, G.get? b = some o → b ∉ frs X.stack → b ≠ ce.locals → G2.get? b = some o := fun b o e hb ne => by
    obtain ⟨e1, h⟩ := og b o e
    rcases h with h | h
    · obtain ⟨o', q⟩ := Option.isSome_iff_exists.mp h
      have z := st b o' q
      rw [e1] at z; cases z
      exact gB2 b o (same b o ne q)
    · exact absurd h hb
  have hok2 : HOk X.prog X.w H' B2 := fun b o e => (hok b o e).stay (fun c v hc q => same c v (fun z => by
    rcases hc with hc | hc
    · rw [← hc, z, nC'] at e; cases e
    · rw [z, nC'] at hc; cases hc) q) (fun _ q => q) fun _ _ q => q
  have fpC := I3.fpOk (H' := H') fC nC'
  have J2 : Inv X pins σ H' { sB with heap := G2, gens := s'.gens, drawn := s'.drawn, toks := s'.toks } := by
    refine L2.Inv.call (s := { sB with heap := G, gens := s'.gens, drawn := s'.drawn, toks := s'.toks }) (ch := [ce.locals]) (g' := s'.gens) (d' := s'.drawn) (t' := s'.toks) J ⟨fun b o e _ hb hc => keep2 b o e hb fun z => hc (by simp [z]), fun b o e _ hb _ => slot2 b o e hb, fun _ _ _ n _ => n, fun b o e hc => ?_, fun _ _ e => e, fun _ _ _ e => e, fun b ps e => ⟨#[], by rw [e]; simp⟩⟩ (hok2.kept gB2) ag fun b hb => ?_
    · by_cases hb : b ∈ frs X.stack
      · obtain ⟨sl, q⟩ := slot2 b o e hb
        exact ⟨_, q⟩
      · exact ⟨o, keep2 b o e hb fun z => hc (by simp [z])⟩
    · have e : b = ce.locals := by simpa using hb
      subst e
      obtain ⟨_, q2, _, q4, q5, q6⟩ := fpC
      exact ⟨q4, q2, q5, q6⟩
  refine ⟨a, B2, { sB with heap := G2, gens := s'.gens, drawn := s'.drawn, toks := s'.toks }, pins, σ, H', cls, d, rfl, J2, fun b o e hb => ?_, Heap.UpToSlots.of_keeps fun b o e => (og2 b o e).1, .inr (.inr (by rw [hst]; exact hh4)), na, os, ag, hE _ _ _ hE'⟩
  obtain ⟨e', h⟩ := og2 b o e
  rcases h with h | h
  · obtain ⟨o', q⟩ := Option.isSome_iff_exists.mp h
    have z := st4 b o' q
    rw [e'] at z; cases z
    exact q
  · exact absurd h hb

/-- [elt for tg in iter], elt may raise: the def's wish stands for the element's too -/
def tLcX (wi : TI) (g : TG) (te : XK → TE) (vs : List Nat) (EE : L2.St → XK) : TE := fun σ H Q => tLc wi g tYes (te (EE σ)) vs σ H Q
theorem pe_lcX {elt tg iter : Expr} {scope : Scope} {own : List (Str × Nat)} {pos : Pos} {wi : TI} {g : TG} {te : XK → TE} (hc : X.calm = true) (hN : X.N.Nodup) (tk : Takes X W) (hst : X.stack = X.env :: X.outer) (hfr : X.env.frame = some X.env.locals) (hi : PI X tg iter wi)
    (ok : BlkOk X.N X.env.scope scope own) (hg : ∀ (s : Shared) (H : Hp) (C : Addr) (cl : List (Str × Addr)) (fp : List Addr), PG (X.blk s H scope (compEnvC scope cl C X.env) fp) tg g)
    (he : ∀ (s : Shared) (H : Hp) (C : Addr) (cl : List (Str × Addr)) (fp : List Addr) (xe : Value → Shared → Prop) (E : XK), (∀ σ', PassesAt (L2.CX X.prog X.w) ((X.blk s H scope (compEnvC scope cl C X.env) fp).wish xe) σ' E) → PE ((X.blk s H scope (compEnvC scope cl C X.env) fp).wish xe) elt (te E))
    (hs : ∀ x, foldedSetIterable iter X.env x = pure x := by intro _; rfl) :
    PE X (.ListComp elt [⟨tg, iter, [], 0⟩] scope pos) (tLcX wi g te (own.map (·.2)) (WE W)) := by
  refine ⟨fun pins s σ H Q I h => ?_⟩
  rw [eval_ListComp]
  have hfree : ∀ y ∈ scope.names, y.2 = .free → ∃ c, X.env.cells.lookup y.1 = some c := fun y hy e => (ok.free y hy e).elim (fun k => I.ok.has _ (.inl k)) fun k => I.ok.has _ (.inr k)
  refine comprehension_at (use := none) rfl hs (closure_ok hfree) ok.kind (fun y hy e => by rw [ok.uniq y hy, e]) (thn (hi.run pins s σ H _ I h) fun xv s1 hx => thn hx fun itv s2 h2 => ?_)
  obtain ⟨it, fp, tn, J, H2, rfl, I2, T, st2, f2, q⟩ := h2
  refine wpAny_newObj_type (newEnv_comp ?_) (by show 0 ≤ sizeLine; decide)
  generalize hD : s2.heap.objs.size = D
  have hDn : H2 D = none := I2.hok.fresh (Nat.le_of_eq hD)
  obtain ⟨Wn, ⟨m0, w0⟩, turn⟩ := q D hDn
  generalize hs3 : ({ s2 with heap := s2.heap.push { cls := .type "list", data := .seq ([] : List Value).toArray } } : Shared) = s3
  have h3 : s3.heap = s2.heap.push { cls := .type "list", data := .seq ([] : List Value).toArray } := by rw [← hs3]
  have I3 : Inv X pins σ (upd H2 D (.lst [])) s3 := by
    rw [← hs3]
    exact I2.laid (t' := s2.toks) (fun b o e => Heap.get?_push_of_some _ e) (Nat.le_of_eq hD) ⟨Nat.zero_le _, [], 0, .nil, by rw [← hD]; exact Heap.get?_push_size _ rfl⟩
  have f3 : ∀ b ∈ fp, FpOk X pins (upd H2 D (.lst [])) b ∧ b < s3.heap.objs.size := fun b hb => by
    obtain ⟨o, e, _⟩ := T.obj _ _ st2 b hb
    have hlt := Heap.lt_size e
    refine ⟨⟨?_, (f2 b hb).2⟩, by rw [h3, Heap.size_push]; exact Nat.lt_succ_of_lt hlt⟩
    rw [upd_ne (by rw [← hD]; exact Nat.ne_of_lt hlt)]
    exact (f2 b hb).1
  have st3 : tn 0 s3.heap := T.keep _ _ _ st2 fun b _ o e => by rw [h3]; exact Heap.get?_push_of_some _ e
  have I4 := block_start I3 ok hN f3
  have pg := hg s3 (upd H2 D (.lst [])) s3.heap.objs.size (cellsFrom (s3.heap.objs.size + 1) scope.names (cloFrom X.env.cells scope.names [])) fp
  have pe := he s3 (upd H2 D (.lst [])) s3.heap.objs.size (cellsFrom (s3.heap.objs.size + 1) scope.names (cloFrom X.env.cells scope.names [])) fp
  show codeAny _ _ (.compStart (.ListComp elt [⟨tg, iter, [], 0⟩] scope pos) 0 (.ref it) (.ref D) (compEnvC scope (cellsFrom (s3.heap.objs.size + 1) scope.names (cloFrom X.env.cells scope.names [])) s3.heap.objs.size X.env))
    (compEnds (model X.prog X.w) X.A X.xe none (EP X pins σ Q) (.ref D) (compEnvC scope (cellsFrom (s3.heap.objs.size + 1) scope.names (cloFrom X.env.cells scope.names [])) s3.heap.objs.size X.env)) { s3 with heap := pushCells (s3.heap.push { cls := .type "dict", data := .dict #[] }) scope.names }
  have nfp : ∀ b ∈ fp, (upd H2 D (.lst [])) b = none := fun b hb => (f3 b hb).1.1
  generalize hce : compEnvC scope (cellsFrom (s3.heap.objs.size + 1) scope.names (cloFrom X.env.cells scope.names [])) s3.heap.objs.size X.env = ce at I4 pg pe ⊢
  have cL : ce.locals = s3.heap.objs.size := by subst hce; rfl
  have cF : ce.frame = X.env.frame := by subst hce; rfl
  generalize upd H2 D (.lst []) = H3 at I3 I4 pg pe w0 nfp f3
  generalize hs4 : ({ s3 with heap := pushCells (s3.heap.push { cls := .type "dict", data := .dict #[] }) scope.names } : Shared) = s4 at I4 ⊢
  have st4 : tn 0 s4.heap := T.keep _ _ _ st3 fun b _ o e => by rw [← hs4]; exact pushCells_keeps _ _ _ _ (Heap.get?_push_of_some _ e)
  have pe := pe (notedBy (model X.prog X.w) X.A ce (CompFails (model X.prog X.w) X.A X.xe ce)) (WE W σ) fun σ' pins' H' s' e s'' I' c =>
    comp_raise (xe := notedBy (model X.prog X.w) X.A ce (CompFails (model X.prog X.w) X.A X.xe ce)) tk hst hfr cF I3 I' (fun b hb => (f3 b hb).1) (Nat.le_of_eq cL.symm) (fun _ _ _ h => h) c
  have stat : ∀ {σ' : L2.St} {H' : Hp} {s' : Shared}, Inv (X.blk s3 H3 scope ce fp) [] σ' H' s' → (∀ b ∈ fp, H' b = none) → ∀ b ∈ fp, FpOk (X.blk s3 H3 scope ce fp) [] H' b := fun I' hn b hb =>
    ⟨hn b hb, (I'.ok.exf b hb).1, I'.ok.exfs b hb, .inl hb, fun x c e => (I'.ok.exf b hb).2 x c e, fun p hp => absurd (show p ∈ ([] : List (Addr × Obj)) ++ [] from hp) (by simp)⟩
  have loop : codeAny (model X.prog X.w) X.A (.compLoop (.ListComp elt [⟨tg, iter, [], 0⟩] scope pos) 0 (.ref it) (.ref D) ce) (compEnds (model X.prog X.w) X.A X.xe none (EP X pins σ Q) (.ref D) ce) s4 := by
    refine compLoop_any (fun n s' => ∃ i H', Inv (X.blk s3 H3 scope ce fp) [] (wipe σ (own.map (·.2))) H' s' ∧ tn i s'.heap ∧ (∀ b ∈ fp, H' b = none) ∧ Wn i n H') ?_ m0 ⟨0, H3, I4, st4, nfp, w0⟩
    rintro n s5 ⟨i, H5, I5, st5, n5, w5⟩
    rcases turn i n H5 w5 with ⟨stop, qq⟩ | ⟨go, Nx, hNx, step⟩
    · refine thnF (T.done (X.blk s3 H3 scope ce fp) rfl rfl rfl hc i [] s5 _ H5 (fun _ _ => False) I5 (stat I5 n5) st5 stop) fun r s6 ⟨hr, I6⟩ => ?_
      subst hr
      have I7 : Inv X pins σ H5 s6 := I3.call' (ch := fp) I6.os I6.base I6.hok I6.bare fun b hb => ⟨(f3 b hb).1.2.2.2.1, (f3 b hb).1.2.1, (f3 b hb).1.2.2.2.2.1, (f3 b hb).1.2.2.2.2.2⟩
      have nC : H5 ce.locals = none := I6.free
      obtain ⟨m, hn, _⟩ := I6.loc
      refine ⟨m, hn, fun h'' sb => ?_⟩
      obtain ⟨g0, g1, _, g3, g4, g5⟩ := I3.fpOk (Nat.le_of_eq cL.symm) nC
      exact ⟨.ref D, H5, I7.turned (t' := s6.toks) (fun b o hb e => (sb.2 b hb).trans e) g0 g1 g3 g4 g5, rfl, qq⟩
    · refine thnF (T.item (X.blk s3 H3 scope ce fp) rfl rfl rfl hc i [] s5 _ H5 (fun _ _ => False) I5 (stat I5 n5) st5 go) fun r s6 ⟨u, hr, h6⟩ => ?_
      subst hr
      refine thnF h6 fun _ s7 ⟨x, H7, I7, r7, y7, st7, n7⟩ => ?_
      refine thnF (pg.run _ s7 _ H7 x u _ (I7.pinned (stat I7 n7) (T.obj _ _ st7)) r7 (step x H7 y7)) fun _ s8 ⟨σ8, H8, I8, hw8, q8⟩ => ?_
      have fin : ∀ {s' : Shared} {H' : Hp}, Inv (X.blk s3 H3 scope ce fp) ([] ++ pinsAt fp s7.heap) σ8 H' s' → Nx H' → ∃ m, m < n ∧ ∃ i H', Inv (X.blk s3 H3 scope ce fp) [] (wipe σ (own.map (·.2))) H' s' ∧ tn i s'.heap ∧ (∀ b ∈ fp, H' b = none) ∧ Wn i m H' := fun {s' H'} I' nx => by
        obtain ⟨m', hm, w'⟩ := hNx H' nx
        have pin' : ∀ b ∈ fp, ∀ o, s7.heap.get? b = some o → s'.heap.get? b = some o ∧ H' b = none := fun b hb o e =>
          let z := I'.pin (b, o) (List.mem_append_right _ (List.mem_append_right _ (mem_pinsAt hb e)))
          ⟨z.1, z.2.1⟩
        refine ⟨m', hm, i + 1, H', (I'.unpinned (pins := [])).weak (by rw [← hw8, wipe_length]) (fun j v e => ?_), T.keep _ _ _ st7 fun b hb o e => (pin' b hb o e).1, fun b hb => ?_, w'⟩
        · rw [← hw8] at e
          exact (wipe_some e).1
        · obtain ⟨o, e, _⟩ := T.obj _ _ st7 b hb
          exact (pin' b hb o e).2
      refine wpAny_tests_nil ?_
      simp only [if_true]
      refine thn (pe.run _ s8 σ8 H8 _ (I8.wish _) q8) fun z s10 ⟨yv, H10, I10, r10, acc, hD10, hz10, nx⟩ => ?_
      exact app_ok (X := X.blk s3 H3 scope ce fp) I10.unwish hD10 hz10 r10 fun s11 I11 => fin I11 nx
  exact codeAny_compStart_list loop (T.self X.A 0 _ _ _ st4 loop)
end
/-! ### methods that may raise, with default values -/
structure MetXD (P : Program) (w : World) (K : PySem.W.Frag) (mg : Str → Option Value) (base : Heap) (k : Nat) (C : Addr) (m : Str) (sp : Sp) (dvs : List V) : Prop where
  ex : ∃ (f : Addr) (fd : FuncData) (ps : List Str) (ds : List Value), Cls K C ∧ Meth K C m f ∧ FnOk P w K mg base (L2.CX P w) k f fd ps sp ∧ Binds K fd ps ds ∧ Vals dvs ds
def tMethXD (C : Addr) (m : Str) (sp : Sp) (dvs : List V) (EE : L2.St → XK) (ta : TE) (t : TA) : TE := fun σ H Q => ta σ H fun x H1 => ∃ a dx fs, x = .ref a ∧ H1 a = some (.ins C dx fs) ∧ fs.lookup m = none ∧ t σ H1 fun vs H2 => sp (x :: (vs ++ dvs)) H2 Q (EE σ)
section
variable {X : Cx} {k j : Nat} {C : Addr} {m : Str} {sp : Sp} {dvs : List V} {o e : Expr} {es : List Expr} {ta : TE} {t : TA} {apos pos : Pos} {W : WX} {E : L2.St → XK}
theorem pe_mtA {pl : Sem Bool} (c : MetXD X.prog X.w X.K X.mg X.base k C m sp dvs) (hr : Room j X.A) (hk : k ≤ j) (hx : ∀ σ, PassesAt (L2.CX X.prog X.w) X σ (E σ)) (he : PE X o ta) (ha : PA X (e :: es) t)
    (hst : starEach (e :: es) X.env = (false, eval e X.env) :: starEach es X.env := by rfl) (hpl : (backTo pos (starEach es X.env)).any (·.1) = false := by rfl)
    (ht : eval (.Call (.Attribute o m apos) (e :: es) [] pos) X.env = (do
      let ov ← eval o X.env
      standAt apos.atName
      let (f, first) ← holding [ov] (getMethod ov m pl)
      callWith pos f first (backTo pos (starEach (e :: es) X.env)) (backToKw pos (keywordEach [] X.env))) := by rfl) :
    PE X (.Call (.Attribute o m apos) (e :: es) [] pos) (tMethXD C m sp dvs E ta t) := by
  obtain ⟨f, fd, ps, ds, hc, hm, F, b, hd⟩ := c.ex
  refine ⟨fun pins s σ H Q I h => ?_⟩
  refine PySem.W.methodCall_KW (pl := pl) (thn (he.run pins s σ H _ I h) fun u s1 ⟨x, H1, I1, rx, a, dx, fs, ex, ea, l, q⟩ => ?_) ht
  subst ex
  obtain rfl : u = Value.ref a := rx
  refine getmeth_ok I1 ea hc hm l ?_
  refine PySem.W.callWith_K (first := [.ref a]) (h₀ := X.base) I.ok.mod.kin hm.kp (thn (ha.run pos pins s1 σ H1 _ I1 q) fun us s2 ⟨vs, H2, I2, r, q2⟩ => ⟨I2.kIn, ?_⟩) hst hpl
  exact run_fnSD (E := E) (us := .ref a :: us) (vs := .ref a :: vs) F (hr.mono hk) b hd (hx σ) I2 (.cons rfl r) q2
theorem pe_mtA0 {pl : Sem Bool} (c : MetXD X.prog X.w X.K X.mg X.base k C m sp dvs) (hr : Room j X.A) (hk : k ≤ j) (hx : ∀ σ, PassesAt (L2.CX X.prog X.w) X σ (E σ)) (he : PE X o ta)
    (ht : eval (.Call (.Attribute o m apos) [] [] pos) X.env = (do
      let ov ← eval o X.env
      standAt apos.atName
      let (f, first) ← holding [ov] (getMethod ov m pl)
      callWith pos f first (backTo pos (starEach [] X.env)) (backToKw pos (keywordEach [] X.env))) := by rfl) :
    PE X (.Call (.Attribute o m apos) [] [] pos) (tMethXD C m sp dvs E ta tNil) := by
  obtain ⟨f, fd, ps, ds, hc, hm, F, b, hd⟩ := c.ex
  refine ⟨fun pins s σ H Q I h => ?_⟩
  refine PySem.W.methodCall_KW (pl := pl) (thn (he.run pins s σ H _ I h) fun u s1 ⟨x, H1, I1, rx, a, dx, fs, ex, ea, l, q⟩ => ?_) ht
  subst ex
  obtain rfl : u = Value.ref a := rx
  refine getmeth_ok I1 ea hc hm l ?_
  exact PySem.W.callWith_K0 (first := [.ref a]) I1.kIn hm.kp (run_fnSD (E := E) (us := [.ref a]) (vs := [.ref a]) F (hr.mono hk) b hd (hx σ) I1 (.cons rfl .nil) q)
theorem pe_mtXD {pl : Sem Bool} (c : MetXD X.prog X.w X.K X.mg X.base k C m sp dvs) (hr : Room j X.A) (hk : k ≤ j) (tk : Takes X W) (he : PE X o ta) (ha : PA X (e :: es) t)
    (hst : starEach (e :: es) X.env = (false, eval e X.env) :: starEach es X.env := by rfl) (hpl : (backTo pos (starEach es X.env)).any (·.1) = false := by rfl)
    (ht : eval (.Call (.Attribute o m apos) (e :: es) [] pos) X.env = (do
      let ov ← eval o X.env
      standAt apos.atName
      let (f, first) ← holding [ov] (getMethod ov m pl)
      callWith pos f first (backTo pos (starEach (e :: es) X.env)) (backToKw pos (keywordEach [] X.env))) := by rfl) :
    PE X (.Call (.Attribute o m apos) (e :: es) [] pos) (tMethXD C m sp dvs (WE W) ta t) := pe_mtA c hr hk (fun σ => passAt tk σ) he ha hst hpl ht
theorem pe_mtXD0 {pl : Sem Bool} (c : MetXD X.prog X.w X.K X.mg X.base k C m sp dvs) (hr : Room j X.A) (hk : k ≤ j) (tk : Takes X W) (he : PE X o ta)
    (ht : eval (.Call (.Attribute o m apos) [] [] pos) X.env = (do
      let ov ← eval o X.env
      standAt apos.atName
      let (f, first) ← holding [ov] (getMethod ov m pl)
      callWith pos f first (backTo pos (starEach [] X.env)) (backToKw pos (keywordEach [] X.env))) := by rfl) :
    PE X (.Call (.Attribute o m apos) [] [] pos) (tMethXD C m sp dvs (WE W) ta tNil) := pe_mtA0 c hr hk (fun σ => passAt tk σ) he ht
end
end Vf

namespace Vf
open PySem L2 PySem.Spec PyProof.Rows He RZ
/-! ### what may raise, called where it does not -/
theorem passA0 {X : Cx} {σ : L2.St} : PassesAt (L2.CX X.prog X.w) X σ E0 := fun _ _ _ _ _ _ c => by
  obtain ⟨_, _, _, _, _, _, _, _, _, _, _, _, hE⟩ := c
  exact False.elim hE
theorem pe_cA {X : Cx} {k j : Nat} {x : Str} {sp : Sp} {p pos : Pos} {e : Expr} {es : List Expr} {t : TA} (c : CalX X.prog X.w X.K X.mg X.base k x sp) (hr : Room j X.A) (hk : k ≤ j) (hg : Gl X x) (ha : PA X (e :: es) t)
    (hdb : (x == ("__debug__" : Str)) = false := by decide) (he : starEach (e :: es) X.env = (false, eval e X.env) :: starEach es X.env := by rfl)
    (hpl : (backTo pos (starEach es X.env)).any (·.1) = false := by rfl) : PE X (.Call (.Name x p) (e :: es) [] pos) (tCallS sp (fun _ => E0) t) := by
  obtain ⟨f, fd, ps, F, hm, kp, b⟩ := c.ex
  exact pe_callS F (hr.mono hk) hg hm kp b (fun σ => passA0) ha hdb he hpl
end Vf

namespace Vf
open PySem L2 PySem.Spec PyProof.Rows He RZ
/-! ### C(..) whose __init__ may raise -/
structure MakX (P : Program) (w : World) (K : PySem.W.Frag) (mg : Str → Option Value) (base : Heap) (k : Nat) (x : Str) (C : Addr) (sp : Sp) : Prop where
  ex : ∃ (f : Addr) (fd : FuncData) (ps : List Str), Mk K C f ∧ FnOk P w K mg base (L2.CX P w) k f fd ps sp ∧ mg x = some (.ref C) ∧ Binds K fd ps []
def tMakX (C : Addr) (sp : Sp) (EE : L2.St → XK) (t : TA) : TE := fun σ H Q => t σ H fun vs H1 => ∀ x dx, H1 x = none → H1 dx = none → dx ≠ x → sp (.ref x :: vs) (upd (upd H1 dx (.own x)) x (.ins C dx [])) (fun v H2 => v = .non ∧ Q (.ref x) H2) (EE σ)
theorem e_tMakX {C : Addr} {sp : Sp} {EE : L2.St → XK} {t : TA} {σ : L2.St} {H : Hp} {Q : VK} (q : t σ H fun vs H1 => ∀ x dx, H1 x = none → H1 dx = none → dx ≠ x → sp (.ref x :: vs) (upd (upd H1 dx (.own x)) x (.ins C dx [])) (fun v H2 => v = .non ∧ Q (.ref x) H2) (EE σ)) : tMakX C sp EE t σ H Q := q
section
variable {X : Cx} {CX : CXT} {k j : Nat} {f C : Addr} {fd : FuncData} {ps : List Str} {sp : Sp} {E : L2.St → XK} {x m : Str} {p pos apos : Pos} {e o : Expr} {es : List Expr} {t : TA}
theorem run_makeX {pins : List (Addr × Obj)} {σ : L2.St} {H : Hp} {s : Shared} {Q : VK} {us : List Value} {vs : List V} (M : Mk X.K C f) (F : FnOk X.prog X.w X.K X.mg X.base CX k f fd ps sp) (hr : Room (k + 1) X.A) (hb : Binds X.K fd ps [])
    (hx : PassesAt CX X σ (E σ)) (I : Inv X pins σ H s) (r : Vals vs us)
    (h : ∀ x dx, H x = none → H dx = none → dx ≠ x → sp (.ref x :: vs) (upd (upd H dx (.own x)) x (.ins C dx [])) (fun v H2 => v = .non ∧ Q (.ref x) H2) (E σ)) :
    wpAny (model X.prog X.w) X.A (call (.ref C) us) (EP X pins σ Q) X.xe s := by
  have hq := h (s.heap.objs.size + 1) s.heap.objs.size (I.hok.fresh (Nat.le_succ _)) (I.hok.fresh (Nat.le_refl _)) (Nat.ne_of_lt (Nat.lt_succ_self _))
  have I2 := Inv.made (C := C) I
  have r2 : Vals (V.ref (s.heap.objs.size + 1) :: vs) (Value.ref (s.heap.objs.size + 1) :: us) := .cons rfl r
  have hl : (Value.ref (s.heap.objs.size + 1) :: us).length = ps.length := by
    have e := r2.length
    rw [F.len _ _ _ _ hq] at e
    exact e.symm
  have b := hb _ (Value.ref (s.heap.objs.size + 1) :: us) I2.kIn (by rw [List.append_nil]; exact hl)
  rw [List.append_nil] at b
  refine wpAny_call (make_map (f := f) I.kIn M.makes M.init (beq_iff_eq.mp M.fn) (codeAny_mono (F.run _ X.stack _ _ ⟨Value.ref (s.heap.objs.size + 1) :: us, []⟩ (Value.ref (s.heap.objs.size + 1) :: us) _ _ (E σ) (hr.make C us [])
    (I2.env0.make C us []) b r2 hq) fun r s' hq' => ?_))
  cases r with
  | error e => exact hx pins _ _ e s' I2 hq'
  | ok fl =>
    cases fl with
    | ret u =>
      obtain ⟨v, H', I3, rv, ev, q3⟩ := I2.after hq'
      subst ev
      exact ⟨rv, ⟨V.ref (s.heap.objs.size + 1), H', I3, rfl, q3⟩⟩
    | next => exact False.elim hq'
    | brk => exact False.elim hq'
    | cont => exact False.elim hq'
end
theorem pe_mkX {X : Cx} {W : WX} {k j : Nat} {C : Addr} {x : Str} {sp : Sp} {p pos : Pos} {e : Expr} {es : List Expr} {t : TA} (c : MakX X.prog X.w X.K X.mg X.base k x C sp) (hr : Room j X.A) (hk : k + 1 ≤ j) (tk : Takes X W) (hg : Gl X x) (ha : PA X (e :: es) t)
    (hdb : (x == ("__debug__" : Str)) = false := by decide) (he : starEach (e :: es) X.env = (false, eval e X.env) :: starEach es X.env := by rfl) (hpl : (backTo pos (starEach es X.env)).any (·.1) = false := by rfl) :
    PE X (.Call (.Name x p) (e :: es) [] pos) (tMakX C sp (WE W) t) := by
  obtain ⟨f, fd, ps, M, F, hm, b⟩ := c.ex
  refine ⟨fun pins s σ H Q I h => ?_⟩
  refine wpAny_Call_Name_kw (ld_glob I hg hm ?_ hdb)
  refine PySem.W.callWith_K (h₀ := X.base) I.ok.mod.kin M.kp (thn (ha.run pos pins s σ H _ I h) fun us s1 ⟨vs, H1, I1, r, q⟩ => ⟨I1.kIn, ?_⟩) he hpl
  exact run_makeX (E := WE W) M F (hr.mono hk) b (passAt tk _) I1 r q
section
variable {X : Cx} {k j : Nat} {C : Addr} {m : Str} {sp : Sp} {o e : Expr} {es : List Expr} {ta : TE} {t : TA} {apos pos : Pos}
theorem pe_mtXA {pl : Sem Bool} (c : MetX X.prog X.w X.K X.mg X.base k C m sp) (hr : Room j X.A) (hk : k ≤ j) (he : PE X o ta) (ha : PA X (e :: es) t)
    (hst : starEach (e :: es) X.env = (false, eval e X.env) :: starEach es X.env := by rfl) (hpl : (backTo pos (starEach es X.env)).any (·.1) = false := by rfl)
    (ht : eval (.Call (.Attribute o m apos) (e :: es) [] pos) X.env = (do
      let ov ← eval o X.env
      standAt apos.atName
      let (f, first) ← holding [ov] (getMethod ov m pl)
      callWith pos f first (backTo pos (starEach (e :: es) X.env)) (backToKw pos (keywordEach [] X.env))) := by rfl) :
    PE X (.Call (.Attribute o m apos) (e :: es) [] pos) (tMethX C m sp (fun _ => E0) ta t) := by
  obtain ⟨f, fd, ps, hc, hm, F, b⟩ := c.ex
  refine ⟨fun pins s σ H Q I h => ?_⟩
  refine PySem.W.methodCall_KW (pl := pl) (thn (he.run pins s σ H _ I h) fun u s1 ⟨x, H1, I1, rx, a, dx, fs, ex, ea, l, q⟩ => ?_) ht
  subst ex
  obtain rfl : u = Value.ref a := rx
  refine getmeth_ok I1 ea hc hm l ?_
  refine PySem.W.callWith_K (first := [.ref a]) (h₀ := X.base) I.ok.mod.kin hm.kp (thn (ha.run pos pins s1 σ H1 _ I1 q) fun us s2 ⟨vs, H2, I2, r, q2⟩ => ⟨I2.kIn, ?_⟩) hst hpl
  exact run_fnS (E := fun _ => E0) (us := .ref a :: us) (vs := .ref a :: vs) F (hr.mono hk) b passA0 I2 (.cons rfl r) q2
theorem pe_mtXA0 {pl : Sem Bool} (c : MetX X.prog X.w X.K X.mg X.base k C m sp) (hr : Room j X.A) (hk : k ≤ j) (he : PE X o ta)
    (ht : eval (.Call (.Attribute o m apos) [] [] pos) X.env = (do
      let ov ← eval o X.env
      standAt apos.atName
      let (f, first) ← holding [ov] (getMethod ov m pl)
      callWith pos f first (backTo pos (starEach [] X.env)) (backToKw pos (keywordEach [] X.env))) := by rfl) :
    PE X (.Call (.Attribute o m apos) [] [] pos) (tMethX C m sp (fun _ => E0) ta tNil) := by
  obtain ⟨f, fd, ps, hc, hm, F, b⟩ := c.ex
  refine ⟨fun pins s σ H Q I h => ?_⟩
  refine PySem.W.methodCall_KW (pl := pl) (thn (he.run pins s σ H _ I h) fun u s1 ⟨x, H1, I1, rx, a, dx, fs, ex, ea, l, q⟩ => ?_) ht
  subst ex
  obtain rfl : u = Value.ref a := rx
  refine getmeth_ok I1 ea hc hm l ?_
  exact PySem.W.callWith_K0 (first := [.ref a]) I1.kIn hm.kp (run_fnS (E := fun _ => E0) (us := [.ref a]) (vs := [.ref a]) F (hr.mono hk) b passA0 I1 (.cons rfl .nil) q)
end
/-- a loop within a try: the context is known from the first proof -/
theorem ps_forT {X : Cx} {W : WX} {tg iter : Expr} {body : List Stmt} {wi : TI} {g : TG} {tb : TS} {pos : Pos} (_tk : Takes X W) (hp : PassesOwn (model X.prog X.w) X.A X.env X.xe) (hc : X.calm = true) (hi : PI X tg iter wi) (hg : PG X tg g) (hb : PSs X body tb)
    (hs : ∀ x, foldedSetIterable iter X.env x = pure x := by intro _; rfl) : PS X (.For tg iter body [] pos) (tFor wi g tb) := ps_for hp hc hi hg hb hs
/-- a try whose body is told for each way out at once: what it does is known before the context is -/
theorem ps_try_onlyP {X : Cx} {x : Str} {c : Value} {body suite : List Stmt} {b₀ : Stmt} {np pos pos' : Pos} {tb : WX → TS} {ts : Addr → Value → Option Addr → TS} {Wout : WX} (hs : X.stack = X.env :: X.outer) (hf : X.env.frame = some X.env.locals) (hc : Names X x c) (tk : Takes X Wout)
    (pk : ∀ W : WX, {t : TS // ∀ (pn : List (Addr × Obj)) (xe : Value → Shared → Prop), Takes (X.tr pn xe) W → PassesOwn (model X.prog X.w) X.A X.env xe → PSs (X.tr pn xe) body t})
    (hsu : ∀ (a : Addr) (oe : Obj) (cls : Value) (d : Option Addr) (pn : List (Addr × Obj)), Zc cls d oe → (∃ vs, oe.data = .fields vs) → PSs (X.suite a ((a, oe) :: pn)) (b₀ :: suite) (ts a cls d)) (ht : tb = fun W => (pk W).1) :
    PS X (.Try body [.ExceptHandler (some (.Name x np)) none (b₀ :: suite) pos'] [] [] pos) (fun D σ H => tb (wOnly X.K c ts Wout D) D σ H) := by
  subst ht
  exact ps_try_only (tb := fun W => (pk W).1) hs hf hc tk (fun W pn xe tk hp => (pk W).2 pn xe tk hp) hsu
end Vf

namespace Vk26
open PySem PySem.Spec PyProof.Rows L2 Vf
def topS (i : Nat) : Stmt := PySem.Challenge.pw_folderkin_k26_whole_pulls.main.body.getD i (.Pass ⟨0, 0, 0, 0⟩)
abbrev s_wall : Stmt := topS 0
abbrev N_wall : List Str := ["k"]
theorem sc_wall : FnScope N_wall ["k"] (defScope s_wall) := ⟨rfl, rfl, rfl, by decide +kernel, rfl, by decide +kernel, by decide +kernel⟩
abbrev s_FolderkinError___init__ : Stmt := inClass (topS 2) 0
abbrev N_FolderkinError___init__ : List Str := ["self", "place"]
theorem sc_FolderkinError___init__ : FnScope N_FolderkinError___init__ ["self", "place"] (defScope s_FolderkinError___init__) := ⟨rfl, rfl, rfl, by decide +kernel, rfl, by decide +kernel, by decide +kernel⟩
abbrev s_block_number : Stmt := topS 7
abbrev N_block_number : List Str := ["data", "number", "byte"]
theorem sc_block_number : FnScope N_block_number ["data"] (defScope s_block_number) := ⟨rfl, rfl, rfl, by decide +kernel, rfl, by decide +kernel, by decide +kernel⟩
abbrev s_block_size : Stmt := topS 8
abbrev N_block_size : List Str := ["number", "size"]
theorem sc_block_size : FnScope N_block_size ["number"] (defScope s_block_size) := ⟨rfl, rfl, rfl, by decide +kernel, rfl, by decide +kernel, by decide +kernel⟩
abbrev s_is_block : Stmt := topS 9
abbrev N_is_block : List Str := ["number"]
theorem sc_is_block : FnScope N_is_block ["number"] (defScope s_is_block) := ⟨rfl, rfl, rfl, by decide +kernel, rfl, by decide +kernel, by decide +kernel⟩
abbrev s_block_bytes : Stmt := topS 10
abbrev N_block_bytes : List Str := ["number", "size", "behind"]
theorem sc_block_bytes : FnScope N_block_bytes ["number"] (defScope s_block_bytes) := ⟨rfl, rfl, rfl, by decide +kernel, rfl, by decide +kernel, by decide +kernel⟩
abbrev s_split : Stmt := topS 11
abbrev N_split : List Str := ["content", "at"]
theorem sc_split : FnScope N_split ["content"] (defScope s_split) := ⟨rfl, rfl, rfl, by decide +kernel, rfl, by decide +kernel, by decide +kernel⟩
abbrev s_joined : Stmt := topS 12
abbrev N_joined : List Str := ["numbers", "content", "index", "number"]
theorem sc_joined : FnScope N_joined ["numbers"] (defScope s_joined) := ⟨rfl, rfl, rfl, by decide +kernel, rfl, by decide +kernel, by decide +kernel⟩
abbrev s_near_places : Stmt := topS 14
abbrev N_near_places : List Str := ["store", "entry", "places", "word", "where", "blocks", "index", "block"]
theorem sc_near_places : FnScope N_near_places ["store", "entry"] (defScope s_near_places) := ⟨rfl, rfl, rfl, by decide +kernel, rfl, by decide +kernel, by decide +kernel⟩
abbrev s_near_rows : Stmt := topS 15
abbrev N_near_rows : List Str := ["store", "entry", "temp", "files", "attic", "name", "index", "row"]
theorem sc_near_rows : FnScope N_near_rows ["store", "entry"] (defScope s_near_rows) := ⟨rfl, rfl, rfl, by decide +kernel, rfl, by decide +kernel, by decide +kernel⟩
abbrev s_kept_blocks : Stmt := topS 16
abbrev N_kept_blocks : List Str := ["store", "entry", "temp", "at", "index", "block", "data"]
theorem sc_kept_blocks : FnScope N_kept_blocks ["store", "entry"] (defScope s_kept_blocks) := ⟨rfl, rfl, rfl, by decide +kernel, rfl, by decide +kernel, by decide +kernel⟩
abbrev s_missing : Stmt := topS 17
abbrev N_missing : List Str := ["store", "entry", "places", "found", "block"]
theorem sc_missing : FnScope N_missing ["store", "entry"] (defScope s_missing) := ⟨rfl, rfl, rfl, by decide +kernel, rfl, by decide +kernel, by decide +kernel⟩
abbrev s_Pull___init__ : Stmt := inClass (topS 18) 0
abbrev N_Pull___init__ : List Str := ["self", "store", "entry", "temp", "size"]
theorem sc_Pull___init__ : FnScope N_Pull___init__ ["self", "store", "entry"] (defScope s_Pull___init__) := ⟨rfl, rfl, rfl, by decide +kernel, rfl, by decide +kernel, by decide +kernel⟩
abbrev s_Pull_count : Stmt := inClass (topS 18) 1
abbrev N_Pull_count : List Str := ["self"]
theorem sc_Pull_count : FnScope N_Pull_count ["self"] (defScope s_Pull_count) := ⟨rfl, rfl, rfl, by decide +kernel, rfl, by decide +kernel, by decide +kernel⟩
abbrev s_Pull_is_whole : Stmt := inClass (topS 18) 2
abbrev N_Pull_is_whole : List Str := ["self"]
theorem sc_Pull_is_whole : FnScope N_Pull_is_whole ["self"] (defScope s_Pull_is_whole) := ⟨rfl, rfl, rfl, by decide +kernel, rfl, by decide +kernel, by decide +kernel⟩
abbrev s_Pull_advance : Stmt := inClass (topS 18) 3
abbrev N_Pull_advance : List Str := ["self", "places", "block"]
theorem sc_Pull_advance : FnScope N_Pull_advance ["self"] (defScope s_Pull_advance) := ⟨rfl, rfl, rfl, by decide +kernel, rfl, by decide +kernel, by decide +kernel⟩
abbrev s_Pull_give : Stmt := inClass (topS 18) 4
abbrev N_Pull_give : List Str := ["self", "block", "data", "at"]
theorem sc_Pull_give : FnScope N_Pull_give ["self", "block", "data"] (defScope s_Pull_give) := ⟨rfl, rfl, rfl, by decide +kernel, rfl, by decide +kernel, by decide +kernel⟩
abbrev s_Pull_place : Stmt := inClass (topS 18) 5
abbrev N_Pull_place : List Str := ["self"]
theorem sc_Pull_place : FnScope N_Pull_place ["self"] (defScope s_Pull_place) := ⟨rfl, rfl, rfl, by decide +kernel, rfl, by decide +kernel, by decide +kernel⟩
abbrev s_Entry___init__ : Stmt := inClass (topS 20) 0
abbrev N_Entry___init__ : List Str := ["self", "name", "vector", "height", "maker", "deleted", "time", "blocks"]
theorem sc_Entry___init__ : FnScope N_Entry___init__ ["self", "name", "vector", "height", "maker", "deleted", "time", "blocks"] (defScope s_Entry___init__) := ⟨rfl, rfl, rfl, by decide +kernel, rfl, by decide +kernel, by decide +kernel⟩
abbrev s_Entry___eq__ : Stmt := inClass (topS 20) 1
abbrev N_Entry___eq__ : List Str := ["self", "other"]
theorem sc_Entry___eq__ : FnScope N_Entry___eq__ ["self", "other"] (defScope s_Entry___eq__) := ⟨rfl, rfl, rfl, by decide +kernel, rfl, by decide +kernel, by decide +kernel⟩
abbrev s_Store___init__ : Stmt := inClass (topS 22) 0
abbrev N_Store___init__ : List Str := ["self", "files", "log", "name", "content", "time"]
theorem sc_Store___init__ : FnScope N_Store___init__ ["self", "files", "log"] (defScope s_Store___init__) := ⟨rfl, rfl, rfl, by decide +kernel, rfl, by decide +kernel, by decide +kernel⟩
abbrev s_Store_set_budget : Stmt := inClass (topS 22) 1
abbrev N_Store_set_budget : List Str := ["self", "count"]
theorem sc_Store_set_budget : FnScope N_Store_set_budget ["self", "count"] (defScope s_Store_set_budget) := ⟨rfl, rfl, rfl, by decide +kernel, rfl, by decide +kernel, by decide +kernel⟩
abbrev s_Store_done : Stmt := inClass (topS 22) 2
abbrev N_Store_done : List Str := ["self"]
theorem sc_Store_done : FnScope N_Store_done ["self"] (defScope s_Store_done) := ⟨rfl, rfl, rfl, by decide +kernel, rfl, by decide +kernel, by decide +kernel⟩
abbrev s_Store__count_write : Stmt := inClass (topS 22) 3
abbrev N_Store__count_write : List Str := ["self"]
theorem sc_Store__count_write : FnScope N_Store__count_write ["self"] (defScope s_Store__count_write) := ⟨rfl, rfl, rfl, by decide +kernel, rfl, by decide +kernel, by decide +kernel⟩
abbrev s_Store_names : Stmt := inClass (topS 22) 4
abbrev N_Store_names : List Str := ["self"]
theorem sc_Store_names : FnScope N_Store_names ["self"] (defScope s_Store_names) := ⟨rfl, rfl, rfl, by decide +kernel, rfl, by decide +kernel, by decide +kernel⟩
abbrev s_Store_read : Stmt := inClass (topS 22) 5
abbrev N_Store_read : List Str := ["self", "name", "content", "time"]
theorem sc_Store_read : FnScope N_Store_read ["self", "name"] (defScope s_Store_read) := ⟨rfl, rfl, rfl, by decide +kernel, rfl, by decide +kernel, by decide +kernel⟩
abbrev s_Store_write : Stmt := inClass (topS 22) 6
abbrev N_Store_write : List Str := ["self", "name", "content", "time"]
theorem sc_Store_write : FnScope N_Store_write ["self", "name", "content", "time"] (defScope s_Store_write) := ⟨rfl, rfl, rfl, by decide +kernel, rfl, by decide +kernel, by decide +kernel⟩
abbrev s_Store_remove : Stmt := inClass (topS 22) 7
abbrev N_Store_remove : List Str := ["self", "name"]
theorem sc_Store_remove : FnScope N_Store_remove ["self", "name"] (defScope s_Store_remove) := ⟨rfl, rfl, rfl, by decide +kernel, rfl, by decide +kernel, by decide +kernel⟩
abbrev s_Store_rename : Stmt := inClass (topS 22) 8
abbrev N_Store_rename : List Str := ["self", "old", "new"]
theorem sc_Store_rename : FnScope N_Store_rename ["self", "old", "new"] (defScope s_Store_rename) := ⟨rfl, rfl, rfl, by decide +kernel, rfl, by decide +kernel, by decide +kernel⟩
abbrev s_Store_temp_names : Stmt := inClass (topS 22) 9
abbrev N_Store_temp_names : List Str := ["self"]
theorem sc_Store_temp_names : FnScope N_Store_temp_names ["self"] (defScope s_Store_temp_names) := ⟨rfl, rfl, rfl, by decide +kernel, rfl, by decide +kernel, by decide +kernel⟩
abbrev s_Store_temp : Stmt := inClass (topS 22) 10
abbrev N_Store_temp : List Str := ["self", "name"]
theorem sc_Store_temp : FnScope N_Store_temp ["self", "name"] (defScope s_Store_temp) := ⟨rfl, rfl, rfl, by decide +kernel, rfl, by decide +kernel, by decide +kernel⟩
abbrev s_Store_append_temp : Stmt := inClass (topS 22) 11
abbrev N_Store_append_temp : List Str := ["self", "name", "data", "byte"]
theorem sc_Store_append_temp : FnScope N_Store_append_temp ["self", "name", "data"] (defScope s_Store_append_temp) := ⟨rfl, rfl, rfl, by decide +kernel, rfl, by decide +kernel, by decide +kernel⟩
abbrev s_Store_cut_temp : Stmt := inClass (topS 22) 12
abbrev N_Store_cut_temp : List Str := ["self", "name", "count"]
theorem sc_Store_cut_temp : FnScope N_Store_cut_temp ["self", "name", "count"] (defScope s_Store_cut_temp) := ⟨rfl, rfl, rfl, by decide +kernel, rfl, by decide +kernel, by decide +kernel⟩
abbrev s_Store_place : Stmt := inClass (topS 22) 13
abbrev N_Store_place : List Str := ["self", "name", "time"]
theorem sc_Store_place : FnScope N_Store_place ["self", "name", "time"] (defScope s_Store_place) := ⟨rfl, rfl, rfl, by decide +kernel, rfl, by decide +kernel, by decide +kernel⟩
abbrev s_Store_attic : Stmt := inClass (topS 22) 14
abbrev N_Store_attic : List Str := ["self", "name", "vector", "content"]
theorem sc_Store_attic : FnScope N_Store_attic ["self"] (defScope s_Store_attic) := ⟨rfl, rfl, rfl, by decide +kernel, rfl, by decide +kernel, by decide +kernel⟩
abbrev s_Store_attic_put : Stmt := inClass (topS 22) 15
abbrev N_Store_attic_put : List Str := ["self", "name", "vector", "content"]
theorem sc_Store_attic_put : FnScope N_Store_attic_put ["self", "name", "vector", "content"] (defScope s_Store_attic_put) := ⟨rfl, rfl, rfl, by decide +kernel, rfl, by decide +kernel, by decide +kernel⟩
abbrev s_Store_attic_drop : Stmt := inClass (topS 22) 16
abbrev N_Store_attic_drop : List Str := ["self", "index"]
theorem sc_Store_attic_drop : FnScope N_Store_attic_drop ["self", "index"] (defScope s_Store_attic_drop) := ⟨rfl, rfl, rfl, by decide +kernel, rfl, by decide +kernel, by decide +kernel⟩
abbrev s_Store_log : Stmt := inClass (topS 22) 17
abbrev N_Store_log : List Str := ["self"]
theorem sc_Store_log : FnScope N_Store_log ["self"] (defScope s_Store_log) := ⟨rfl, rfl, rfl, by decide +kernel, rfl, by decide +kernel, by decide +kernel⟩
abbrev s_Store_log_size : Stmt := inClass (topS 22) 18
abbrev N_Store_log_size : List Str := ["self"]
theorem sc_Store_log_size : FnScope N_Store_log_size ["self"] (defScope s_Store_log_size) := ⟨rfl, rfl, rfl, by decide +kernel, rfl, by decide +kernel, by decide +kernel⟩
abbrev s_Store_new_log : Stmt := inClass (topS 22) 19
abbrev N_Store_new_log : List Str := ["self"]
theorem sc_Store_new_log : FnScope N_Store_new_log ["self"] (defScope s_Store_new_log) := ⟨rfl, rfl, rfl, by decide +kernel, rfl, by decide +kernel, by decide +kernel⟩
abbrev s_Store_log_append : Stmt := inClass (topS 22) 20
abbrev N_Store_log_append : List Str := ["self", "data"]
theorem sc_Store_log_append : FnScope N_Store_log_append ["self", "data"] (defScope s_Store_log_append) := ⟨rfl, rfl, rfl, by decide +kernel, rfl, by decide +kernel, by decide +kernel⟩
abbrev s_Store_new_log_append : Stmt := inClass (topS 22) 21
abbrev N_Store_new_log_append : List Str := ["self", "data"]
theorem sc_Store_new_log_append : FnScope N_Store_new_log_append ["self", "data"] (defScope s_Store_new_log_append) := ⟨rfl, rfl, rfl, by decide +kernel, rfl, by decide +kernel, by decide +kernel⟩
abbrev s_Store_drop_new_log : Stmt := inClass (topS 22) 22
abbrev N_Store_drop_new_log : List Str := ["self"]
theorem sc_Store_drop_new_log : FnScope N_Store_drop_new_log ["self"] (defScope s_Store_drop_new_log) := ⟨rfl, rfl, rfl, by decide +kernel, rfl, by decide +kernel, by decide +kernel⟩
abbrev s_Store_switch_log : Stmt := inClass (topS 22) 23
abbrev N_Store_switch_log : List Str := ["self"]
theorem sc_Store_switch_log : FnScope N_Store_switch_log ["self"] (defScope s_Store_switch_log) := ⟨rfl, rfl, rfl, by decide +kernel, rfl, by decide +kernel, by decide +kernel⟩
abbrev s_Store_durable : Stmt := inClass (topS 22) 24
abbrev N_Store_durable : List Str := ["self", "files", "temps", "attic", "name", "vector", "content"]
theorem sc_Store_durable : FnScope N_Store_durable ["self"] (defScope s_Store_durable) := ⟨rfl, rfl, rfl, by decide +kernel, rfl, by decide +kernel, by decide +kernel⟩
abbrev s_Store__keep : Stmt := inClass (topS 22) 25
abbrev N_Store__keep : List Str := ["self", "temps", "attic", "new_log", "name", "content", "vector"]
theorem sc_Store__keep : FnScope N_Store__keep ["self", "temps", "attic", "new_log"] (defScope s_Store__keep) := ⟨rfl, rfl, rfl, by decide +kernel, rfl, by decide +kernel, by decide +kernel⟩
abbrev s_from_durable : Stmt := topS 23
abbrev N_from_durable : List Str := ["value", "files", "temps", "attic", "log", "new_log", "store", "name", "content", "time"]
theorem sc_from_durable : FnScope N_from_durable ["value"] (defScope s_from_durable) := ⟨rfl, rfl, rfl, by decide +kernel, rfl, by decide +kernel, by decide +kernel⟩
abbrev s_law_draw : Stmt := topS 25
abbrev N_law_draw : List Str := ["state", "script", "size", "cell", "mixed", "digit"]
theorem sc_law_draw : FnScope N_law_draw ["state", "script", "size"] (defScope s_law_draw) := ⟨rfl, rfl, rfl, by decide +kernel, rfl, by decide +kernel, by decide +kernel⟩
abbrev s_law_name : Stmt := topS 26
abbrev N_law_name : List Str := ["state", "script"]
theorem sc_law_name : FnScope N_law_name ["state", "script"] (defScope s_law_name) := ⟨rfl, rfl, rfl, by decide +kernel, rfl, by decide +kernel, by decide +kernel⟩
abbrev s_law_content : Stmt := topS 27
abbrev N_law_content : List Str := ["state", "script", "most", "words", "content", "k"]
theorem sc_law_content : FnScope N_law_content ["state", "script", "most"] (defScope s_law_content) := ⟨rfl, rfl, rfl, by decide +kernel, rfl, by decide +kernel, by decide +kernel⟩
abbrev s_law_blocks : Stmt := topS 28
abbrev N_law_blocks : List Str := ["content", "found", "k", "number", "byte"]
theorem sc_law_blocks : FnScope N_law_blocks ["content"] (defScope s_law_blocks) := ⟨rfl, rfl, rfl, by decide +kernel, rfl, by decide +kernel, by decide +kernel⟩
abbrev s_law_bytes : Stmt := topS 29
abbrev N_law_bytes : List Str := ["blocks", "content", "block", "part"]
theorem sc_law_bytes : FnScope N_law_bytes ["blocks"] (defScope s_law_bytes) := ⟨rfl, rfl, rfl, by decide +kernel, rfl, by decide +kernel, by decide +kernel⟩
abbrev s_law_refused : Stmt := topS 30
abbrev N_law_refused : List Str := ["state", "script", "store", "pull", "block", "before", "data", "wrong"]
theorem sc_law_refused : FnScope N_law_refused ["state", "script", "store", "pull", "block"] (defScope s_law_refused) := ⟨rfl, rfl, rfl, by decide +kernel, rfl, by decide +kernel, by decide +kernel⟩
abbrev s_law_pulled : Stmt := topS 31
abbrev N_law_pulled : List Str := ["state", "script", "store", "entry", "asked", "pull", "turn", "block"]
theorem sc_law_pulled : FnScope N_law_pulled ["state", "script", "store", "entry", "asked"] (defScope s_law_pulled) := ⟨rfl, rfl, rfl, by decide +kernel, rfl, by decide +kernel, by decide +kernel⟩
abbrev s_law : Stmt := topS 32
abbrev N_law : List Str := ["script", "state", "content", "entry", "files", "k", "store", "due", "old", "rest", "asked", "cuts", "word", "turn", "once", "block", "name"]
theorem sc_law : FnScope N_law ["script"] (defScope s_law) := ⟨rfl, rfl, rfl, by decide +kernel, rfl, by decide +kernel, by decide +kernel⟩
structure Txt (K : PySem.W.Frag) (mg : Str → Option Value) : Prop where
  f_dict : mg "dict" = none
  f_enumerate : mg "enumerate" = none
  f_int : mg "int" = none
  f_len : mg "len" = none
  f_list : mg "list" = none
  f_range : mg "range" = none
  f_reversed : mg "reversed" = none
  f_sorted : mg "sorted" = none
  f_tuple : mg "tuple" = none
  c_BLOCK : ∃ u, mg "BLOCK" = some u ∧ RelV (.int 4) u
  er_PowerCut : ErrAll K mg "PowerCut" "FolderkinError"
  cl_Entry : Cls K (He.ga K "Entry")
  g_Entry : mg "Entry" = some (.ref (He.ga K "Entry"))
  no_Entry_name : NoAttr K (He.ga K "Entry") "name"
  no_Entry_vector : NoAttr K (He.ga K "Entry") "vector"
  no_Entry_height : NoAttr K (He.ga K "Entry") "height"
  no_Entry_maker : NoAttr K (He.ga K "Entry") "maker"
  no_Entry_deleted : NoAttr K (He.ga K "Entry") "deleted"
  no_Entry_time : NoAttr K (He.ga K "Entry") "time"
  no_Entry_blocks : NoAttr K (He.ga K "Entry") "blocks"
  cl_Store : Cls K (He.ga K "Store")
  g_Store : mg "Store" = some (.ref (He.ga K "Store"))
  no_Store__files : NoAttr K (He.ga K "Store") "_files"
  no_Store__temps : NoAttr K (He.ga K "Store") "_temps"
  no_Store__attic : NoAttr K (He.ga K "Store") "_attic"
  no_Store__log : NoAttr K (He.ga K "Store") "_log"
  no_Store__new_log : NoAttr K (He.ga K "Store") "_new_log"
  no_Store__budget : NoAttr K (He.ga K "Store") "_budget"
  no_Store__done : NoAttr K (He.ga K "Store") "_done"
  cl_Pull : Cls K (He.ga K "Pull")
  g_Pull : mg "Pull" = some (.ref (He.ga K "Pull"))
  no_Pull__store : NoAttr K (He.ga K "Pull") "_store"
  no_Pull__entry : NoAttr K (He.ga K "Pull") "_entry"
def bnum (c : List Int) : Int := c.foldl (fun n b => n * 256 + b) 1
def bsize (n : Int) : Int := if n / 256 = 1 then 1 else if n / 65536 = 1 then 2 else if n / 16777216 = 1 then 3 else if n / 4294967296 = 1 then 4 else 0
def bbytes (n : Int) : List Int :=
  if bsize n = 1 then [n % 256] else if bsize n = 2 then [n / 256 % 256, n % 256] else if bsize n = 3 then [n / 65536 % 256, n / 256 % 256, n % 256]
  else if bsize n = 4 then [n / 16777216 % 256, n / 65536 % 256, n / 256 % 256, n % 256] else []
def isB (c : List Int) : Prop := ∀ b ∈ c, 0 ≤ b ∧ b < 256
def chunks : List Int → List (List Int)
  | [] => []
  | [a] => [[a]]
  | [a, b] => [[a, b]]
  | [a, b, c] => [[a, b, c]]
  | a :: b :: c :: d :: r => [a, b, c, d] :: chunks r
theorem chunks_flat : ∀ xs, (chunks xs).flatten = xs
  | [] => rfl
  | [a] => rfl
  | [a, b] => rfl
  | [a, b, c] => rfl
  | a :: b :: c :: d :: r => by
    show [a, b, c, d] ++ (chunks r).flatten = _
    rw [chunks_flat r]
    rfl
theorem chunks_len : ∀ xs, (chunks xs).length = (xs.length + 3) / 4
  | [] => rfl
  | [a] => by simp [chunks]
  | [a, b] => by simp [chunks]
  | [a, b, c] => by simp [chunks]
  | a :: b :: c :: d :: r => by
    have ih := chunks_len r
    show (chunks r).length + 1 = (r.length + 4 + 3) / 4
    omega
theorem chunks_get : ∀ (xs : List Int) (i : Nat), i < (xs.length + 3) / 4 → (chunks xs)[i]? = some ((xs.drop (4 * i)).take 4)
  | [], i, h => by simp at h
  | [a], i, h => by
    have e : i = 0 := by simp at h; omega
    subst e; rfl
  | [a, b], i, h => by
    have e : i = 0 := by simp at h; omega
    subst e; rfl
  | [a, b, c], i, h => by
    have e : i = 0 := by simp at h; omega
    subst e; rfl
  | a :: b :: c :: d :: r, 0, h => rfl
  | a :: b :: c :: d :: r, i + 1, h => by
    have ih := chunks_get r i (by simp at h; omega)
    show (chunks r)[i]? = _
    rw [ih]
    have e : 4 * (i + 1) = (4 * i) + 1 + 1 + 1 + 1 := by omega
    rw [e]
    rfl
theorem chunks_map (xs : List Int) : chunks xs = (List.range ((xs.length + 3) / 4)).map fun i => (xs.drop (4 * i)).take 4 := by
  refine List.ext_getElem? fun i => ?_
  by_cases h : i < (xs.length + 3) / 4
  · rw [chunks_get xs i h, List.getElem?_map, List.getElem?_range h]
    rfl
  · rw [List.getElem?_eq_none (by rw [chunks_len]; omega), List.getElem?_eq_none (by simp; omega)]
/-- a piece: one to four bytes -/
structure Piece (c : List Int) : Prop where
  b : isB c
  h1 : 1 ≤ c.length
  h4 : c.length ≤ 4
theorem chunks_piece : ∀ (xs : List Int), isB xs → ∀ c ∈ chunks xs, Piece c
  | [], _, c, h => by cases h
  | [a], hb, c, h => by
    rw [List.mem_singleton.mp h]; exact ⟨hb, by simp, by simp⟩
  | [a, b], hb, c, h => by
    rw [List.mem_singleton.mp h]; exact ⟨hb, by simp, by simp⟩
  | [a, b, c'], hb, c, h => by
    rw [List.mem_singleton.mp h]; exact ⟨hb, by simp, by simp⟩
  | a :: b :: c' :: d :: r, hb, c, h => by
    rcases List.mem_cons.mp h with e | h
    · rw [e]
      exact ⟨fun x hx => hb x (by simp at hx ⊢; rcases hx with q | q | q | q <;> simp [q]), by simp, by simp⟩
    · exact chunks_piece r (fun x hx => hb x (by simp [hx])) c h
theorem Piece.cases {c : List Int} {P : List Int → Prop} (h : Piece c) (p1 : ∀ a, 0 ≤ a ∧ a < 256 → P [a]) (p2 : ∀ a b, 0 ≤ a ∧ a < 256 → 0 ≤ b ∧ b < 256 → P [a, b])
    (p3 : ∀ a b d, 0 ≤ a ∧ a < 256 → 0 ≤ b ∧ b < 256 → 0 ≤ d ∧ d < 256 → P [a, b, d]) (p4 : ∀ a b d e, 0 ≤ a ∧ a < 256 → 0 ≤ b ∧ b < 256 → 0 ≤ d ∧ d < 256 → 0 ≤ e ∧ e < 256 → P [a, b, d, e]) : P c := by
  obtain ⟨hb, h1, h4⟩ := h
  match c, hb, h1, h4 with
  | [a], hb, _, _ => exact p1 a (hb a (by simp))
  | [a, b], hb, _, _ => exact p2 a b (hb a (by simp)) (hb b (by simp))
  | [a, b, d], hb, _, _ => exact p3 a b d (hb a (by simp)) (hb b (by simp)) (hb d (by simp))
  | [a, b, d, e], hb, _, _ => exact p4 a b d e (hb a (by simp)) (hb b (by simp)) (hb d (by simp)) (hb e (by simp))
  | _ :: _ :: _ :: _ :: _ :: _, _, _, h4 => simp at h4
theorem bnum1 (a : Int) : bnum [a] = 256 + a := by simp [bnum]
theorem bnum2 (a b : Int) : bnum [a, b] = 65536 + a * 256 + b := by simp [bnum]; omega
theorem bnum3 (a b d : Int) : bnum [a, b, d] = 16777216 + a * 65536 + b * 256 + d := by simp [bnum]; omega
theorem bnum4 (a b d e : Int) : bnum [a, b, d, e] = 4294967296 + a * 16777216 + b * 65536 + d * 256 + e := by simp [bnum]; omega
theorem bsize_bnum {c : List Int} (h : Piece c) : bsize (bnum c) = c.length := by
  refine h.cases (P := fun c => bsize (bnum c) = c.length) (fun a ha => ?_) (fun a b ha hb => ?_) (fun a b d ha hb hd => ?_) (fun a b d e ha hb hd he => ?_)
  · rw [bnum1]; unfold bsize; rw [if_pos (by omega)]; rfl
  · rw [bnum2]; unfold bsize; rw [if_neg (by omega), if_pos (by omega)]; rfl
  · rw [bnum3]; unfold bsize; rw [if_neg (by omega), if_neg (by omega), if_pos (by omega)]; rfl
  · rw [bnum4]; unfold bsize; rw [if_neg (by omega), if_neg (by omega), if_neg (by omega), if_pos (by omega)]; rfl
theorem bbytes_bnum {c : List Int} (h : Piece c) : bbytes (bnum c) = c := by
  have hs := bsize_bnum h
  unfold bbytes
  rw [hs]
  refine h.cases (P := fun c => (if (c.length : Int) = 1 then [bnum c % 256] else if (c.length : Int) = 2 then [bnum c / 256 % 256, bnum c % 256] else if (c.length : Int) = 3 then [bnum c / 65536 % 256, bnum c / 256 % 256, bnum c % 256]
    else if (c.length : Int) = 4 then [bnum c / 16777216 % 256, bnum c / 65536 % 256, bnum c / 256 % 256, bnum c % 256] else []) = c) (fun a ha => ?_) (fun a b ha hb => ?_) (fun a b d ha hb hd => ?_) (fun a b d e ha hb hd he => ?_)
  · rw [if_pos (show ((([a] : List Int).length : Nat) : Int) = 1 from rfl), bnum1]
    congr 1
    omega
  · rw [if_neg (by simp), if_pos (show ((([a, b] : List Int).length : Nat) : Int) = 2 from rfl), bnum2]
    have e1 : (65536 + a * 256 + b) / 256 % 256 = a := by omega
    have e2 : (65536 + a * 256 + b) % 256 = b := by omega
    rw [e1, e2]
  · rw [if_neg (by simp), if_neg (by simp), if_pos (show ((([a, b, d] : List Int).length : Nat) : Int) = 3 from rfl), bnum3]
    have e1 : (16777216 + a * 65536 + b * 256 + d) / 65536 % 256 = a := by omega
    have e2 : (16777216 + a * 65536 + b * 256 + d) / 256 % 256 = b := by omega
    have e3 : (16777216 + a * 65536 + b * 256 + d) % 256 = d := by omega
    rw [e1, e2, e3]
  · rw [if_neg (by simp), if_neg (by simp), if_neg (by simp), if_pos (show ((([a, b, d, e] : List Int).length : Nat) : Int) = 4 from rfl), bnum4]
    have e1 : (4294967296 + a * 16777216 + b * 65536 + d * 256 + e) / 16777216 % 256 = a := by omega
    have e2 : (4294967296 + a * 16777216 + b * 65536 + d * 256 + e) / 65536 % 256 = b := by omega
    have e3 : (4294967296 + a * 16777216 + b * 65536 + d * 256 + e) / 256 % 256 = d := by omega
    have e4 : (4294967296 + a * 16777216 + b * 65536 + d * 256 + e) % 256 = e := by omega
    rw [e1, e2, e3, e4]
theorem bnum_inj {c d : List Int} (hc : Piece c) (hd : Piece d) : bnum c = bnum d ↔ c = d :=
  ⟨fun e => by rw [← bbytes_bnum hc, ← bbytes_bnum hd, e], fun e => by rw [e]⟩
theorem flat_bytes {xs : List Int} (h : isB xs) : ((chunks xs).map bnum).flatMap bbytes = xs := by
  have q : ∀ l : List (List Int), (∀ c ∈ l, Piece c) → (l.map bnum).flatMap bbytes = l.flatten := by
    intro l
    induction l with
    | nil => intro _; rfl
    | cons c r ih =>
      intro hp
      show bbytes (bnum c) ++ (r.map bnum).flatMap bbytes = c ++ r.flatten
      rw [bbytes_bnum (hp c (List.mem_cons_self ..)), ih fun d hd => hp d (List.mem_cons_of_mem _ hd)]
  rw [q _ (chunks_piece xs h), chunks_flat]
def nums (xs : List Int) : List Int := (chunks xs).map bnum
theorem nums_inj {xs ys : List Int} (h1 : isB xs) (h2 : isB ys) : nums xs = nums ys ↔ xs = ys :=
  ⟨fun e => by rw [← flat_bytes h1, ← flat_bytes h2]; exact congrArg _ e, fun e => by rw [e]⟩
/-- the order of two rows of bytes by their pieces -/
def lessP : List (List Int) → List (List Int) → Bool
  | [], [] => false
  | [], _ :: _ => true
  | _ :: _, [] => false
  | c :: cs, d :: ds => if c = d then lessP cs ds else if c.length = d.length then HT.lexLt c d else decide (c.length < d.length)
theorem bnum_len {c d : List Int} (hc : Piece c) (hd : Piece d) (h : c.length < d.length) : bnum c < bnum d := by
  have key : ∀ c : List Int, Piece c → 256 ^ c.length ≤ bnum c ∧ bnum c < 2 * 256 ^ c.length := fun c h => by
    refine h.cases (P := fun c => 256 ^ c.length ≤ bnum c ∧ bnum c < 2 * 256 ^ c.length) (fun a ha => ?_) (fun a b ha hb => ?_) (fun a b d ha hb hd => ?_) (fun a b d e ha hb hd he => ?_)
    · rw [bnum1, show (256 : Int) ^ ([a] : List Int).length = 256 from rfl]; omega
    · rw [bnum2, show (256 : Int) ^ ([a, b] : List Int).length = 65536 from rfl]; omega
    · rw [bnum3]
      show (256 : Int) ^ 3 ≤ _ ∧ _ < 2 * (256 : Int) ^ 3
      rw [show (256 : Int) ^ 3 = 16777216 by decide +kernel]; omega
    · rw [bnum4]
      show (256 : Int) ^ 4 ≤ _ ∧ _ < 2 * (256 : Int) ^ 4
      rw [show (256 : Int) ^ 4 = 4294967296 by decide +kernel]; omega
  have k1 := (key c hc).2
  have k2 := (key d hd).1
  have l1 := hc.h1
  have l4 := hd.h4
  have e : ∀ n : Nat, 1 ≤ n → n < d.length → (2 : Int) * 256 ^ n ≤ 256 ^ d.length := fun n h1 h2 => by
    have hd4 : d.length = 2 ∨ d.length = 3 ∨ d.length = 4 := by omega
    have hn : n = 1 ∨ n = 2 ∨ n = 3 := by omega
    rcases hd4 with q | q | q <;> rcases hn with r | r | r <;> rw [q, r] <;> first | decide | (exfalso; omega)
  have := e _ l1 h
  omega
theorem bnum_lex {c d : List Int} (hc : Piece c) (hd : Piece d) (h : c.length = d.length) (hne : c ≠ d) : decide (bnum c < bnum d) = HT.lexLt c d := by
  obtain ⟨bc, c1, c4⟩ := hc
  obtain ⟨bd, d1, d4⟩ := hd
  match c, d, bc, c1, c4, bd, h, hne with
  | [a], [b], bc, _, _, bd, _, hne =>
    have h1 := bc a (by simp)
    have h2 := bd b (by simp)
    have n1 : a ≠ b := fun e => hne (by rw [e])
    rw [bnum1, bnum1]
    show _ = if a = b then false else decide (a < b)
    rw [if_neg n1]
    exact decide_eq_decide.mpr (by omega)
  | [a, a2], [b, b2], bc, _, _, bd, _, hne =>
    have h1 := bc a (by simp)
    have h2 := bd b (by simp)
    have h3 := bc a2 (by simp)
    have h4 := bd b2 (by simp)
    rw [bnum2, bnum2]
    show _ = if a = b then (if a2 = b2 then false else decide (a2 < b2)) else decide (a < b)
    by_cases n1 : a = b
    · rw [if_pos n1]
      have n2 : a2 ≠ b2 := fun e => hne (by rw [n1, e])
      rw [if_neg n2]
      exact decide_eq_decide.mpr (by omega)
    · rw [if_neg n1]
      exact decide_eq_decide.mpr (by omega)
  | [a, a2, a3], [b, b2, b3], bc, _, _, bd, _, hne =>
    have h1 := bc a (by simp)
    have h2 := bd b (by simp)
    have h3 := bc a2 (by simp)
    have h4 := bd b2 (by simp)
    have h5 := bc a3 (by simp)
    have h6 := bd b3 (by simp)
    rw [bnum3, bnum3]
    show _ = if a = b then (if a2 = b2 then (if a3 = b3 then false else decide (a3 < b3)) else decide (a2 < b2)) else decide (a < b)
    by_cases n1 : a = b
    · rw [if_pos n1]
      by_cases n2 : a2 = b2
      · rw [if_pos n2]
        have n3 : a3 ≠ b3 := fun e => hne (by rw [n1, n2, e])
        rw [if_neg n3]
        exact decide_eq_decide.mpr (by omega)
      · rw [if_neg n2]
        exact decide_eq_decide.mpr (by omega)
    · rw [if_neg n1]
      exact decide_eq_decide.mpr (by omega)
  | [a, a2, a3, a4], [b, b2, b3, b4], bc, _, _, bd, _, hne =>
    have h1 := bc a (by simp)
    have h2 := bd b (by simp)
    have h3 := bc a2 (by simp)
    have h4 := bd b2 (by simp)
    have h5 := bc a3 (by simp)
    have h6 := bd b3 (by simp)
    have h7 := bc a4 (by simp)
    have h8 := bd b4 (by simp)
    rw [bnum4, bnum4]
    show _ = if a = b then (if a2 = b2 then (if a3 = b3 then (if a4 = b4 then false else decide (a4 < b4)) else decide (a3 < b3)) else decide (a2 < b2)) else decide (a < b)
    by_cases n1 : a = b
    · rw [if_pos n1]
      by_cases n2 : a2 = b2
      · rw [if_pos n2]
        by_cases n3 : a3 = b3
        · rw [if_pos n3]
          have n4 : a4 ≠ b4 := fun e => hne (by rw [n1, n2, n3, e])
          rw [if_neg n4]
          exact decide_eq_decide.mpr (by omega)
        · rw [if_neg n3]
          exact decide_eq_decide.mpr (by omega)
      · rw [if_neg n2]
        exact decide_eq_decide.mpr (by omega)
    · rw [if_neg n1]
      exact decide_eq_decide.mpr (by omega)
theorem lex_nums : ∀ {cs ds : List (List Int)}, (∀ c ∈ cs, Piece c) → (∀ d ∈ ds, Piece d) → HT.lexLt (cs.map bnum) (ds.map bnum) = lessP cs ds
  | [], [], _, _ => rfl
  | [], _ :: _, _, _ => rfl
  | _ :: _, [], _, _ => rfl
  | c :: cs, d :: ds, h1, h2 => by
    have pc := h1 c (List.mem_cons_self ..)
    have pd := h2 d (List.mem_cons_self ..)
    have ih := lex_nums (cs := cs) (ds := ds) (fun x hx => h1 x (List.mem_cons_of_mem _ hx)) (fun x hx => h2 x (List.mem_cons_of_mem _ hx))
    show (if bnum c = bnum d then HT.lexLt (cs.map bnum) (ds.map bnum) else decide (bnum c < bnum d)) = if c = d then lessP cs ds else if c.length = d.length then HT.lexLt c d else decide (c.length < d.length)
    by_cases e : c = d
    · rw [if_pos e, if_pos (by rw [e]), ih]
    · rw [if_neg e, if_neg (fun q => e ((bnum_inj pc pd).mp q))]
      by_cases l : c.length = d.length
      · rw [if_pos l, bnum_lex pc pd l e]
      · rw [if_neg l]
        by_cases l2 : c.length < d.length
        · rw [decide_eq_true l2, decide_eq_true (bnum_len pc pd l2)]
        · have := bnum_len pd pc (by omega)
          rw [decide_eq_false l2, decide_eq_false (by omega)]
def sp_block_number (K : PySem.W.Frag) : Sp := sp1 fun a H Q => ∃ (p : Addr) (xs : List Int), a = .ref p ∧ SqL K H p (xs.map V.int) ∧ Q (.int (bnum xs)) H
def sp_block_size (K : PySem.W.Frag) : Sp := sp1 fun a H Q => ∃ n : Int, a = .int n ∧ Q (.int (bsize n)) H
def sp_is_block (K : PySem.W.Frag) : Sp := sp1 fun a H Q => ∃ n : Int, a = .int n ∧ Q (.bl (decide (0 < bsize n))) H
def sp_block_bytes (K : PySem.W.Frag) : Sp := sp1 fun a H Q => ∃ n : Int, a = .int n ∧ 0 < bsize n ∧ ∀ (p : Addr) (H' : Hp), H p = none → Same H H' → H' p = some (.lst ((bbytes n).map V.int)) → Q (.ref p) H'
def sp_split (K : PySem.W.Frag) : Sp := sp1 fun a H Q => ∃ (p : Addr) (xs : List Int), a = .ref p ∧ SqL K H p (xs.map V.int) ∧ xs.length ≤ 100000 ∧ ∀ (q : Addr) (H' : Hp), H q = none → Same H H' → H' q = some (.tup ((nums xs).map V.int)) → Q (.ref q) H'
theorem bsize_le (n : Int) : 0 ≤ bsize n ∧ bsize n ≤ 4 := by
  unfold bsize
  repeat' split
  all_goals omega
theorem bbytes_len (n : Int) : (bbytes n).length ≤ 4 := by
  unfold bbytes
  repeat' split
  all_goals simp
theorem range4 {n : Int} (h0 : 0 ≤ n) (h1 : n ≤ 1000000) : RgC 0 n 4 ((n.toNat + 3) / 4) := by
  have e : Builtin.Range.rangeSize 0 n 4 = (((n.toNat + 3) / 4 : Nat) : Int) := by
    rw [PyProof.Rows.rangeSize_pos (by decide) h0]
    omega
  refine ⟨by decide, by decide, ?_, e⟩
  unfold Builtin.Range.small
  rw [e]
  simp only [Builtin.Range.rangeFitsLong, Bool.and_eq_true, Bool.or_eq_true, decide_eq_true_eq, beq_iff_eq, show ((4 : Int) > 0) by decide, if_true]
  omega
theorem cut_chunk (xs : List Int) (i : Nat) : cutV (xs.map V.int) (some (0 + (i : Nat) * 4)) (some (0 + (i : Nat) * 4 + 4)) = ((xs.drop (4 * i)).take 4).map V.int := by
  unfold cutV
  have e1 : (0 + ((i : Nat) : Int) * 4) = ((4 * i : Nat) : Int) := by omega
  have e2 : (0 + ((i : Nat) : Int) * 4 + 4) = ((4 * i + 4 : Nat) : Int) := by omega
  rw [e2, e1, HT.sIx_nat, HT.sIx_nat, List.length_map, List.map_take, List.map_drop]
  by_cases h : 4 * i ≤ xs.length
  · rw [Nat.min_eq_left h]
    by_cases h2 : 4 * i + 4 ≤ xs.length
    · rw [Nat.min_eq_left h2, show 4 * i + 4 - 4 * i = 4 by omega]
    · rw [Nat.min_eq_right (by omega)]
      rw [List.take_of_length_le (by simp), List.take_of_length_le (by simp; omega)]
  · rw [Nat.min_eq_right (by omega), Nat.min_eq_right (by omega)]
    rw [List.drop_eq_nil_of_le (by simp), List.drop_eq_nil_of_le (by simp; omega)]
    simp
theorem bbytes_length {n : Int} (h : 0 < bsize n) : (bbytes n).length = (bsize n).toNat := by
  have h4 := (bsize_le n).2
  unfold bbytes
  by_cases e1 : bsize n = 1
  · rw [if_pos e1, e1]; rfl
  · rw [if_neg e1]
    by_cases e2 : bsize n = 2
    · rw [if_pos e2, e2]; rfl
    · rw [if_neg e2]
      by_cases e3 : bsize n = 3
      · rw [if_pos e3, e3]; rfl
      · rw [if_neg e3]
        have e4 : bsize n = 4 := by omega
        rw [if_pos e4, e4]; rfl
theorem byte_at {n : Int} {i : Nat} (h : 0 < bsize n) (hi : i < (bsize n - 0).toNat) : n / 2 ^ (8 * (0 + ((bsize n - 0).toNat : Int) - 1 + (i : Int) * -1)).toNat % 2 ^ 8 = (bbytes n).getD i 0 := by
  have h4 := (bsize_le n).2
  unfold bbytes
  by_cases e1 : bsize n = 1
  · rw [if_pos e1]
    rw [e1] at hi ⊢
    have ei : i = 0 := by omega
    subst ei
    show n / 1 % 256 = n % 256
    omega
  · rw [if_neg e1]
    by_cases e2 : bsize n = 2
    · rw [if_pos e2]
      rw [e2] at hi ⊢
      have hi2 : i < 2 := by omega
      match i, hi2 with
      | 0, _ => rfl
      | 1, _ =>
        show n / 1 % 256 = n % 256
        omega
    · rw [if_neg e2]
      by_cases e3 : bsize n = 3
      · rw [if_pos e3]
        rw [e3] at hi ⊢
        have hi2 : i < 3 := by omega
        match i, hi2 with
        | 0, _ => rfl
        | 1, _ => rfl
        | 2, _ =>
          show n / 1 % 256 = n % 256
          omega
      · rw [if_neg e3]
        have e4 : bsize n = 4 := by omega
        rw [if_pos e4]
        rw [e4] at hi ⊢
        have hi2 : i < 4 := by omega
        match i, hi2 with
        | 0, _ => rfl
        | 1, _ => rfl
        | 2, _ => rfl
        | 3, _ =>
          show n / 1 % 256 = n % 256
          omega
theorem map_getD : ∀ (l : List Int), (List.range l.length).map (fun i => V.int (l.getD i 0)) = l.map V.int := fun l => by
  refine List.ext_getElem? fun i => ?_
  by_cases h : i < l.length
  · rw [List.getElem?_map, List.getElem?_range h, List.getElem?_map, List.getElem?_eq_getElem h]
    show some (V.int (l.getD i 0)) = some (V.int l[i])
    rw [List.getD_eq_getElem?_getD, List.getElem?_eq_getElem h]
    rfl
  · rw [List.getElem?_eq_none (by simp; omega), List.getElem?_eq_none (by simp; omega)]
theorem nums_range (xs : List Int) : (nums xs).map V.int = (List.range ((xs.length + 3) / 4)).map fun i => V.int (bnum ((xs.drop (4 * i)).take 4)) := by
  unfold nums
  rw [chunks_map, List.map_map, List.map_map]
  rfl
theorem nums_len (xs : List Int) : (nums xs).length = (xs.length + 3) / 4 := by
  unfold nums
  rw [List.length_map, chunks_len]
theorem flat_len : ∀ ns : List Int, (ns.flatMap bbytes).length ≤ 4 * ns.length
  | [] => Nat.zero_le _
  | n :: r => by
    have ih := flat_len r
    have := bbytes_len n
    show (bbytes n ++ r.flatMap bbytes).length ≤ 4 * (r.length + 1)
    rw [List.length_append]
    omega
theorem same_tup {K : PySem.W.Frag} {H H' : Hp} {a : Addr} {xs : List V} (e : Same H H') (h : SqT K H a xs) : SqT K H' a xs := by
  rcases h with (h | ⟨o, h⟩) | h
  · exact .inl (.inl (e _ _ h))
  · exact .inl (.inr ⟨o, e _ _ h⟩)
  · exact .inr h
theorem cut_chunk2 (xs : List Int) (i : Nat) : cutV (xs.map V.int) (some (4 * (0 + (i : Nat)))) (some (4 * (0 + (i : Nat)) + 4)) = ((xs.drop (4 * i)).take 4).map V.int := by
  have e : (4 * (0 + ((i : Nat) : Int))) = 0 + (i : Nat) * 4 := by omega
  rw [e]; exact cut_chunk xs i
theorem nums_at {xs : List Int} {i : Nat} (h : i < (xs.length + 3) / 4) : (nums xs)[i]? = some (bnum ((xs.drop (4 * i)).take 4)) := by
  rw [nums, List.getElem?_map, chunks_get xs i h]; rfl
theorem nums_get {xs : List Int} {i : Nat} (h : i < (xs.length + 3) / 4) : atI ((nums xs).map V.int) (0 + (i : Nat)) = some (.int (bnum ((xs.drop (4 * i)).take 4))) :=
  at_of (j := i) (by omega) (by rw [List.getElem?_map, nums_at h]; rfl)
theorem chunk_piece {xs : List Int} (hb : isB xs) {i : Nat} (h : i < (xs.length + 3) / 4) : Piece ((xs.drop (4 * i)).take 4) :=
  chunks_piece xs hb _ (List.mem_of_getElem? (chunks_get xs i h))
theorem nums_pos {xs : List Int} (hb : isB xs) : ∀ n ∈ nums xs, 0 < bsize n := fun n hn => by
  obtain ⟨c, hc, rfl⟩ := List.mem_map.mp hn
  have q := chunks_piece xs hb c hc
  have := q.h1
  rw [bsize_bnum q]
  omega
theorem nums_len' (xs : List Int) : (nums xs).length = (xs.length + 3) / 4 := by rw [nums, List.length_map, chunks_len]
/-- blocks of one content -/
def isBlocks (ns : List Int) : Bool := decide (ns.length ≤ 255) && ns.dropLast.all (fun n => decide (bsize n = 4)) && (decide (ns = []) || decide (0 < bsize (ns.getLastD 0)))
theorem isBl_long {ns : List Int} (h : 255 < ns.length) : isBlocks ns = false := by
  unfold isBlocks
  rw [decide_eq_false (by omega)]
  rfl
theorem isBl_bad {ns : List Int} {x : Int} (h : x ∈ ns.dropLast) (h2 : ¬ bsize x = 4) : isBlocks ns = false := by
  unfold isBlocks
  have e : (ns.dropLast.all fun n => decide (bsize n = 4)) = false := by
    rw [List.all_eq_false]
    exact ⟨x, h, by rw [decide_eq_false h2]; exact Bool.false_ne_true⟩
  rw [e, Bool.and_false, Bool.false_and]
theorem isBl_end {ns : List Int} (h1 : ns.length ≤ 255) (h2 : ∀ n ∈ ns.dropLast, bsize n = 4) : isBlocks ns = (decide (ns = []) || decide (0 < bsize (ns.getLastD 0))) := by
  unfold isBlocks
  have e : (ns.dropLast.all fun n => decide (bsize n = 4)) = true := by
    rw [List.all_eq_true]
    exact fun n hn => decide_eq_true (h2 n hn)
  rw [e, decide_eq_true h1]
  rfl
theorem isBl_nums {xs : List Int} (hb : isB xs) (hl : xs.length ≤ 1020) : isBlocks (nums xs) = true := by
  have n1 := nums_len' xs
  rw [isBl_end (by omega) fun n hn => ?_]
  · by_cases e : nums xs = []
    · rw [decide_eq_true e]; rfl
    · have hm : (nums xs).getLastD 0 ∈ nums xs := by
        rw [List.getLastD_eq_getLast?, List.getLast?_eq_some_getLast e]
        exact List.getLast_mem e
      rw [decide_eq_true (nums_pos hb _ hm), Bool.or_true]
  · obtain ⟨i, hi⟩ := List.getElem?_of_mem hn
    rw [List.getElem?_dropLast] at hi
    split at hi
    · rename_i h2
      have h3 : i < (xs.length + 3) / 4 := by omega
      rw [nums_at h3] at hi
      rw [← Option.some.inj hi, bsize_bnum (chunk_piece hb h3), List.length_take, List.length_drop]
      omega
    · cases hi
theorem cut_last (xs : List V) : cutV xs none (some (-1)) = xs.dropLast := by
  unfold cutV
  have e : HT.sIx xs.length xs.length (some (-1)) = xs.length - 1 := by
    show (if (-1 : Int) < 0 then ((-1 : Int) + (xs.length : Int)).toNat else min (-1 : Int).toNat xs.length) = _
    rw [if_pos (by decide)]
    omega
  rw [e, HT.sIx_none, List.drop_zero, Nat.sub_zero, List.dropLast_eq_take]
theorem e_slA {K : PySem.W.Frag} {H : Hp} {Q : VK} {p : Addr} {xs : List V} {lo hi : Option Int} (h : SqT K H p xs) (q : ∀ r H', Same H H' → SqT K H' r (cutV xs lo hi) → Q (.ref r) H') : rSlA K (.ref p) lo hi H Q := by
  refine ⟨p, xs, rfl, h, fun w => q p H (Same.refl H) ?_, fun _ r hr => q r _ (same_new hr) (SqT.of upd_same)⟩
  have e : cutV xs lo hi = xs := by
    unfold cutV
    rw [w.1, w.2, List.drop_zero, Nat.sub_zero, List.take_length]
  rw [e]; exact h
theorem last_at {ns : List Int} (h : ¬ ns = []) : atI (ns.map V.int) (-1) = some (.int (ns.getLastD 0)) := by
  have e : ns = ns.dropLast ++ [ns.getLast h] := (List.dropLast_concat_getLast h).symm
  have e2 : ns.getLastD 0 = ns.getLast h := by
    rw [List.getLastD_eq_getLast?, List.getLast?_eq_some_getLast h]; rfl
  rw [e2]
  have e3 : ns.map V.int = ns.dropLast.map V.int ++ [V.int (ns.getLast h)] := by
    rw [← List.map_singleton, ← List.map_append, ← e]
  rw [e3]
  exact atI_last _ _
theorem map_dropLast (ns : List Int) : (ns.map V.int).dropLast = ns.dropLast.map V.int := (List.map_dropLast ..).symm
def sp_is_blocks (K : PySem.W.Frag) : Sp := sp1 fun a H Q => ∃ (p : Addr) (ns : List Int), a = .ref p ∧ SqE K H p (ns.map V.int) ∧ ∀ H', Same H H' → Q (.bl (isBlocks ns)) H'
def sp_law_integers (K : PySem.W.Frag) : Sp := sp1 fun a H Q => ∃ (p : Addr) (ns : List Int), a = .ref p ∧ SqE K H p (ns.map V.int) ∧ Q (.bl true) H
abbrev Vc := List (Int × Int)
def cnt : Vc → Int → Int
  | [], _ => 0
  | c :: r, d => if c.1 = d then c.2 else cnt r d
def madeN (n : Nat) (f : Nat → Int) : Vc := ((List.range n).filter fun k => decide (0 < f k)).map fun k => (((k : Nat) : Int) + 1, f k)
abbrev made (f : Nat → Int) : Vc := madeN 9 f
theorem madeN_succ (n : Nat) (f : Nat → Int) : madeN (n + 1) f = madeN n f ++ (if 0 < f n then [(((n : Nat) : Int) + 1, f n)] else []) := by
  unfold madeN
  rw [List.range_succ, List.filter_append, List.map_append]
  by_cases h : 0 < f n
  · rw [if_pos h, List.filter_cons_of_pos (by rw [decide_eq_true h])]; rfl
  · rw [if_neg h, List.filter_cons_of_neg (by rw [decide_eq_false h]; exact Bool.false_ne_true)]; rfl
theorem madeN_mem {n : Nat} {f : Nat → Int} {c : Int × Int} (h : c ∈ madeN n f) : ∃ k : Nat, k < n ∧ c = (((k : Nat) : Int) + 1, f k) ∧ 0 < f k := by
  obtain ⟨k, hk, rfl⟩ := List.mem_map.mp h
  obtain ⟨h1, h2⟩ := List.mem_filter.mp hk
  exact ⟨k, List.mem_range.mp h1, rfl, of_decide_eq_true h2⟩
theorem cnt_app_ne {u : Vc} {c : Int × Int} {d : Int} (h : ¬ c.1 = d) : cnt (u ++ [c]) d = cnt u d := by
  induction u with
  | nil => show (if c.1 = d then _ else _) = _; rw [if_neg h]
  | cons x r ih => show (if x.1 = d then _ else cnt (r ++ [c]) d) = if x.1 = d then _ else _; rw [ih]
theorem cnt_app_out {u w : Vc} {d : Int} (h : ∀ c ∈ u, ¬ c.1 = d) : cnt (u ++ w) d = cnt w d := by
  induction u with
  | nil => rfl
  | cons x r ih =>
    show (if x.1 = d then _ else cnt (r ++ w) d) = _
    rw [if_neg (h x (List.mem_cons_self ..)), ih fun c hc => h c (List.mem_cons_of_mem _ hc)]
theorem cnt_madeN {f : Nat → Int} (hf : ∀ k, 0 ≤ f k) (k : Nat) : ∀ n, cnt (madeN n f) (((k : Nat) : Int) + 1) = if k < n then f k else 0
  | 0 => by rw [if_neg (by omega)]; rfl
  | n + 1 => by
    have ih := cnt_madeN hf k n
    rw [madeN_succ]
    by_cases h : k = n
    · subst h
      rw [if_pos (show k < k + 1 by omega), cnt_app_out fun c hc => ?_]
      · by_cases h0 : 0 < f k
        · rw [if_pos h0]
          show (if ((k : Nat) : Int) + 1 = ((k : Nat) : Int) + 1 then f k else 0) = _
          rw [if_pos rfl]
        · rw [if_neg h0]; have := hf k; show (0 : Int) = _; omega
      · obtain ⟨j, hj, rfl, _⟩ := madeN_mem hc
        show ¬ ((j : Nat) : Int) + 1 = _
        omega
    · have e : (if k < n + 1 then f k else 0) = if k < n then f k else 0 := by
        by_cases h2 : k < n
        · rw [if_pos h2, if_pos (by omega)]
        · rw [if_neg h2, if_neg (by omega)]
      rw [e, ← ih]
      by_cases h0 : 0 < f n
      · rw [if_pos h0, cnt_app_ne (by show ¬ ((n : Nat) : Int) + 1 = _; omega)]
      · rw [if_neg h0, List.append_nil]
theorem cnt_made {f : Nat → Int} (hf : ∀ k, 0 ≤ f k) {k : Nat} (hk : k < 9) : cnt (made f) (((k : Nat) : Int) + 1) = f k := by
  rw [cnt_madeN hf, if_pos hk]
/-- the last that was told, along a row -/
def told (g : Int → Int → Int) (v : Vc) (d i : Int) : Int := v.foldl (fun acc c => if c.1 = d then g c.2 acc else acc) i
theorem told_app (g : Int → Int → Int) (u w : Vc) (d i : Int) : told g (u ++ w) d i = told g w d (told g u d i) := by
  unfold told; rw [List.foldl_append]
theorem told_one (g : Int → Int → Int) (c : Int × Int) (d i : Int) : told g [c] d i = if c.1 = d then g c.2 i else i := rfl
theorem told_madeN (g : Int → Int → Int) {f : Nat → Int} (k : Nat) (i : Int) : ∀ n, told g (madeN n f) (((k : Nat) : Int) + 1) i = if k < n ∧ 0 < f k then g (f k) i else i
  | 0 => by rw [if_neg (by omega)]; rfl
  | n + 1 => by
    have ih := told_madeN g (f := f) k i n
    rw [madeN_succ, told_app, ih]
    by_cases h0 : 0 < f n
    · rw [if_pos h0, told_one]
      by_cases h : k = n
      · subst h
        show (if ((k : Nat) : Int) + 1 = _ then _ else _) = _
        rw [if_pos rfl, if_neg (show ¬ (k < k ∧ 0 < f k) by omega), if_pos ⟨by omega, h0⟩]
      · show (if ((n : Nat) : Int) + 1 = _ then _ else _) = _
        rw [if_neg (by omega)]
        by_cases h2 : k < n ∧ 0 < f k
        · rw [if_pos h2, if_pos ⟨by omega, h2.2⟩]
        · rw [if_neg h2, if_neg (by omega)]
    · rw [if_neg h0]
      show (if k < n ∧ 0 < f k then g (f k) i else i) = _
      by_cases h2 : k < n ∧ 0 < f k
      · rw [if_pos h2, if_pos ⟨by omega, h2.2⟩]
      · by_cases h : k = n
        · subst h
          rw [if_neg h2, if_neg (by omega)]
        · rw [if_neg h2, if_neg (by omega)]
theorem last_made {f : Nat → Int} (hf : ∀ k, 0 ≤ f k) {k : Nat} (hk : k < 9) : told (fun c _ => c) (made f) (((k : Nat) : Int) + 1) 0 = f k := by
  rw [told_madeN]
  by_cases h : 0 < f k
  · rw [if_pos ⟨hk, h⟩]
  · have := hf k
    rw [if_neg (by omega)]; omega
def mx (i j : Int) : Int := if j > i then j else i
theorem max_made {f g : Nat → Int} (hf : ∀ k, 0 ≤ f k) {k : Nat} (hk : k < 9) : told mx (made g) (((k : Nat) : Int) + 1) (f k) = mx (f k) (g k) := by
  rw [told_madeN]
  have := hf k
  by_cases h : 0 < g k
  · rw [if_pos ⟨hk, h⟩]
    unfold mx
    split <;> split <;> omega
  · rw [if_neg (by omega)]
    unfold mx
    rw [if_neg (by omega)]
def lessF (n : Nat) (f g : Nat → Int) : Bool := (List.range n).any fun k => decide (f k < g k)
theorem less_madeN {f g : Nat → Int} (hf : ∀ k, 0 ≤ f k) : ∀ n, n ≤ 9 → ((madeN n g).any fun c => decide (cnt (made f) c.1 < c.2)) = lessF n f g
  | 0, _ => rfl
  | n + 1, h => by
    have ih := less_madeN (g := g) hf n (by omega)
    have e : lessF (n + 1) f g = (lessF n f g || decide (f n < g n)) := by
      unfold lessF
      rw [List.range_succ, List.any_append]
      simp
    rw [madeN_succ, List.any_append, ih, e]
    have := hf n
    by_cases h0 : 0 < g n
    · rw [if_pos h0]
      show (_ || (decide (cnt (made f) (((n : Nat) : Int) + 1) < g n) || false)) = _
      rw [cnt_made hf (by omega), Bool.or_false]
    · rw [if_neg h0, decide_eq_false (by omega : ¬ f n < g n)]
      rfl
/-! a dict of counts -/
def kvl (m : Vc) : List (Key × V) := m.map fun c => (Sum.inl c.1, V.int c.2)
def dput (m : Vc) (k c : Int) : Vc := if (m.any fun x => decide (x.1 = k)) = true then m.map (fun x => if x.1 = k then (k, c) else x) else m ++ [(k, c)]
structure Good (m : Vc) : Prop where
  nd : (m.map (·.1)).Nodup
  rg : ∀ c ∈ m, 1 ≤ c.1 ∧ c.1 ≤ 9 ∧ 0 < c.2
theorem putK_kvl (m : Vc) (k c : Int) : putK (kvl m) (Sum.inl k) (V.int c) = kvl (dput m k c) := by
  have e1 : ((kvl m).any fun kv => decide (kv.1 = (Sum.inl k : Key))) = (m.any fun x => decide (x.1 = k)) := by
    unfold kvl
    rw [List.any_map]
    congr 1
    funext x
    exact decide_eq_decide.mpr ⟨fun h => Sum.inl.inj h, fun h => congrArg Sum.inl h⟩
  unfold putK dput
  rw [e1]
  split
  · unfold kvl
    rw [List.map_map, List.map_map]
    refine List.map_congr_left fun x _ => ?_
    show (if (Sum.inl x.1 : Key) = Sum.inl k then _ else _) = (fun c : Int × Int => ((Sum.inl c.1 : Key), V.int c.2)) (if x.1 = k then (k, c) else x)
    by_cases h : x.1 = k
    · rw [if_pos h, if_pos (congrArg Sum.inl h)]
      show ((Sum.inl x.1 : Key), V.int c) = (Sum.inl k, V.int c)
      rw [h]
    · rw [if_neg h, if_neg fun q => h (Sum.inl.inj q)]
  · unfold kvl
    rw [List.map_append]
    rfl
theorem valV_kvl (m : Vc) (d : Int) : ((valV (kvl m) (Sum.inl d : Key)).getD (.int 0) = .int (cnt m d)) ∧ (∀ c ∈ m, c.1 = d → valV (kvl m) (Sum.inl d : Key) = some (.int (cnt m d))) := by
  induction m with
  | nil => exact ⟨rfl, fun c hc => by cases hc⟩
  | cons x r ih =>
    have e : valV (kvl (x :: r)) (Sum.inl d : Key) = if x.1 = d then some (.int x.2) else valV (kvl r) (Sum.inl d : Key) := by
      unfold valV kvl
      rw [List.map_cons, List.find?_cons]
      by_cases h : x.1 = d
      · rw [if_pos h, decide_eq_true (congrArg Sum.inl h)]; rfl
      · rw [if_neg h, decide_eq_false fun q => h (Sum.inl.inj q)]
    rw [e]
    show (_ = V.int (if x.1 = d then x.2 else cnt r d)) ∧ _
    by_cases h : x.1 = d
    · rw [if_pos h, if_pos h]
      exact ⟨rfl, fun _ _ _ => by show _ = some (V.int (if x.1 = d then x.2 else cnt r d)); rw [if_pos h]⟩
    · rw [if_neg h, if_neg h]
      refine ⟨ih.1, fun c hc q => ?_⟩
      show _ = some (V.int (if x.1 = d then x.2 else cnt r d))
      rw [if_neg h]
      rcases List.mem_cons.mp hc with rfl | hc
      · exact absurd q h
      · exact ih.2 c hc q
theorem cnt_pos {m : Vc} (g : Good m) {d : Int} : (∃ c ∈ m, c.1 = d) ↔ 0 < cnt m d := by
  have := g.rg
  clear g
  induction m with
  | nil => exact ⟨fun ⟨c, hc, _⟩ => (by cases hc), fun h => absurd h (by show ¬ (0 : Int) < 0; omega)⟩
  | cons x r ih =>
    have ih : (∃ c ∈ r, c.1 = d) ↔ 0 < cnt r d := ih fun c hc => this c (List.mem_cons_of_mem _ hc)
    have hx := this x (List.mem_cons_self ..)
    show _ ↔ 0 < if x.1 = d then x.2 else cnt r d
    by_cases h : x.1 = d
    · rw [if_pos h]
      exact ⟨fun _ => hx.2.2, fun _ => ⟨x, List.mem_cons_self .., h⟩⟩
    · rw [if_neg h]
      refine Iff.trans ?_ ih
      constructor
      · rintro ⟨c, hc, q⟩
        rcases List.mem_cons.mp hc with rfl | hc
        · exact absurd q h
        · exact ⟨c, hc, q⟩
      · rintro ⟨c, hc, q⟩
        exact ⟨c, List.mem_cons_of_mem _ hc, q⟩
theorem cnt_dput (m : Vc) (k c d : Int) : cnt (dput m k c) d = if k = d then c else cnt m d := by
  unfold dput
  split
  · rename_i h
    have key : ∀ m : Vc, (m.any fun x => decide (x.1 = k)) = true → cnt (m.map fun x => if x.1 = k then (k, c) else x) d = if k = d then c else cnt m d := by
      intro m
      have none : ∀ m : Vc, ¬ k = d → cnt (m.map fun x => if x.1 = k then (k, c) else x) d = cnt m d := by
        intro m hk
        induction m with
        | nil => rfl
        | cons x r ih =>
          show cnt ((if x.1 = k then (k, c) else x) :: r.map _) d = if x.1 = d then x.2 else cnt r d
          by_cases hx : x.1 = k
          · rw [if_pos hx]
            show (if k = d then c else _) = _
            rw [if_neg hk, if_neg (by rw [hx]; exact hk), ih]
          · rw [if_neg hx]
            show (if x.1 = d then x.2 else _) = _
            rw [ih]
      induction m with
      | nil => intro h; cases h
      | cons x r ih =>
        intro h
        by_cases hk : k = d
        · rw [if_pos hk]
          show cnt ((if x.1 = k then (k, c) else x) :: r.map _) d = c
          by_cases hx : x.1 = k
          · rw [if_pos hx]
            show (if k = d then c else _) = _
            rw [if_pos hk]
          · rw [if_neg hx]
            show (if x.1 = d then x.2 else _) = _
            rw [if_neg (by rw [← hk]; exact hx)]
            have h2 : (r.any fun x => decide (x.1 = k)) = true := by
              rw [List.any_cons, decide_eq_false hx, Bool.false_or] at h
              exact h
            rw [ih h2, if_pos hk]
        · rw [if_neg hk]
          exact none _ hk
    exact key m h
  · rename_i h
    have out : ∀ x ∈ m, ¬ x.1 = k := fun x hx q => h (List.any_eq_true.mpr ⟨x, hx, decide_eq_true q⟩)
    by_cases hk : k = d
    · rw [if_pos hk, cnt_app_out (by rw [← hk]; exact out)]
      show (if k = d then c else _) = _
      rw [if_pos hk]
    · rw [if_neg hk, cnt_app_ne hk]
theorem good_dput {m : Vc} (g : Good m) {k c : Int} (h1 : 1 ≤ k) (h9 : k ≤ 9) (hc : 0 < c) : Good (dput m k c) := by
  unfold dput
  split
  · refine ⟨?_, fun x hx => ?_⟩
    · have e : (m.map fun x => if x.1 = k then (k, c) else x).map (·.1) = m.map (·.1) := by
        rw [List.map_map]
        refine List.map_congr_left fun x _ => ?_
        show (if x.1 = k then (k, c) else x).1 = x.1
        by_cases h : x.1 = k
        · rw [if_pos h, h]
        · rw [if_neg h]
      rw [e]; exact g.nd
    · obtain ⟨y, hy, rfl⟩ := List.mem_map.mp hx
      by_cases h : y.1 = k
      · rw [if_pos h]; exact ⟨h1, h9, hc⟩
      · rw [if_neg h]; exact g.rg y hy
  · rename_i h
    have out : ∀ x ∈ m, ¬ x.1 = k := fun x hx q => h (List.any_eq_true.mpr ⟨x, hx, decide_eq_true q⟩)
    refine ⟨?_, fun x hx => ?_⟩
    · rw [List.map_append, List.nodup_append]
      refine ⟨g.nd, by simp, fun a ha b hb => ?_⟩
      obtain ⟨x, hx, rfl⟩ := List.mem_map.mp ha
      have hb : b = k := by simpa using hb
      rw [hb]; exact out x hx
    · rcases List.mem_append.mp hx with hx | hx
      · exact g.rg x hx
      · rw [List.mem_singleton.mp hx]; exact ⟨h1, h9, hc⟩
theorem merge_kvl (v : Vc) : ∀ m : Vc, mergeK (kvl m) (kvl v) = kvl (v.foldl (fun m c => dput m c.1 c.2) m) := by
  induction v with
  | nil => intro m; rfl
  | cons x r ih =>
    intro m
    show mergeK (putK (kvl m) (Sum.inl x.1) (V.int x.2)) (kvl r) = _
    rw [putK_kvl, ih]
    rfl
theorem fold_good (v : Vc) (hv : ∀ c ∈ v, 1 ≤ c.1 ∧ c.1 ≤ 9 ∧ 0 < c.2) : ∀ m : Vc, Good m → Good (v.foldl (fun m c => dput m c.1 c.2) m) := by
  induction v with
  | nil => intro m g; exact g
  | cons x r ih =>
    intro m g
    have hx := hv x (List.mem_cons_self ..)
    exact ih (fun c hc => hv c (List.mem_cons_of_mem _ hc)) _ (good_dput g hx.1 hx.2.1 hx.2.2)
theorem fold_cnt (v : Vc) (d : Int) : ∀ m : Vc, cnt (v.foldl (fun m c => dput m c.1 c.2) m) d = told (fun c _ => c) v d (cnt m d) := by
  induction v with
  | nil => intro m; rfl
  | cons x r ih =>
    intro m
    show cnt (r.foldl (fun m c => dput m c.1 c.2) (dput m x.1 x.2)) d = told (fun c _ => c) r d (if x.1 = d then x.2 else cnt m d)
    rw [ih, cnt_dput]
theorem made_rg {f : Nat → Int} : ∀ c ∈ made f, 1 ≤ c.1 ∧ c.1 ≤ 9 ∧ 0 < c.2 := fun c hc => by
  obtain ⟨k, hk, rfl, h0⟩ := madeN_mem hc
  exact ⟨by show (1 : Int) ≤ ((k : Nat) : Int) + 1; omega, by show ((k : Nat) : Int) + 1 ≤ 9; omega, h0⟩
/-- a rising row of numbers from 1 to n is told by what is in it -/
theorem rising (n : Nat) : ∀ ys : List Int, ys.Pairwise (· < ·) → (∀ y ∈ ys, 1 ≤ y ∧ y ≤ n) → ys = ((List.range n).filter fun k => decide ((((k : Nat) : Int) + 1) ∈ ys)).map fun k => ((k : Nat) : Int) + 1 := by
  induction n with
  | zero =>
    intro ys _ h
    cases ys with
    | nil => rfl
    | cons y r => have := h y (List.mem_cons_self ..); omega
  | succ n ih =>
    intro ys hp h
    by_cases hm : (((n : Nat) : Int) + 1) ∈ ys
    · obtain ⟨u, w, e⟩ := List.append_of_mem hm
      have hw : w = [] := by
        cases w with
        | nil => rfl
        | cons z w =>
          rw [e, List.pairwise_append] at hp
          have h1 := (List.pairwise_cons.mp hp.2.1).1 z (List.mem_cons_self ..)
          have h2 := h z (by rw [e]; simp)
          omega
      subst hw
      have hu : u.Pairwise (· < ·) := by rw [e, List.pairwise_append] at hp; exact hp.1
      have hlt : ∀ y ∈ u, y < ((n : Nat) : Int) + 1 := fun y hy => by
        rw [e, List.pairwise_append] at hp
        exact hp.2.2 y hy _ (by simp)
      have iu := ih u hu fun y hy => ⟨(h y (by rw [e]; simp [hy])).1, by have := hlt y hy; omega⟩
      have ef : ((List.range (n + 1)).filter fun k => decide ((((k : Nat) : Int) + 1) ∈ ys)) = ((List.range n).filter fun k => decide ((((k : Nat) : Int) + 1) ∈ u)) ++ [n] := by
        have e1 : ((List.range n).filter fun k => decide ((((k : Nat) : Int) + 1) ∈ ys)) = ((List.range n).filter fun k => decide ((((k : Nat) : Int) + 1) ∈ u)) := by
          refine List.filter_congr fun k hk => ?_
          have hk := List.mem_range.mp hk
          refine decide_eq_decide.mpr ?_
          rw [e, List.mem_append, List.mem_singleton]
          exact ⟨fun q => q.resolve_right (by omega), .inl⟩
        rw [List.range_succ, List.filter_append, List.filter_cons_of_pos (by rw [decide_eq_true hm]), List.filter_nil, e1]
      rw [ef, List.map_append, ← iu, e]
      rfl
    · have iu := ih ys hp fun y hy => ⟨(h y hy).1, by
        have h1 := (h y hy).2
        have h2 : ¬ y = ((n : Nat) : Int) + 1 := fun q => hm (q ▸ hy)
        omega⟩
      rw [List.range_succ, List.filter_append, List.filter_cons_of_neg (by rw [decide_eq_false hm]; exact Bool.false_ne_true), List.filter_nil, List.append_nil]
      exact iu
/-- sorted keys with their counts -/
theorem vector_made {m : Vc} (g : Good m) {ys : List Int} (hp : ys.Perm (m.map (·.1))) (hs : ys.Pairwise (· ≤ ·)) : ys.map (fun y => (y, cnt m y)) = made fun k => cnt m (((k : Nat) : Int) + 1) := by
  have nd : ys.Nodup := hp.nodup_iff.mpr g.nd
  have lt : ys.Pairwise (· < ·) := by
    have := List.Pairwise.and hs nd
    exact this.imp fun h => by omega
  have mem : ∀ y, y ∈ ys ↔ ∃ c ∈ m, c.1 = y := fun y => by rw [hp.mem_iff, List.mem_map]
  have rg : ∀ y ∈ ys, 1 ≤ y ∧ y ≤ ((9 : Nat) : Int) := fun y hy => by
    obtain ⟨c, hc, rfl⟩ := (mem y).mp hy
    have := g.rg c hc
    omega
  have e := rising 9 ys lt rg
  have ef : ((List.range 9).filter fun k => decide ((((k : Nat) : Int) + 1) ∈ ys)) = ((List.range 9).filter fun k => decide (0 < cnt m (((k : Nat) : Int) + 1))) :=
    List.filter_congr fun k _ => decide_eq_decide.mpr ((mem _).trans (cnt_pos g))
  rw [ef] at e
  rw [e, List.map_map]
  rfl
theorem paired_imp {α β : Type} {R S : α → β → Prop} (h : ∀ a b, R a b → S a b) : ∀ {xs : List α} {ys : List β}, Paired R xs ys → Paired S xs ys
  | _, _, .nil => .nil
  | _, _, .cons a b => .cons (h _ _ a) (paired_imp h b)
theorem paired_get {α β : Type} {R : α → β → Prop} : ∀ {xs : List α} {ys : List β}, Paired R xs ys → ∀ (i : Nat) (x : α), xs[i]? = some x → ∃ y, ys[i]? = some y ∧ R x y
  | _, _, .nil, i, x, h => by simp at h
  | _, _, .cons a b, 0, x, h => by cases (Option.some.inj h); exact ⟨_, rfl, a⟩
  | _, _, .cons a b, i + 1, x, h => by
    obtain ⟨y, h1, h2⟩ := paired_get b i x (by simpa using h)
    exact ⟨y, by simpa using h1, h2⟩
theorem paired_len {α β : Type} {R : α → β → Prop} : ∀ {xs : List α} {ys : List β}, Paired R xs ys → xs.length = ys.length
  | _, _, .nil => rfl
  | _, _, .cons a b => by rw [List.length_cons, List.length_cons, paired_len b]
theorem paired_snoc {α β : Type} {R : α → β → Prop} : ∀ {xs : List α} {ys : List β} {x : α} {y : β}, Paired R xs ys → R x y → Paired R (xs ++ [x]) (ys ++ [y])
  | _, _, _, _, .nil, h => .cons h .nil
  | _, _, _, _, .cons a b, h => .cons a (paired_snoc b h)
abbrev Prs (K : PySem.W.Frag) (H : Hp) (ps : List Addr) (v : Vc) : Prop := Paired (fun p (c : Int × Int) => SqT K H p [.int c.1, .int c.2]) ps v
def Vec (K : PySem.W.Frag) (H : Hp) (a : Addr) (v : Vc) : Prop := ∃ ps : List Addr, SqT K H a (ps.map V.ref) ∧ Prs K H ps v
def PVec (K : PySem.W.Frag) (H : Hp) (a : Addr) (v : Vc) : Prop := ∃ ps : List Addr, PlT H a (ps.map V.ref) ∧ Prs K H ps v
theorem prs_same {K : PySem.W.Frag} {H H' : Hp} {ps : List Addr} {v : Vc} (e : Same H H') (h : Prs K H ps v) : Prs K H' ps v := paired_imp (fun _ _ q => same_tup e q) h
theorem Vec.same {K : PySem.W.Frag} {H H' : Hp} {a : Addr} {v : Vc} (h : Vec K H a v) (e : Same H H') : Vec K H' a v := by
  obtain ⟨ps, h1, h2⟩ := h
  exact ⟨ps, same_tup e h1, prs_same e h2⟩
theorem PVec.same {K : PySem.W.Frag} {H H' : Hp} {a : Addr} {v : Vc} (h : PVec K H a v) (e : Same H H') : PVec K H' a v := by
  obtain ⟨ps, h1, h2⟩ := h
  exact ⟨ps, h1.same e, prs_same e h2⟩
theorem PVec.vec {K : PySem.W.Frag} {H : Hp} {a : Addr} {v : Vc} (h : PVec K H a v) : Vec K H a v := by
  obtain ⟨ps, h1, h2⟩ := h
  exact ⟨ps, h1.seq, h2⟩
theorem for_vec {K : PySem.W.Frag} {g : TG} {t : TS} {D : Ends} {σ : L2.St} {H H0 : Hp} {a : Addr} {v : Vc} {ps : List Addr} (hS : SqT K H0 a (ps.map V.ref)) (hP : Prs K H0 ps v) (Pv : Vc → L2.St → Hp → Prop) (h0 : Pv [] σ H) (hl : ∀ pre σ H, Pv pre σ H → Same H0 H)
    (hs : ∀ (pre : Vc) (c : Int × Int) (post : Vc) (T : Addr) σ H, v = pre ++ c :: post → Pv pre σ H → SqT K H T [.int c.1, .int c.2] → g (.ref T) σ H fun σ2 H2 => t { D with nx := Pv (pre ++ [c]), ct := Pv (pre ++ [c]), bk := D.nx } σ2 H2)
    (hd : ∀ σ H, Pv v σ H → D.nx σ H) : ForB (Itt K a) g t D σ H := by
  refine for_tup (xs := ps.map V.ref) (fun i => Pv (v.take i)) (by simpa using h0) (fun i σ H _ p => same_tup (hl _ σ H p) hS) (fun i x σ H hx p => ?_) (fun σ H p => ?_)
  · rw [List.getElem?_map] at hx
    obtain ⟨T, hT, rfl⟩ := Option.map_eq_some_iff.mp hx
    obtain ⟨c, hc, q⟩ := paired_get hP i T hT
    have e2 := (List.getElem?_eq_some_iff.mp hc).2
    have e1 : v = v.take i ++ c :: v.drop (i + 1) := by rw [← e2, List.getElem_cons_drop, List.take_append_drop]
    rw [List.take_add_one, hc]
    exact hs _ c _ T σ H e1 p (same_tup (hl _ σ H p) q)
  · rw [List.length_map, paired_len hP, List.take_length] at p
    exact hd σ H p
def lessV (v w : Vc) : Bool := w.any fun c => decide (cnt v c.1 < c.2)
def cmpS (a b : Bool) : Str := if a = true then (if b = true then "apart" else "less") else if b = true then "greater" else "equal"
theorem dput_len (m : Vc) (k c : Int) : (dput m k c).length ≤ m.length + 1 := by
  unfold dput
  split <;> simp
theorem fold_len (v : Vc) : ∀ m : Vc, (v.foldl (fun m c => dput m c.1 c.2) m).length ≤ m.length + v.length := by
  induction v with
  | nil => intro m; exact Nat.le_refl _
  | cons x r ih =>
    intro m
    have h1 := ih (dput m x.1 x.2)
    have h2 := dput_len m x.1 x.2
    show (r.foldl (fun m c => dput m c.1 c.2) (dput m x.1 x.2)).length ≤ _
    rw [List.length_cons]
    omega
theorem made_len (f : Nat → Int) : (made f).length ≤ 9 := by
  unfold made madeN
  rw [List.length_map]
  exact Nat.le_trans (List.length_filter_le ..) (by rw [List.length_range]; exact Nat.le_refl _)
theorem made_congr {f g : Nat → Int} (h : ∀ k, k < 9 → f k = g k) : made f = made g := by
  unfold made madeN
  have e : ((List.range 9).filter fun k => decide (0 < f k)) = ((List.range 9).filter fun k => decide (0 < g k)) :=
    List.filter_congr fun k hk => by rw [h k (List.mem_range.mp hk)]
  rw [e]
  refine List.map_congr_left fun k hk => ?_
  rw [h k (List.mem_range.mp (List.mem_filter.mp hk).1)]
def row9 (f : Nat → Int) : List Int := (List.range 9).map f
def sp_count_of (K : PySem.W.Frag) : Sp := sp2 fun x y H Q => ∃ (a : Addr) (v : Vc) (d : Int), x = .ref a ∧ y = .int d ∧ Vec K H a v ∧ Q (.int (cnt v d)) H
def sp_is_less_somewhere (K : PySem.W.Frag) : Sp := sp2 fun x y H Q => ∃ (a b : Addr) (v w : Vc), x = .ref a ∧ y = .ref b ∧ Vec K H a v ∧ Vec K H b w ∧ Q (.bl (lessV v w)) H
def sp_compare (K : PySem.W.Frag) : Sp := sp2 fun x y H Q => ∃ (a b : Addr) (v w : Vc), x = .ref a ∧ y = .ref b ∧ Vec K H a v ∧ Vec K H b w ∧ Q (.str (cmpS (lessV v w) (lessV w v))) H
def sp_vector (K : PySem.W.Frag) : Sp := sp1 fun x H Q => ∃ (D : Addr) (m : Vc), x = .ref D ∧ H D = some (.dK (kvl m)) ∧ Good m ∧ m.length ≤ 40 ∧ ∀ (r : Addr) (H' : Hp), Same H H' → PVec K H' r (made fun k => cnt m (((k : Nat) : Int) + 1)) → Q (.ref r) H'
def sp_join (K : PySem.W.Frag) : Sp := sp2 fun x y H Q => ∃ (a b : Addr) (f g : Nat → Int), x = .ref a ∧ y = .ref b ∧ (∀ k, 0 ≤ f k) ∧ (∀ k, 0 ≤ g k) ∧ PVec K H a (made f) ∧ Vec K H b (made g) ∧ ∀ (r : Addr) (H' : Hp), Same H H' → PVec K H' r (made fun k => mx (f k) (g k)) → Q (.ref r) H'
def sp_raised (K : PySem.W.Frag) : Sp := sp3 fun x y z H Q => ∃ (a : Addr) (f : Nat → Int) (j : Nat) (n : Int), x = .ref a ∧ y = .int (((j : Nat) : Int) + 1) ∧ z = .int n ∧ j < 9 ∧ 0 < n ∧ (∀ k, 0 ≤ f k) ∧ PVec K H a (made f) ∧ ∀ (r : Addr) (H' : Hp), Same H H' → PVec K H' r (made fun k => if k = j then n else f k) → Q (.ref r) H'
def sp_counts_of (K : PySem.W.Frag) : Sp := sp1 fun x H Q => ∃ (a : Addr) (f : Nat → Int), x = .ref a ∧ (∀ k, 0 ≤ f k) ∧ Vec K H a (made f) ∧ ∀ (r : Addr) (H' : Hp), Same H H' → SqT K H' r ((row9 f).map V.int) → Q (.ref r) H'
theorem e_tDGet {td ty : TE} {σ : L2.St} {H : Hp} {Q : VK} (q : td σ H fun x H1 => ty σ H1 fun y H2 => ∃ a v, x = .ref a ∧ DGet H2 a y (some v) ∧ Q v H2) : tDGet td ty σ H Q := q
theorem e_tDGet2 {td ty tx : TE} {σ : L2.St} {H : Hp} {Q : VK} (q : td σ H fun x H1 => ∃ a, x = .ref a ∧ IsD H1 a ∧ ty σ H1 fun y H2 => tx σ H2 fun z H3 => ∃ o, DGet H3 a y o ∧ Q (o.getD z) H3) : tDGet2 td ty tx σ H Q := q
theorem e_sDPut {td ty tv : TE} {σ : L2.St} {H : Hp} {D : Ends} (q : tv σ H fun v H1 => td σ H1 fun x H2 => ty σ H2 fun y H3 => ∃ a H4, x = .ref a ∧ DPut H3 a y v H4 ∧ D.nx σ H4) : sDPut td ty tv D σ H := q
theorem dg_some {H : Hp} {D : Addr} {m : Vc} {d : Int} {Q : V → Prop} (h : H D = some (.dK (kvl m))) (hc : ∃ c ∈ m, c.1 = d) (q : Q (.int (cnt m d))) : ∃ a v, V.ref D = .ref a ∧ DGet H a (.int d) (some v) ∧ Q v := by
  obtain ⟨c, h1, h2⟩ := hc
  refine ⟨D, _, rfl, ?_, q⟩
  rw [← (valV_kvl m d).2 c h1 h2]
  exact DGet.k (k := Sum.inl d) h
theorem dg_or {H : Hp} {D : Addr} {m : Vc} {d : Int} {Q : Option V → Prop} (h : H D = some (.dK (kvl m))) (q : ∀ o : Option V, o.getD (.int 0) = .int (cnt m d) → Q o) : ∃ o, DGet H D (.int d) o ∧ Q o :=
  ⟨_, DGet.k (k := Sum.inl d) h, q _ (valV_kvl m d).1⟩
theorem dp_put {H : Hp} {D : Addr} {m : Vc} {k c : Int} {Q : Hp → Prop} (h : H D = some (.dK (kvl m))) (hl : m.length ≤ 100) (q : Q (upd H D (.dK (kvl (dput m k c))))) : ∃ a H4, V.ref D = .ref a ∧ DPut H a (.int k) (.int c) H4 ∧ Q H4 :=
  ⟨D, _, rfl, .inl ⟨kvl m, Sum.inl k, h, rfl, Nat.lt_of_le_of_lt (by unfold kvl; rw [List.length_map]; exact hl) (by decide), rfl⟩, by rw [putK_kvl]; exact q⟩
theorem prs_kvl {K : PySem.W.Frag} {H : Hp} : ∀ {ps : List Addr} {v : Vc}, Prs K H ps v → Paired (fun p (kv : Key × V) => SqT K H p [kV kv.1, kv.2]) ps (kvl v)
  | _, _, .nil => .nil
  | _, _, .cons a b => .cons a (prs_kvl b)
theorem dict_made {f : Nat → Int} (hf : ∀ k, 0 ≤ f k) : ∃ m, mergeK [] (kvl (made f)) = kvl m ∧ Good m ∧ m.length ≤ 9 ∧ ∀ k : Nat, k < 9 → cnt m (((k : Nat) : Int) + 1) = f k :=
  ⟨_, merge_kvl (made f) [], fold_good (made f) made_rg [] ⟨by simp, fun c hc => by cases hc⟩, Nat.le_trans (fold_len (made f) []) (by rw [List.length_nil, Nat.zero_add]; exact made_len f), fun k hk => by rw [fold_cnt]; exact last_made hf hk⟩
abbrev Prx (H : Hp) (ps : List Addr) (v : Vc) : Prop := Paired (fun p (c : Int × Int) => H p = some (.tup [.int c.1, .int c.2])) ps v
theorem Prx.upd {H : Hp} {ps : List Addr} {v : Vc} {E : Addr} {l : List V} {o : HO} (h : Prx H ps v) (e : H E = some (.lst l)) : Prx (upd H E o) ps v :=
  paired_imp (fun p c q => by
    have n : p ≠ E := fun z => by
      rw [z, e] at q
      cases q
    rw [upd_ne n]; exact q) h
theorem Prx.same {H H' : Hp} {ps : List Addr} {v : Vc} (h : Prx H ps v) (e : Same H H') : Prx H' ps v := paired_imp (fun _ _ q => e _ _ q) h
theorem Prx.prs {K : PySem.W.Frag} {H : Hp} {ps : List Addr} {v : Vc} (h : Prx H ps v) : Prs K H ps v := paired_imp (fun _ _ q => SqT.of q) h
theorem row9_at (f : Nat → Int) {i : Nat} (h : i < 9) {j : Int} (hj : j = i) : atI ((row9 f).map V.int) j = some (.int (f i)) :=
  at_of (j := i) hj (by rw [List.getElem?_map, row9, List.getElem?_map, List.getElem?_range h]; rfl)
theorem row9_set (f : Nat → Int) {i : Nat} (h : i < 9) (n : Int) : (row9 f).set i n = row9 fun k => if k = i then n else f k := by
  refine List.ext_getElem? fun k => ?_
  rw [List.getElem?_set]
  unfold row9
  by_cases hk : k < 9
  · have r1 : ((List.range 9).map fun k => if k = i then n else f k)[k]? = some (if k = i then n else f k) := by rw [List.getElem?_map, List.getElem?_range hk]; rfl
    have r2 : ((List.range 9).map f)[k]? = some (f k) := by rw [List.getElem?_map, List.getElem?_range hk]; rfl
    rw [r1, r2]
    by_cases e : i = k
    · rw [if_pos e, if_pos (by simp; omega), if_pos e.symm]
    · rw [if_neg e, if_neg fun q => e q.symm]
  · rw [List.getElem?_eq_none (l := (List.range 9).map fun k => if k = i then n else f k) (by simp; omega)]
    by_cases e : i = k
    · omega
    · rw [if_neg e, List.getElem?_eq_none (by simp; omega)]
theorem row9_inj {f g : Nat → Int} (h : ∀ k, k < 9 → f k = g k) : row9 f = row9 g := List.map_congr_left fun k hk => h k (List.mem_range.mp hk)
theorem row9_len (f : Nat → Int) : ((row9 f).map V.int).length = 9 := by unfold row9; simp
theorem p2 (n : Int) {i : Nat} (h : i < 9) : CDivW n (1 * 2 ^ (1 + (i : Int)).toNat) := by
  have e : (1 + (i : Int)).toNat = i + 1 := by omega
  rw [e]
  have : i = 0 ∨ i = 1 ∨ i = 2 ∨ i = 3 ∨ i = 4 ∨ i = 5 ∨ i = 6 ∨ i = 7 ∨ i = 8 := by omega
  rcases this with h | h | h | h | h | h | h | h | h <;> rw [h] <;> exact ⟨by decide, by decide⟩
theorem lc_filt {K : PySem.W.Frag} {g : TG} {tt : TT} {te : TE} {vs : List Nat} {σ : L2.St} {Da : Addr} {H0 : Hp} {Q : VK} {lo : Int} {n : Nat} (hD : H0 Da = none) (hn : n ≤ 1000000) (p : Nat → Bool) (f : Nat → V)
    (hs : ∀ (i : Nat) (H2 : Hp) (C : VK) (E : Hp → Prop), i < n → Same H0 H2 → (p i = true → ∀ H3, Same H2 H3 → C (f i) H3) → (p i = false → ∀ H3, Same H2 H3 → E H3) →
      g (.int (lo + (i : Nat))) (wipe σ vs) H2 fun σ2 H2 => wipe σ2 vs = wipe σ vs ∧ tt σ2 H2 fun b H3 => if b = true then te σ2 H3 C else E H3)
    (hd : ∀ (H : Hp), Same H0 H → H Da = some (.lst (((List.range n).filter p).map f)) → Q (.ref Da) H) : LcB (Itr lo n) g tt te vs σ Da H0 Q := by
  refine lc_rng (fun i H2 => Same H0 H2 ∧ H2 Da = some (.lst (((List.range i).filter p).map f))) ⟨same_new hD, upd_same⟩ (fun i H2 hi q => ?_) (fun H2 q => hd H2 q.1 q.2)
  obtain ⟨s4, e4⟩ := q
  refine hs i H2 _ _ hi s4 (fun hp H3 s5 => ?_) (fun hp H3 s5 => ?_)
  · refine ⟨_, s5 _ _ e4, Nat.lt_of_le_of_lt (Nat.le_trans (by rw [List.length_map]; exact List.length_filter_le ..) (by rw [List.length_range]; omega : _ ≤ 1000000)) (by decide), Same.mut (s4.trans s5) hD, ?_⟩
    rw [upd_same, List.range_succ, List.filter_append, List.filter_cons_of_pos hp, List.map_append]
    rfl
  · refine ⟨s4.trans s5, ?_⟩
    rw [s5 _ _ e4, List.range_succ, List.filter_append, List.filter_cons_of_neg (by rw [hp]; exact Bool.false_ne_true), List.filter_nil, List.append_nil]
theorem nil_less (f g : Nat → Int) (h : Nat → Int) : decide ((((List.range 9).filter fun k => decide (f k < g k)).map h) = []) = !lessF 9 f g := by
  unfold lessF
  cases e : (List.range 9).any fun k => decide (f k < g k) with
  | true =>
    obtain ⟨k, hk, q⟩ := List.any_eq_true.mp e
    refine decide_eq_false fun z => ?_
    have : (List.range 9).filter (fun k => decide (f k < g k)) = [] := List.map_eq_nil_iff.mp z
    have m : k ∈ (List.range 9).filter (fun k => decide (f k < g k)) := List.mem_filter.mpr ⟨hk, q⟩
    rw [this] at m
    cases m
  | false =>
    refine decide_eq_true ?_
    rw [List.filter_eq_nil_iff.mpr fun k hk => by
      have := List.any_eq_false.mp e k hk
      exact this]
    rfl
/-! vectors as data -/
abbrev Dv (v : Vc) : List PyData := v.map fun c => .tuple [.int c.1, .int c.2]
theorem dv_all {K : PySem.W.Frag} {H : Hp} : ∀ {ps : List Addr} {v : Vc}, Prs K H ps v → DpAll K H (ps.map V.ref) (Dv v)
  | _, _, .nil => .nil
  | _, _, .cons (b := c) a b => .cons (.tup (xs := [.int c.1, .int c.2]) a (.cons (.int _) (.cons (.int _) .nil))) (dv_all b)
theorem dv_eqv : ∀ v w : Vc, PyData.eqvAll (Dv v) (Dv w) = decide (v = w)
  | [], [] => by
    simp [PyData.eqvAll]
  | [], _ :: _ => by
    simp [PyData.eqvAll]
  | _ :: _, [] => by
    simp [PyData.eqvAll]
  | c :: v, d :: w => by
    have ih := dv_eqv v w
    show (PyData.eqvAll (Di [c.1, c.2]) (Di [d.1, d.2]) && PyData.eqvAll (Dv v) (Dv w)) = _
    rw [ih, eqvAll_ints]
    obtain ⟨c1, c2⟩ := c
    obtain ⟨d1, d2⟩ := d
    by_cases h1 : c1 = d1 <;> by_cases h2 : c2 = d2 <;> by_cases h3 : v = w <;> simp [h1, h2, h3]
theorem dv_can : ∀ v : Vc, PyData.canLayAll0 (Dv v) = true
  | [] => rfl
  | c :: v => by
    show (PyData.canLayAll0 (Di [c.1, c.2]) && PyData.canLayAll0 (Dv v)) = true
    rw [dv_can v, canAll_ints]; rfl
theorem dv_depth : ∀ v : Vc, PyData.depthAll (Dv v) ≤ 1
  | [] => by
    show 0 ≤ 1
    omega
  | c :: v => by
    have ih := dv_depth v
    show max (PyData.depthAll (Di [c.1, c.2]) + 1) (PyData.depthAll (Dv v)) ≤ 1
    rw [Vf.depthAll_ints]
    omega
theorem e_neVV {K : PySem.W.Frag} {H : Hp} {Q : VK} {a b : Addr} {v w : Vc} (h1 : Vec K H a v) (h2 : Vec K H b w) (q : Q (.bl (!decide (v = w))) H) : rNeD K (.ref a) (.ref b) H Q := by
  obtain ⟨ps, s1, p1⟩ := h1
  obtain ⟨qs, s2, p2⟩ := h2
  refine ⟨_, _, .tup s1 (dv_all p1), .tup s2 (dv_all p2), shaped_tuple (dv_can v) (Nat.le_trans (dv_depth v) (by decide)), shaped_tuple (dv_can w) (Nat.le_trans (dv_depth w) (by decide)), ?_⟩
  rw [show PyData.eqv (.tuple (Dv v)) (.tuple (Dv w)) = PyData.eqvAll (Dv v) (Dv w) from rfl, dv_eqv]
  exact q
theorem e_tFld {K : PySem.W.Frag} {ta : TE} {f : Str} {σ : L2.St} {H : Hp} {Q : VK} (q : ta σ H fun x H1 => ∃ a C dx fs v, x = .ref a ∧ H1 a = some (.ins C dx fs) ∧ Cls K C ∧ NoAttr K C f ∧ fs.lookup f = some v ∧ Q v H1) : tFld K ta f σ H Q := q
theorem e_sFld {K : PySem.W.Frag} {ta tv : TE} {f : Str} {D : Ends} {σ : L2.St} {H : Hp} (q : tv σ H fun y H1 => ta σ H1 fun x H2 => ∃ a C dx fs, x = .ref a ∧ H2 a = some (.ins C dx fs) ∧ Cls K C ∧ NoAttr K C f ∧ fs.length < 1000 ∧ D.nx σ (upd H2 a (.ins C dx (putF f y fs)))) : sFld K ta tv f D σ H := q
theorem e_maxF {K : PySem.W.Frag} {sp : Sp} {ta : TA} {σ : L2.St} {H : Hp} {Q : VK} (q : ta σ H fun vs H1 => rMaxF K sp vs H1 Q) : tMaxF K sp ta σ H Q := q
theorem e_js {t : TE} {ts : List TE} {acc : Str} {σ : L2.St} {H : Hp} {Q : Str → Hp → Prop} (q : t σ H fun x H1 => ∃ y : Str, x = .str y ∧ (acc ++ y).length ≤ sizeLine ∧ tJs ts (acc ++ y) σ H1 Q) : tJs (t :: ts) acc σ H Q := q
theorem e_js0 {acc : Str} {σ : L2.St} {H : Hp} {Q : Str → Hp → Prop} (q : Q acc H) : tJs [] acc σ H Q := q
theorem e_fmt {te : TE} {σ : L2.St} {H : Hp} {Q : VK} (q : te σ H fun x H1 => (∃ y : Str, x = .str y ∧ y.length ≤ sizeLine ∧ Q (.str y) H1) ∨ ∃ i : Int, x = .int i ∧ i.natAbs.log2 < 1920 ∧ Q (.str (toString i)) H1) : tFmt te σ H Q := q
mutual
theorem dp_same {K : PySem.W.Frag} {H H' : Hp} (e : Same H H') : ∀ {v : V} {d : PyData}, Dp K H v d → Dp K H' v d
  | _, _, .non => .non
  | _, _, .bl b => .bl b
  | _, _, .int i => .int i
  | _, _, .str x => .str x
  | _, _, .lst h a => .lst (e.seq h) (dpa_same e a)
  | _, _, .tup h a => .tup (same_tup e h) (dpa_same e a)
theorem dpa_same {K : PySem.W.Frag} {H H' : Hp} (e : Same H H') : ∀ {v : List V} {d : List PyData}, DpAll K H v d → DpAll K H' v d
  | _, _, .nil => .nil
  | _, _, .cons a b => .cons (dp_same e a) (dpa_same e b)
end
/-! entries -/
abbrev cEnt (K : PySem.W.Frag) : Addr := He.ga K "Entry"
structure ET (K : PySem.W.Frag) : Prop where
  cl : Cls K (cEnt K)
  n1 : NoAttr K (cEnt K) "name"
  n2 : NoAttr K (cEnt K) "vector"
  n3 : NoAttr K (cEnt K) "height"
  n4 : NoAttr K (cEnt K) "maker"
  n5 : NoAttr K (cEnt K) "deleted"
  n6 : NoAttr K (cEnt K) "time"
  n7 : NoAttr K (cEnt K) "blocks"
structure En where
  nm : Str
  f : Nat → Int
  ht : Int
  mr : Int × Int
  dl : Bool
  tm : Int
  bl : List Int
def fs7 (n v h m d t b : V) : List (Str × V) := putF "blocks" b (putF "time" t (putF "deleted" d (putF "maker" m (putF "height" h (putF "vector" v (putF "name" n []))))))
def VecB (p : Bool) (K : PySem.W.Frag) (H : Hp) (v : Addr) (w : Vc) : Prop := Vec K H v w ∧ (p = true → PVec K H v w)
theorem VecB.same {p : Bool} {K : PySem.W.Frag} {H H' : Hp} {v : Addr} {w : Vc} (h : VecB p K H v w) (e : Same H H') : VecB p K H' v w := ⟨h.1.same e, fun z => (h.2 z).same e⟩
theorem VecB.of {p : Bool} {K : PySem.W.Frag} {H : Hp} {v : Addr} {w : Vc} (h : PVec K H v w) : VecB p K H v w := ⟨h.vec, fun _ => h⟩
def Ent (K : PySem.W.Frag) (H : Hp) (p : Bool) (a : Addr) (e : En) : Prop := ∃ (dx v m b : Addr) (fs : List (Str × V)), H a = some (.ins (cEnt K) dx fs) ∧
  (fs.lookup ("name" : Str) = some (.str e.nm) ∧ fs.lookup ("vector" : Str) = some (.ref v) ∧ fs.lookup ("height" : Str) = some (.int e.ht) ∧ fs.lookup ("maker" : Str) = some (.ref m) ∧ fs.lookup ("deleted" : Str) = some (.bl e.dl) ∧ fs.lookup ("time" : Str) = some (.int e.tm) ∧ fs.lookup ("blocks" : Str) = some (.ref b)) ∧
  VecB p K H v (made e.f) ∧ SqT K H m [.int e.mr.1, .int e.mr.2] ∧ SqT K H b (e.bl.map V.int)
theorem Ent.same {K : PySem.W.Frag} {H H' : Hp} {p : Bool} {a : Addr} {e : En} (h : Ent K H p a e) (s : Same H H') : Ent K H' p a e := by
  obtain ⟨dx, v, m, b, fs, h1, h2, h3, h4, h5⟩ := h
  exact ⟨dx, v, m, b, fs, s _ _ h1, h2, h3.same s, same_tup s h4, same_tup s h5⟩
theorem Ent.weak {K : PySem.W.Frag} {H : Hp} {p : Bool} {a : Addr} {e : En} (h : Ent K H p a e) : Ent K H false a e := by
  obtain ⟨dx, v, m, b, fs, h1, h2, h3, h4, h5⟩ := h
  exact ⟨dx, v, m, b, fs, h1, h2, ⟨h3.1, fun z => nomatch z⟩, h4, h5⟩
theorem sq_updE {K : PySem.W.Frag} {H : Hp} {p E : Addr} {xs l : List V} {o : HO} (h : SqT K H p xs) (e : H E = some (.lst l)) : SqT K (upd H E o) p xs := by
  rcases h with (h | ⟨c9, h⟩) | h
  · exact .inl (.inl (by rw [upd_ne (fun z => by rw [z, e] at h; cases h)]; exact h))
  · exact .inl (.inr ⟨c9, by rw [upd_ne (fun z => by rw [z, e] at h; cases h)]; exact h⟩)
  · exact .inr h
theorem pl_updE {H : Hp} {p E : Addr} {xs l : List V} {o : HO} (h : PlT H p xs) (e : H E = some (.lst l)) : PlT (upd H E o) p xs := by
  obtain ⟨c9, hd, h⟩ := h
  exact ⟨c9, hd, by rw [upd_ne (fun z => by rw [z, e] at h; cases h)]; exact h⟩
theorem prs_updE {K : PySem.W.Frag} {H : Hp} {E : Addr} {l : List V} {o : HO} {ps : List Addr} {v : Vc} (h : Prs K H ps v) (e : H E = some (.lst l)) : Prs K (upd H E o) ps v := paired_imp (fun _ _ q => sq_updE q e) h
theorem Ent.updE {K : PySem.W.Frag} {H : Hp} {p : Bool} {a E : Addr} {e : En} {l : List V} {o : HO} (h : Ent K H p a e) (he : H E = some (.lst l)) : Ent K (upd H E o) p a e := by
  obtain ⟨dx, v, m, b, fs, h1, h2, ⟨⟨ps, q1, q2⟩, h3⟩, h4, h5⟩ := h
  refine ⟨dx, v, m, b, fs, by rw [upd_ne (fun z => by rw [z, he] at h1; cases h1)]; exact h1, h2, ⟨⟨ps, sq_updE q1 he, prs_updE q2 he⟩, fun z => ?_⟩, sq_updE h4 he, sq_updE h5 he⟩
  obtain ⟨qs, r1, r2⟩ := h3 z
  exact ⟨qs, pl_updE r1 he, prs_updE r2 he⟩
section
variable {K : PySem.W.Frag} {H : Hp} {p : Bool} {a : Addr} {e : En} {P : V → Prop}
theorem f_name (t : ET K) (h : Ent K H p a e) (q : P (.str e.nm)) : ∃ a' C dx fs v, V.ref a = .ref a' ∧ H a' = some (.ins C dx fs) ∧ Cls K C ∧ NoAttr K C "name" ∧ fs.lookup ("name" : Str) = some v ∧ P v := by
  obtain ⟨dx, v, m, b, fs, h1, h2, h3, h4, h5⟩ := h
  exact ⟨a, _, dx, fs, _, rfl, h1, t.cl, t.n1, h2.1, q⟩
theorem f_vector (t : ET K) (h : Ent K H p a e) (q : ∀ v, VecB p K H v (made e.f) → P (.ref v)) : ∃ a' C dx fs v, V.ref a = .ref a' ∧ H a' = some (.ins C dx fs) ∧ Cls K C ∧ NoAttr K C "vector" ∧ fs.lookup ("vector" : Str) = some v ∧ P v := by
  obtain ⟨dx, v, m, b, fs, h1, h2, h3, h4, h5⟩ := h
  exact ⟨a, _, dx, fs, _, rfl, h1, t.cl, t.n2, h2.2.1, q v h3⟩
theorem f_height (t : ET K) (h : Ent K H p a e) (q : P (.int e.ht)) : ∃ a' C dx fs v, V.ref a = .ref a' ∧ H a' = some (.ins C dx fs) ∧ Cls K C ∧ NoAttr K C "height" ∧ fs.lookup ("height" : Str) = some v ∧ P v := by
  obtain ⟨dx, v, m, b, fs, h1, h2, h3, h4, h5⟩ := h
  exact ⟨a, _, dx, fs, _, rfl, h1, t.cl, t.n3, h2.2.2.1, q⟩
theorem f_maker (t : ET K) (h : Ent K H p a e) (q : ∀ m, SqT K H m [.int e.mr.1, .int e.mr.2] → P (.ref m)) : ∃ a' C dx fs v, V.ref a = .ref a' ∧ H a' = some (.ins C dx fs) ∧ Cls K C ∧ NoAttr K C "maker" ∧ fs.lookup ("maker" : Str) = some v ∧ P v := by
  obtain ⟨dx, v, m, b, fs, h1, h2, h3, h4, h5⟩ := h
  exact ⟨a, _, dx, fs, _, rfl, h1, t.cl, t.n4, h2.2.2.2.1, q m h4⟩
theorem f_deleted (t : ET K) (h : Ent K H p a e) (q : P (.bl e.dl)) : ∃ a' C dx fs v, V.ref a = .ref a' ∧ H a' = some (.ins C dx fs) ∧ Cls K C ∧ NoAttr K C "deleted" ∧ fs.lookup ("deleted" : Str) = some v ∧ P v := by
  obtain ⟨dx, v, m, b, fs, h1, h2, h3, h4, h5⟩ := h
  exact ⟨a, _, dx, fs, _, rfl, h1, t.cl, t.n5, h2.2.2.2.2.1, q⟩
theorem f_time (t : ET K) (h : Ent K H p a e) (q : P (.int e.tm)) : ∃ a' C dx fs v, V.ref a = .ref a' ∧ H a' = some (.ins C dx fs) ∧ Cls K C ∧ NoAttr K C "time" ∧ fs.lookup ("time" : Str) = some v ∧ P v := by
  obtain ⟨dx, v, m, b, fs, h1, h2, h3, h4, h5⟩ := h
  exact ⟨a, _, dx, fs, _, rfl, h1, t.cl, t.n6, h2.2.2.2.2.2.1, q⟩
theorem f_blocks (t : ET K) (h : Ent K H p a e) (q : ∀ b, SqT K H b (e.bl.map V.int) → P (.ref b)) : ∃ a' C dx fs v, V.ref a = .ref a' ∧ H a' = some (.ins C dx fs) ∧ Cls K C ∧ NoAttr K C "blocks" ∧ fs.lookup ("blocks" : Str) = some v ∧ P v := by
  obtain ⟨dx, v, m, b, fs, h1, h2, h3, h4, h5⟩ := h
  exact ⟨a, _, dx, fs, _, rfl, h1, t.cl, t.n7, h2.2.2.2.2.2.2, q b h5⟩
end
theorem fs7_ok (n v h m d t b : V) : (fs7 n v h m d t b).lookup ("name" : Str) = some n ∧ (fs7 n v h m d t b).lookup ("vector" : Str) = some v ∧ (fs7 n v h m d t b).lookup ("height" : Str) = some h ∧ (fs7 n v h m d t b).lookup ("maker" : Str) = some m ∧
    (fs7 n v h m d t b).lookup ("deleted" : Str) = some d ∧ (fs7 n v h m d t b).lookup ("time" : Str) = some t ∧ (fs7 n v h m d t b).lookup ("blocks" : Str) = some b := by
  unfold fs7
  refine ⟨?_, ?_, ?_, ?_, ?_, ?_, ?_⟩ <;> (repeat (rw [lookup_putF]; first | rw [if_pos rfl] | rw [if_neg (by decide)]))
/-- a new entry -/
theorem ent_made {K : PySem.W.Frag} {H : Hp} {p : Bool} {a v m b dx : Addr} (e : En) (h : H a = some (.ins (cEnt K) dx (fs7 (.str e.nm) (.ref v) (.int e.ht) (.ref m) (.bl e.dl) (.int e.tm) (.ref b)))) (hv : VecB p K H v (made e.f)) (hm : SqT K H m [.int e.mr.1, .int e.mr.2]) (hb : SqT K H b (e.bl.map V.int)) : Ent K H p a e :=
  ⟨dx, v, m, b, _, h, fs7_ok .., hv, hm, hb⟩
def sp_Entry___init__ (K : PySem.W.Frag) : Sp := fun vs H Q _ => ∃ x n v h m d t b, vs = [x, n, v, h, m, d, t, b] ∧ ∃ a dx, x = .ref a ∧ H a = some (.ins (cEnt K) dx []) ∧ Q .non (upd H a (.ins (cEnt K) dx (fs7 n v h m d t b)))
theorem e_mkE {K : PySem.W.Frag} {H1 : Hp} {P : Addr → Hp → Prop} {n v h m d t b : V} (q : ∀ a H' dx, H1 a = none → Same H1 H' → H' a = some (.ins (cEnt K) dx (fs7 n v h m d t b)) → P a H') :
    ∀ x dx, H1 x = none → H1 dx = none → dx ≠ x → sp_Entry___init__ K (.ref x :: ([n, v, h, m, d, t, b] ++ [])) (upd (upd H1 dx (.own x)) x (.ins (cEnt K) dx [])) (fun u H2 => u = .non ∧ P x H2) E0 := by
  intro x dx hx hdx ne
  refine ⟨_, _, _, _, _, _, _, _, rfl, x, dx, rfl, upd_same, rfl, ?_⟩
  rw [upd_upd]
  exact q x _ dx hx (Same.mut (same_new hdx) hx) upd_same
def enEq (e g : En) : Bool := decide (e.nm = g.nm) && (decide (made e.f = made g.f) && (decide (e.ht = g.ht) && (decide (e.mr = g.mr) && ((e.dl == g.dl) && (decide (e.tm = g.tm) && decide (e.bl = g.bl))))))
def sp_Entry___eq__ (K : PySem.W.Frag) : Sp := sp2 fun x y H Q => ∃ (a : Addr) (p : Bool) (e : En), x = .ref a ∧ Ent K H p a e ∧
  ((∃ (b : Addr) (p2 : Bool) (g : En), y = .ref b ∧ Ent K H p2 b g ∧ Q (.bl (enEq e g)) H) ∨ (∃ (t : Addr) (ys : List V), y = .ref t ∧ H t = some (.lst ys) ∧ Q (.bl false) H))
/-- two entries compared -/
theorem e_eqEE {K : PySem.W.Frag} {H : Hp} {Q : VK} {a b : Addr} {p p2 : Bool} {e g : En} (h1 : Ent K H p a e) (h2 : Ent K H p2 b g) (q : Q (.bl (enEq e g)) H) : rEqOL K (cEnt K) (sp_Entry___eq__ K) E0 (.ref a) (.ref b) H Q := by
  obtain ⟨dx, v, m, bb, fs, k1, _⟩ := id h1
  obtain ⟨dy, v2, m2, bb2, gs, k2, _⟩ := id h2
  exact ⟨a, b, dx, fs, rfl, rfl, k1, .inl ⟨dy, gs, k2⟩, _, _, rfl, a, p, e, rfl, h1, .inl ⟨b, p2, g, rfl, h2, _, rfl, q⟩⟩
theorem enEq_self (e : En) : enEq e e = true := by
  unfold enEq
  simp
/-! keys -/
def KeyT (K : PySem.W.Frag) (H : Hp) (r : Addr) (e : En) : Prop := ∃ c, SqT K H r [.int e.ht, .int e.tm, .int (if e.dl = true then 0 else 1), .int (-e.mr.1), .int (-e.mr.2), .ref c] ∧ SqT K H c ((row9 e.f).map V.int)
def kdE (e : En) : PyData := .tuple [.int e.ht, .int e.tm, .int (if e.dl = true then 0 else 1), .int (-e.mr.1), .int (-e.mr.2), .tuple (Di (row9 e.f))]
theorem key_dp {K : PySem.W.Frag} {H : Hp} {r : Addr} {e : En} (h : KeyT K H r e) : Dp K H (.ref r) (kdE e) := by
  obtain ⟨c, h1, h2⟩ := h
  exact .tup h1 (.cons (.int _) (.cons (.int _) (.cons (.int _) (.cons (.int _) (.cons (.int _) (.cons (dp_ti h2) .nil))))))
theorem KeyT.same {K : PySem.W.Frag} {H H' : Hp} {r : Addr} {e : En} (h : KeyT K H r e) (s : Same H H') : KeyT K H' r e := by
  obtain ⟨c, h1, h2⟩ := h
  exact ⟨c, same_tup s h1, same_tup s h2⟩
theorem kdE_plain (e : En) : (kdE e).plain = true := by simp [kdE, PyData.plain, PyData.plainAll, plain_ints]
theorem kdE_depth (e : En) : (kdE e).depth ≤ 60 := by
  show PyData.depthAll [.int e.ht, .int e.tm, .int (if e.dl = true then 0 else 1), .int (-e.mr.1), .int (-e.mr.2), .tuple (Di (row9 e.f))] + 1 ≤ 60
  simp [PyData.depthAll, PyData.depth, Vf.depthAll_ints]
theorem kdE_self (e : En) : PyData.eqv (kdE e) (kdE e) = true := by simp [kdE, PyData.eqv, PyData.eqvAll, eqvAll_ints]
theorem kdE_alike (e g : En) : PySem.W.alike (kdE e) (kdE g) = true := by simp [kdE, PySem.W.alike, PySem.W.alikeAll, alikeAll_ints]
def spKey (K : PySem.W.Frag) : Sp := sp1 fun x H Q => ∃ (a : Addr) (p : Bool) (e : En), x = .ref a ∧ Ent K H p a e ∧ (∀ k, 0 ≤ e.f k) ∧ ∀ (r : Addr) (H' : Hp), Same H H' → KeyT K H' r e → Q (.ref r) H'
abbrev sp_key_of := spKey
abbrev sp_law_key := spKey
def alk (e g : En) : Bool := (e.dl == g.dl) && decide (e.bl = g.bl)
def sp_alike (K : PySem.W.Frag) : Sp := sp2 fun x y H Q => ∃ (a b : Addr) (p p2 : Bool) (e g : En), x = .ref a ∧ y = .ref b ∧ Ent K H p a e ∧ Ent K H p2 b g ∧ Q (.bl (alk e g)) H
abbrev Ents (K : PySem.W.Frag) (H : Hp) (p : Bool) (ps : List Addr) (es : List En) : Prop := Paired (fun a e => Ent K H p a e) ps es
theorem ents_same {K : PySem.W.Frag} {H H' : Hp} {p : Bool} {ps : List Addr} {es : List En} (s : Same H H') (h : Ents K H p ps es) : Ents K H' p ps es := paired_imp (fun _ _ q => q.same s) h
def dE : En := ⟨"", fun _ => 0, 0, (0, 0), false, 0, []⟩
def kdL (es : List En) (i : Nat) : PyData := kdE (es.getD i dE)
def enB (es : List En) : En := es.getD (mxI (kdL es) es.length) dE
def wf (es : List En) (b : En) (f : Nat → Int) : Nat → Int := es.foldl (fun f e => if alk e b = true then fun k => mx (f k) (e.f k) else f) f
def winE (es : List En) : En := { enB es with f := wf es (enB es) (enB es).f }
def spWin (K : PySem.W.Frag) : Sp := sp1 fun x H Q => ∃ (a : Addr) (ps : List Addr) (es : List En), x = .ref a ∧ SqL K H a (ps.map V.ref) ∧ Ents K H true ps es ∧ (∀ e ∈ es, ∀ k, 0 ≤ e.f k) ∧ 0 < es.length ∧ es.length ≤ 100 ∧
  ∀ (r : Addr) (H' : Hp), Same H H' → Ent K H' true r (winE es) → Q (.ref r) H'
abbrev sp_winner := spWin
abbrev sp_law_winner := spWin
/-! the mathematics of winners -/
theorem fold_up (k : Nat) : ∀ (l : List En) (x y : Int), (∃ e ∈ l, x ≤ e.f k) → y ≤ x → l.foldl (fun x e => mx x (e.f k)) x = l.foldl (fun x e => mx x (e.f k)) y
  | [], x, y, h, _ => by obtain ⟨e, he, _⟩ := h; cases he
  | e :: r, x, y, h, hy => by
    show r.foldl _ (mx x (e.f k)) = r.foldl _ (mx y (e.f k))
    by_cases hx : x ≤ e.f k
    · have e1 : mx x (e.f k) = e.f k := by unfold mx; split <;> omega
      have e2 : mx y (e.f k) = e.f k := by unfold mx; split <;> omega
      rw [e1, e2]
    · have e1 : mx x (e.f k) = x := by unfold mx; split <;> omega
      have e2 : mx y (e.f k) ≤ x := by unfold mx; split <;> omega
      rw [e1]
      refine fold_up k r x _ ?_ e2
      obtain ⟨g, hg, h⟩ := h
      rcases List.mem_cons.mp hg with rfl | hg
      · exact absurd h hx
      · exact ⟨g, hg, h⟩
theorem wf_at (b : En) (k : Nat) : ∀ (es : List En) (f : Nat → Int), wf es b f k = (es.filter fun e => alk e b).foldl (fun x e => mx x (e.f k)) (f k)
  | [], f => rfl
  | e :: r, f => by
    show wf r b (if alk e b = true then fun k => mx (f k) (e.f k) else f) k = _
    rw [wf_at b k r]
    by_cases h : alk e b = true
    · rw [if_pos h, List.filter_cons_of_pos (p := fun e => alk e b) h]; rfl
    · rw [if_neg h, List.filter_cons_of_neg (p := fun e => alk e b) h]
theorem alk_self (e : En) : alk e e = true := by unfold alk; simp
theorem wf_zero {es : List En} {b : En} (hb : b ∈ es) (hn : ∀ k, 0 ≤ b.f k) : wf es b b.f = wf es b fun _ => 0 := by
  funext k
  rw [wf_at, wf_at]
  exact fold_up k _ _ _ ⟨b, List.mem_filter.mpr ⟨hb, alk_self b⟩, Int.le_refl _⟩ (hn k)
theorem wf_nn {es : List En} {b : En} (he : ∀ e ∈ es, ∀ k, 0 ≤ e.f k) : ∀ {f : Nat → Int}, (∀ k, 0 ≤ f k) → ∀ k, 0 ≤ wf es b f k := by
  induction es with
  | nil => intro f hf; exact hf
  | cons e r ih =>
    intro f hf
    show ∀ k, 0 ≤ wf r b (if alk e b = true then fun k => mx (f k) (e.f k) else f) k
    refine ih (fun e he2 => he e (List.mem_cons_of_mem _ he2)) fun k => ?_
    have h1 := hf k
    have h2 := he e (List.mem_cons_self ..) k
    split
    · show 0 ≤ mx (f k) (e.f k)
      unfold mx
      split <;> omega
    · exact h1
theorem made_zero : made (fun _ => 0) = [] := by
  unfold made madeN
  rw [List.filter_eq_nil_iff.mpr fun k _ => by simp]
  rfl
theorem made_one {j : Nat} (hj : j < 9) {n : Int} (hn : 0 < n) : made (fun k => if k = j then n else 0) = [(((j : Nat) : Int) + 1, n)] := by
  have h : j = 0 ∨ j = 1 ∨ j = 2 ∨ j = 3 ∨ j = 4 ∨ j = 5 ∨ j = 6 ∨ j = 7 ∨ j = 8 := by omega
  unfold made madeN
  rcases h with h | h | h | h | h | h | h | h | h <;> subst h <;> simp [List.range, List.range.loop, hn]
theorem for_ents {K : PySem.W.Frag} {g : TG} {t : TS} {D : Ends} {σ : L2.St} {H H0 : Hp} {a : Addr} {ps : List Addr} {es : List En} {p : Bool} (hS : SqL K H0 a (ps.map V.ref)) (hP : Ents K H0 p ps es) (Pv : List En → L2.St → Hp → Prop) (h0 : Pv [] σ H) (hl : ∀ pre σ H, Pv pre σ H → Same H0 H)
    (hs : ∀ (pre : List En) (e : En) (post : List En) (q : Addr) σ H, es = pre ++ e :: post → Pv pre σ H → ps[pre.length]? = some q → Ent K H p q e → g (.ref q) σ H fun σ2 H2 => t { D with nx := Pv (pre ++ [e]), ct := Pv (pre ++ [e]), bk := D.nx } σ2 H2)
    (hd : ∀ σ H, Pv es σ H → D.nx σ H) : ForB (Itl K a) g t D σ H := by
  refine for_list (xs := ps.map V.ref) (fun i => Pv (es.take i)) (by simpa using h0) (fun i σ H _ q => (hl _ σ H q).seq hS) (fun i x σ H hx q => ?_) (fun σ H q => ?_)
  · rw [List.getElem?_map] at hx
    obtain ⟨r, hr, rfl⟩ := Option.map_eq_some_iff.mp hx
    obtain ⟨e, he, hE⟩ := paired_get hP i r hr
    have hi := (List.getElem?_eq_some_iff.mp he).1
    have e2 := (List.getElem?_eq_some_iff.mp he).2
    have e1 : es = es.take i ++ e :: es.drop (i + 1) := by rw [← e2, List.getElem_cons_drop, List.take_append_drop]
    have el : (es.take i).length = i := by rw [List.length_take]; omega
    rw [List.take_add_one, he]
    exact hs _ e _ r σ H e1 q (by rw [el]; exact hr) (hE.same (hl _ σ H q))
  · rw [List.length_map, paired_len hP, List.take_length] at q
    exact hd σ H q
theorem len_put {f : Str} {v : V} : ∀ {fs : List (Str × V)} {n : Nat}, fs.length ≤ n → (putF f v fs).length ≤ n + 1
  | [], n, h => by show 1 ≤ n + 1; omega
  | (g, x) :: r, n, h => by
    show (if g = f then (g, v) :: r else (g, x) :: putF f v r).length ≤ n + 1
    rw [List.length_cons] at h
    by_cases e : g = f
    · rw [if_pos e, List.length_cons]; omega
    · rw [if_neg e, List.length_cons]
      have := len_put (f := f) (v := v) (fs := r) (n := n - 1) (by omega)
      omega
theorem lt_put {fs : List (Str × V)} (h : fs.length ≤ 8) : fs.length < 1000 := Nat.lt_of_le_of_lt h (by decide)
theorem e_raiseErr {C : Addr} {W : WX} {ta : TA} {D : Ends} {σ : L2.St} {H : Hp} (q : ta σ H fun vs H1 => ∃ v, vs = [v] ∧ ∀ d, H1 d = none → W (.ref C) (some d) σ (upd H1 d (.xd [(("place" : Str), v)]))) : tRaiseErr C W ta D σ H := q
theorem e_callS {sp : Sp} {E : L2.St → XK} {t : TA} {σ : L2.St} {H : Hp} {Q : VK} (q : t σ H fun vs H1 => sp vs H1 Q (E σ)) : tCallS sp E t σ H Q := q
theorem e_plcErr {C a : Addr} {cls : Value} {d : Option Addr} {te : TE} {σ : L2.St} {H : Hp} {Q : VK} (q : te σ H fun x H1 => x = .ref a ∧ cls = .ref C ∧ ∃ (dd : Addr) (v : V), d = some dd ∧ H1 dd = some (.xd [(("place" : Str), v)]) ∧ Q v H1) : tPlcErr C a cls d te σ H Q := q
theorem e_tMethX {C : Addr} {m : Str} {sp : Sp} {EE : L2.St → XK} {ta : TE} {t : TA} {σ : L2.St} {H : Hp} {Q : VK} (q : ta σ H fun x H1 => ∃ a dx fs, x = .ref a ∧ H1 a = some (.ins C dx fs) ∧ fs.lookup m = none ∧ t σ H1 fun vs H2 => sp (x :: vs) H2 Q (EE σ)) : tMethX C m sp EE ta t σ H Q := q
theorem e_tDIn {td ty : TE} {σ : L2.St} {H : Hp} {Q : VK} (q : ty σ H fun y H1 => td σ H1 fun x H2 => ∃ a o, x = .ref a ∧ DGet H2 a y o ∧ Q (.bl o.isSome) H2) : tDIn ty td σ H Q := q
theorem e_tDNotIn {td ty : TE} {σ : L2.St} {H : Hp} {Q : VK} (q : ty σ H fun y H1 => td σ H1 fun x H2 => ∃ a o, x = .ref a ∧ DGet H2 a y o ∧ Q (.bl (!o.isSome)) H2) : tDNotIn ty td σ H Q := q
theorem e_tDSetd {td ty tx : TE} {σ : L2.St} {H : Hp} {Q : VK} (q : td σ H fun x H1 => ∃ a, x = .ref a ∧ IsD H1 a ∧ ty σ H1 fun y H2 => tx σ H2 fun z H3 => ∃ (kvs : List (Key × V)) (k : Key), H3 a = some (.dK kvs) ∧ y = kV k ∧ kvs.length < sizeLine ∧
  (∀ v, valV kvs k = some v → Q v H3) ∧ (valV kvs k = none → Q z (upd H3 a (.dK (putK kvs k z))))) : tDSetd td ty tx σ H Q := q
theorem e_lockE {t : TE} {σ : L2.St} {H : Hp} {Q : VK} (q : ∃ d u, H d = some u ∧ Mut (some u) ∧ ∀ od, t σ (upd H d (.frz od u)) fun v H' => H' d = some (.frz od u) ∧ Q v (upd H' d u)) : tLockE t σ H Q := q
theorem e_iItems {td : TE} {σ : L2.St} {H : Hp} {R : It → Hp → Prop} (q : td σ H fun x H1 => ∃ d o kvs, x = .ref d ∧ H1 d = some (.frz o (.dK kvs)) ∧ R (Iti d o kvs) H1) : iItems td σ H R := q
theorem e_sFldAug {K : PySem.W.Frag} {ta tv : TE} {rd : V → V → Hp → VK → Prop} {f : Str} {D : Ends} {σ : L2.St} {H : Hp} (q : ta σ H fun x H1 => ∃ a C dx fs v, x = .ref a ∧ H1 a = some (.ins C dx fs) ∧ Cls K C ∧ NoAttr K C f ∧ fs.lookup f = some v ∧
  tv σ H1 fun y H2 => rd v y H2 fun z H3 => ∃ dx' fs', H3 a = some (.ins C dx' fs') ∧ fs'.length < 1000 ∧ D.nx σ (upd H3 a (.ins C dx' (putF f z fs')))) : sFldAug K ta tv rd f D σ H := q
theorem e_tMeth {C : Addr} {m : Str} {sp : Sp} {dvs : List V} {E : XK} {ta : TE} {t : TA} {σ : L2.St} {H : Hp} {Q : VK} (q : ta σ H fun x H1 => ∃ a dx fs, x = .ref a ∧ H1 a = some (.ins C dx fs) ∧ fs.lookup m = none ∧ t σ H1 fun vs H2 => sp (x :: (vs ++ dvs)) H2 Q E) : tMeth C m sp dvs E ta t σ H Q := q
theorem i_some {v : V} {P R : Prop} (q : P) : if (Option.some v).isSome = true then P else R := q
theorem i_none {P R : Prop} (q : R) : if (Option.none (α := V)).isSome = true then P else R := q
theorem i_nsome {v : V} {P R : Prop} (q : R) : if (!(Option.some v).isSome) = true then P else R := q
theorem i_nnone {P R : Prop} (q : P) : if (!(Option.none (α := V)).isSome) = true then P else R := q
theorem e_dnewK {σ : L2.St} {H : Hp} {Q : VK} (q : ∀ p, H p = none → Q (.ref p) (upd H p (.dK []))) : tDNewK σ H Q := q
theorem e_tWhile {tc : TT} {tb : TS} {D : Ends} {σ : L2.St} {H : Hp} (q : ∃ W : Nat → L2.St → Hp → Prop, (∃ m, W m σ H) ∧ ∀ m σ H, W m σ H → tc σ H fun b H1 => if b = true then ∃ N : L2.St → Hp → Prop, (∀ σ' H', N σ' H' → ∃ m', m' < m ∧ W m' σ' H') ∧ tb { D with nx := N, ct := N, bk := D.nx } σ H1 else D.nx σ H1) : tWhile tc tb D σ H := q
/-! ### what stands but at some places -/
def Fr (S : List Addr) (H H' : Hp) : Prop := ∀ x o, x ∉ S → H x = some o → H' x = some o
theorem Fr.of {S : List Addr} {H H' : Hp} (h : Same H H') : Fr S H H' := fun x o _ e => h x o e
theorem Fr.refl (S : List Addr) (H : Hp) : Fr S H H := fun _ _ _ e => e
theorem Fr.trans {S : List Addr} {H H1 H2 : Hp} (h : Fr S H H1) (g : Fr S H1 H2) : Fr S H H2 := fun x o n e => g x o n (h x o n e)
theorem Fr.same {S : List Addr} {H H1 H2 : Hp} (h : Fr S H H1) (g : Same H1 H2) : Fr S H H2 := fun x o n e => g x o (h x o n e)
theorem Fr.put {S : List Addr} {H H1 : Hp} {a : Addr} {o : HO} (h : Fr S H H1) (m : a ∈ S) : Fr S H (upd H1 a o) := fun x o' n e => by
  rw [upd_ne fun z => n (by rw [z]; exact m)]
  exact h x o' n e
theorem Fr.mono {S S' : List Addr} {H H1 : Hp} (h : Fr S H H1) (m : ∀ x ∈ S, x ∈ S') : Fr S' H H1 := fun x o n e => h x o (fun z => n (m x z)) e
theorem Fr.mut {S : List Addr} {H H1 : Hp} {a : Addr} {o : HO} (h : Fr S H H1) (m : H a = none) : Fr S H (upd H1 a o) := fun x o' n e => by
  rw [upd_ne (ne_of_none e m)]
  exact h x o' n e
theorem Fr.put2 {S : List Addr} {H H1 : Hp} {a : Addr} {o : HO} (h : Fr S H H1) (m : a ∈ S ∨ H a = none) : Fr S H (upd H1 a o) := m.elim (fun m => h.put m) fun m => h.mut m
/-! ### the heap without some places -/
def hid (D : List Addr) (H : Hp) : Hp := fun b => if b ∈ D then none else H b
theorem hid_at {D : List Addr} {H : Hp} {b : Addr} (n : b ∉ D) : hid D H b = H b := by unfold hid; rw [if_neg n]
theorem hid_in {D : List Addr} {H : Hp} {b : Addr} (m : b ∈ D) : hid D H b = none := by unfold hid; rw [if_pos m]
theorem hid_some {D : List Addr} {H : Hp} {b : Addr} {o : HO} (h : hid D H b = some o) : b ∉ D ∧ H b = some o := by
  by_cases m : b ∈ D
  · rw [hid_in m] at h; cases h
  · rw [hid_at m] at h; exact ⟨m, h⟩
theorem hid_upd {D : List Addr} {H : Hp} {p : Addr} {o : HO} (n : p ∉ D) : hid D (upd H p o) = upd (hid D H) p o := by
  funext b
  by_cases e : b = p
  · rw [e, hid_at n, upd_same, upd_same]
  · rw [upd_ne e]
    by_cases m : b ∈ D
    · rw [hid_in m, hid_in m]
    · rw [hid_at m, hid_at m, upd_ne e]
theorem hid_upd_in {D : List Addr} {H : Hp} {p : Addr} {o : HO} (m : p ∈ D) : hid D (upd H p o) = hid D H := by
  funext b
  by_cases m2 : b ∈ D
  · rw [hid_in m2, hid_in m2]
  · rw [hid_at m2, hid_at m2, upd_ne fun e => m2 (by rw [e]; exact m)]
theorem hid_fr {D : List Addr} {H H' : Hp} (f : Fr D H H') : Same (hid D H) (hid D H') := fun b o h => by
  obtain ⟨n, e⟩ := hid_some h
  rw [hid_at n]
  exact f b o n e
theorem hid_same {D : List Addr} {H H' : Hp} (s : Same H H') : Same (hid D H) (hid D H') := hid_fr (Fr.of s)
theorem hid_sub {D : List Addr} {H : Hp} : Same (hid D H) H := fun b o h => (hid_some h).2
theorem hid_nil {H : Hp} : hid [] H = H := by funext b; exact hid_at (by simp)
theorem hid_none {D : List Addr} {H : Hp} {b : Addr} (h : H b = none) : hid D H b = none := by
  by_cases m : b ∈ D
  · exact hid_in m
  · rw [hid_at m]; exact h
theorem hid_new {H : Hp} {D p : Addr} {o o' : HO} (hD : H D = some o') (hp : H p = none) : hid [D] (upd H p o) = upd (hid [D] H) p o := hid_upd (by
  intro m
  rw [List.mem_singleton.mp m, hD] at hp
  cases hp)
/-- a list made by a comprehension whose elements stand in a relation to their places -/
theorem lc_rel {J : It} {n : Nat} {G : Hp → Prop} {Y : Nat → Hp → V → Hp → Prop} (w : Walk J n G Y) {g : TG} {te : TE} {vs : List Nat} {σ : L2.St} {Da : Addr} {H0 : Hp} {Q : VK} (hD : H0 Da = none) (hn : n ≤ 1000000)
    (hG : ∀ H, Same H0 H → G H) (R : Nat → V → Hp → Prop) (mono : ∀ i v H H', R i v H → Same H H' → R i v H')
    (hs : ∀ (i : Nat) (x : V) (H H' : Hp) (C : VK) (E : Hp → Prop) (acc : HO), i < n → Same H0 H → H Da = some acc → Y i H x H' → (∀ v H3, Same H H3 → R i v (hid [Da] H3) → C v H3) →
      g x (wipe σ vs) H' fun σ2 H2 => wipe σ2 vs = wipe σ vs ∧ tYes σ2 H2 fun b H3 => if b = true then te σ2 H3 C else E H3)
    (hd : ∀ (H : Hp) (us : List V), Same H0 H → H Da = some (.lst us) → us.length = n → (∀ i v, us[i]? = some v → R i v (hid [Da] H)) → Q (.ref Da) H) : LcB J g tYes te vs σ Da H0 Q := by
  refine lc_it w (fun i H => Same H0 H ∧ ∃ us, H Da = some (.lst us) ∧ us.length = i ∧ ∀ j v, us[j]? = some v → R j v (hid [Da] H)) ⟨same_new hD, [], upd_same, rfl, fun j v h => by simp at h⟩ (fun i H _ p => hG H p.1) (fun i x H H' hi p y => ?_) (fun H p => ?_)
  · obtain ⟨s1, us, e1, l1, r1⟩ := p
    refine hs i x H H' _ _ _ hi s1 e1 y fun v H3 s3 r3 => ?_
    refine ⟨us, s3 _ _ e1, Nat.lt_of_le_of_lt (by omega : _ ≤ 1000000) (by decide), Same.mut (s1.trans s3) hD, us ++ [v], upd_same, by simp [l1], fun j u hj => ?_⟩
    rw [hid_upd_in (List.mem_singleton.mpr rfl)]
    by_cases hl : j < us.length
    · rw [List.getElem?_append_left hl] at hj
      exact mono _ _ _ _ (r1 j u hj) (hid_same s3)
    · rw [List.getElem?_append_right (by omega)] at hj
      have hj2 := (List.getElem?_eq_some_iff.mp hj).1
      have z : j = i := by simp at hj2; omega
      subst z
      rw [l1, Nat.sub_self] at hj
      cases hj
      exact r3
  · obtain ⟨s1, us, e1, l1, r1⟩ := p
    exact hd H us s1 e1 l1 r1
theorem prd_mk {α β : Type} {F : α → β → Prop} : ∀ {l : List α} {m : List β}, l.length = m.length → (∀ (i : Nat) (a : α) (b : β), l[i]? = some a → m[i]? = some b → F a b) → Paired F l m
  | [], [], _, _ => .nil
  | a :: l, b :: m, e, h => .cons (h 0 a b rfl rfl) (prd_mk (by simpa using e) fun i x y h1 h2 => h (i + 1) x y h1 h2)
theorem prd_app {α β : Type} {F : α → β → Prop} : ∀ {l1 : List α} {m1 : List β} {l2 : List α} {m2 : List β}, Paired F l1 m1 → Paired F l2 m2 → Paired F (l1 ++ l2) (m1 ++ m2)
  | _, _, _, _, .nil, h => h
  | _, _, _, _, .cons a t, h => .cons a (prd_app t h)
theorem prd_take {α β : Type} {F : α → β → Prop} : ∀ {l : List α} {m : List β} (n : Nat), Paired F l m → Paired F (l.take n) (m.take n)
  | _, _, 0, _ => .nil
  | _, _, _ + 1, .nil => .nil
  | _, _, n + 1, .cons a t => .cons a (prd_take n t)
theorem prd_drop {α β : Type} {F : α → β → Prop} : ∀ {l : List α} {m : List β} (n : Nat), Paired F l m → Paired F (l.drop n) (m.drop n)
  | _, _, 0, h => h
  | _, _, _ + 1, .nil => .nil
  | _, _, n + 1, .cons _ t => prd_drop n t
/-- all are places -/
theorem all_refs : ∀ (us : List V), (∀ u ∈ us, ∃ q, u = .ref q) → ∃ qs : List Addr, us = qs.map V.ref
  | [], _ => ⟨[], rfl⟩
  | u :: us, h => by
    obtain ⟨q, e⟩ := h u (List.mem_cons_self ..)
    obtain ⟨qs, e2⟩ := all_refs us fun x m => h x (List.mem_cons_of_mem _ m)
    exact ⟨q :: qs, by rw [e, e2]; rfl⟩
/-- not a tuple -/
def NT (H : Hp) (d : Addr) : Prop := (∀ xs, H d ≠ some (.tup xs)) ∧ ∀ c xs, H d ≠ some (.frz c (.tup xs))
theorem sqT_hid {K : PySem.W.Frag} {D : List Addr} {H : Hp} {p : Addr} {xs : List V} (h : SqT K H p xs) (n : ∀ d ∈ D, NT H d) : SqT K (hid D H) p xs := by
  rcases h with (h | ⟨c9, h⟩) | h
  · exact .inl (.inl (by rw [hid_at fun m => (n p m).1 _ h]; exact h))
  · exact .inl (.inr ⟨c9, by rw [hid_at fun m => (n p m).2 _ _ h]; exact h⟩)
  · exact .inr h
theorem vec_hid {K : PySem.W.Frag} {D : List Addr} {H : Hp} {a : Addr} {v : Vc} (h : Vec K H a v) (n : ∀ d ∈ D, NT H d) : Vec K (hid D H) a v := by
  obtain ⟨ps, h1, h2⟩ := h
  exact ⟨ps, sqT_hid h1 n, paired_imp (fun _ _ q => sqT_hid q n) h2⟩
theorem nt_lst {H : Hp} {d : Addr} {xs : List V} (h : H d = some (.lst xs)) : NT H d := ⟨fun _ z => (by rw [h] at z; cases z), fun _ _ z => (by rw [h] at z; cases z)⟩
theorem nt_dK {H : Hp} {d : Addr} {xs : List (Key × V)} (h : H d = some (.dK xs)) : NT H d := ⟨fun _ z => (by rw [h] at z; cases z), fun _ _ z => (by rw [h] at z; cases z)⟩
theorem nt_ins {H : Hp} {d C dx : Addr} {fs : List (Str × V)} (h : H d = some (.ins C dx fs)) : NT H d := ⟨fun _ z => (by rw [h] at z; cases z), fun _ _ z => (by rw [h] at z; cases z)⟩
/-- the law's own things: they stand, and are no tuples -/
def Al (D : List Addr) (H : Hp) : Prop := ∀ d ∈ D, (∃ o, H d = some o) ∧ NT H d
theorem nt_of {H H' : Hp} {d : Addr} {o : HO} (h : NT H d) (e : H d = some o) (e2 : H' d = some o) : NT H' d := ⟨fun xs z => h.1 xs (by rw [e, ← e2]; exact z), fun c xs z => h.2 c xs (by rw [e, ← e2]; exact z)⟩
theorem Al.nt {D : List Addr} {H : Hp} (h : Al D H) : ∀ d ∈ D, NT H d := fun d m => (h d m).2
theorem Al.same {D : List Addr} {H H' : Hp} (h : Al D H) (s : Same H H') : Al D H' := fun d m => let ⟨⟨o, e⟩, n⟩ := h d m; ⟨⟨o, s _ _ e⟩, nt_of n e (s _ _ e)⟩
theorem Al.free {D : List Addr} {H : Hp} {p : Addr} (h : Al D H) (e : H p = none) : p ∉ D := fun m => by
  obtain ⟨⟨o, z⟩, _⟩ := h p m
  rw [e] at z; cases z
theorem Al.kp {S D : List Addr} {H H' : Hp} (h : Al D H) (n : ∀ d ∈ D, d ∉ S) (f : Fr S H H') : Al D H' := fun d m => let ⟨⟨o, e⟩, t⟩ := h d m; ⟨⟨o, f _ _ (n d m) e⟩, nt_of t e (f _ _ (n d m) e)⟩
/-! ### stores -/
abbrev cSto (K : PySem.W.Frag) : Addr := He.ga K "Store"
structure S0 where
  fl : List (Str × (List Int × Int))
  tp : List (Str × List Int)
  at_ : List (Str × (Vc × List Int))
  n : Int
  lg : List Int
  nw : List Int
  bd : Option Nat
def bdV : Option Nat → V
  | none => .non
  | some k => .int (k : Nat)
def S0.tick (S : S0) : S0 := { S with n := S.n + 1, bd := S.bd.map fun k => k - 1 }
def dct (w : List (Str × Addr)) : List (Key × V) := w.map fun x => (Sum.inr x.1, V.ref x.2)
def FilA (H : Hp) (q : Addr) (r : List Int × Int) : Prop := ∃ l, H q = some (.tup [.ref l, .int r.2]) ∧ H l = some (.lst (r.1.map V.int))
def AttA (K : PySem.W.Frag) (H : Hp) (q : Addr) (r : Str × (Vc × List Int)) : Prop := ∃ v l, H q = some (.tup [.str r.1, .ref v, .ref l]) ∧ Vec K H v r.2.1 ∧ H l = some (.lst (r.2.2.map V.int))
abbrev Fls (H : Hp) (w : List (Str × Addr)) (fl : List (Str × (List Int × Int))) : Prop := Paired (fun x r => x.1 = r.1 ∧ FilA H x.2 r.2) w fl
abbrev Tps (H : Hp) (w : List (Str × Addr)) (tp : List (Str × List Int)) : Prop := Paired (fun x r => x.1 = r.1 ∧ H x.2 = some (.lst (r.2.map V.int))) w tp
abbrev Ats (K : PySem.W.Frag) (H : Hp) (q : List Addr) (l : List (Str × (Vc × List Int))) : Prop := Paired (AttA K H) q l
/-- the store's own things that change: itself, its dicts, its list, the temporary files -/
abbrev foot (a fd td ad ld nd : Addr) (tw : List (Str × Addr)) : List Addr := a :: fd :: td :: ad :: ld :: nd :: tw.map (·.2)
structure StoX (K : PySem.W.Frag) (H : Hp) (a : Addr) (S : S0) (dx fd td ad ld nd : Addr) (fs : List (Str × V)) (fw tw : List (Str × Addr)) (aq : List Addr) : Prop where
  ins : H a = some (.ins (cSto K) dx fs)
  len : fs.length ≤ 8
  l1 : fs.lookup ("_files" : Str) = some (.ref fd)
  l2 : fs.lookup ("_temps" : Str) = some (.ref td)
  l3 : fs.lookup ("_attic" : Str) = some (.ref ad)
  l4 : fs.lookup ("_log" : Str) = some (.ref ld)
  l5 : fs.lookup ("_new_log" : Str) = some (.ref nd)
  l6 : fs.lookup ("_budget" : Str) = some (bdV S.bd)
  l7 : fs.lookup ("_done" : Str) = some (.int S.n)
  l0 : ∀ m : Str, m ∉ (["_files", "_temps", "_attic", "_log", "_new_log", "_budget", "_done"] : List Str) → fs.lookup m = none
  f1 : H fd = some (.dK (dct fw))
  t1 : H td = some (.dK (dct tw))
  a1 : H ad = some (.lst (aq.map V.ref))
  f2 : Fls (hid (foot a fd td ad ld nd tw) H) fw S.fl
  t2 : Tps H tw S.tp
  a2 : Ats K (hid (foot a fd td ad ld nd tw) H) aq S.at_
  g1 : H ld = some (.lst (S.lg.map V.int))
  g2 : H nd = some (.lst (S.nw.map V.int))
  nd : (foot a fd td ad ld nd tw).Nodup
  fn : (S.fl.map (·.1)).Nodup
  tn : (S.tp.map (·.1)).Nodup
def Sto (K : PySem.W.Frag) (H : Hp) (F : List Addr) (a : Addr) (S : S0) : Prop := ∃ dx fd td ad ld nd fs fw tw aq, F = foot a fd td ad ld nd tw ∧ StoX K H a S dx fd td ad ld nd fs fw tw aq
theorem FilA.same {H H' : Hp} {q : Addr} {r : List Int × Int} (h : FilA H q r) (s : Same H H') : FilA H' q r := let ⟨l, h1, h2⟩ := h; ⟨l, s _ _ h1, s _ _ h2⟩
theorem AttA.same {K : PySem.W.Frag} {H H' : Hp} {q : Addr} {r : Str × (Vc × List Int)} (h : AttA K H q r) (s : Same H H') : AttA K H' q r := let ⟨v, l, h1, h2, h3⟩ := h; ⟨v, l, s _ _ h1, h2.same s, s _ _ h3⟩
theorem fls_same {H H' : Hp} {w : List (Str × Addr)} {fl : List (Str × (List Int × Int))} (h : Fls H w fl) (s : Same H H') : Fls H' w fl := paired_imp (fun _ _ q => ⟨q.1, q.2.same s⟩) h
theorem tps_same {H H' : Hp} {w : List (Str × Addr)} {fl : List (Str × List Int)} (h : Tps H w fl) (s : Same H H') : Tps H' w fl := paired_imp (fun _ _ q => ⟨q.1, s _ _ q.2⟩) h
theorem ats_same {K : PySem.W.Frag} {H H' : Hp} {w : List Addr} {fl : List (Str × (Vc × List Int))} (h : Ats K H w fl) (s : Same H H') : Ats K H' w fl := paired_imp (fun _ _ q => AttA.same q s) h
theorem Sto.same {K : PySem.W.Frag} {H H' : Hp} {F : List Addr} {a : Addr} {S : S0} (h : Sto K H F a S) (s : Same H H') : Sto K H' F a S := by
  obtain ⟨dx, fd, td, ad, ld, nd, fs, fw, tw, aq, rfl, x⟩ := h
  exact ⟨dx, fd, td, ad, ld, nd, fs, fw, tw, aq, rfl, s _ _ x.ins, x.len, x.l1, x.l2, x.l3, x.l4, x.l5, x.l6, x.l7, x.l0, s _ _ x.f1, s _ _ x.t1, s _ _ x.a1, fls_same x.f2 (hid_same s), tps_same x.t2 s, ats_same x.a2 (hid_same s), s _ _ x.g1, s _ _ x.g2, x.nd, x.fn, x.tn⟩
theorem tps_mem {H : Hp} : ∀ {w : List (Str × Addr)} {tp : List (Str × List Int)}, Tps H w tp → ∀ b ∈ w.map (·.2), ∃ xs, H b = some (.lst xs)
  | _, _, .nil, b, m => by cases m
  | _, _, .cons h t, b, m => by
    rcases List.mem_cons.mp m with e | m
    · exact ⟨_, by rw [e]; exact h.2⟩
    · exact tps_mem t b m
theorem StoX.has {K : PySem.W.Frag} {H : Hp} {a dx fd td ad ld nd : Addr} {S : S0} {fs : List (Str × V)} {fw tw : List (Str × Addr)} {aq : List Addr} (x : StoX K H a S dx fd td ad ld nd fs fw tw aq) : ∀ b ∈ foot a fd td ad ld nd tw, (∃ o, H b = some o) ∧ NT H b := fun b m => by
  rcases List.mem_cons.mp m with e | m
  · rw [e]; exact ⟨⟨_, x.ins⟩, nt_ins x.ins⟩
  rcases List.mem_cons.mp m with e | m
  · rw [e]; exact ⟨⟨_, x.f1⟩, nt_dK x.f1⟩
  rcases List.mem_cons.mp m with e | m
  · rw [e]; exact ⟨⟨_, x.t1⟩, nt_dK x.t1⟩
  rcases List.mem_cons.mp m with e | m
  · rw [e]; exact ⟨⟨_, x.a1⟩, nt_lst x.a1⟩
  rcases List.mem_cons.mp m with e | m
  · rw [e]; exact ⟨⟨_, x.g1⟩, nt_lst x.g1⟩
  rcases List.mem_cons.mp m with e | m
  · rw [e]; exact ⟨⟨_, x.g2⟩, nt_lst x.g2⟩
  obtain ⟨xs, h⟩ := tps_mem x.t2 b m
  exact ⟨⟨_, h⟩, nt_lst h⟩
theorem Sto.has {K : PySem.W.Frag} {H : Hp} {F : List Addr} {a : Addr} {S : S0} (h : Sto K H F a S) : ∀ b ∈ F, (∃ o, H b = some o) ∧ NT H b := by
  obtain ⟨dx, fd, td, ad, ld, nd, fs, fw, tw, aq, rfl, x⟩ := h
  exact x.has
theorem Sto.notin {K : PySem.W.Frag} {H : Hp} {D F : List Addr} {a : Addr} {S : S0} (h : Sto K (hid D H) F a S) {d : Addr} (m : d ∈ D) : d ∉ F := fun z => by
  obtain ⟨⟨o, e⟩, _⟩ := h.has d z
  rw [hid_in m] at e; cases e
theorem Al.fr {K : PySem.W.Frag} {D F : List Addr} {H H' : Hp} {a : Addr} {S : S0} (h : Al D H) (t : Sto K (hid D H) F a S) (f : Fr F H H') : Al D H' := h.kp (fun _ m => t.notin m) f
/-! looking up -/
def lk {β : Type} (nm : Str) : List (Str × β) → Option β
  | [] => none
  | r :: l => if r.1 = nm then some r.2 else lk nm l
theorem val_dct {β : Type} {R : Addr → β → Prop} (nm : Str) : ∀ {w : List (Str × Addr)} {fl : List (Str × β)}, Paired (fun x r => x.1 = r.1 ∧ R x.2 r.2) w fl →
    (valV (dct w) (Sum.inr nm) = none ∧ lk nm fl = none) ∨ ∃ q r, valV (dct w) (Sum.inr nm) = some (.ref q) ∧ lk nm fl = some r ∧ R q r ∧ (nm, q) ∈ w
  | _, _, .nil => .inl ⟨rfl, rfl⟩
  | x :: ws, r :: rs, .cons h t => by
    have e : valV (dct (x :: ws)) (Sum.inr nm) = if x.1 = nm then some (.ref x.2) else valV (dct ws) (Sum.inr nm) := by
      unfold valV dct
      rw [List.map_cons, List.find?_cons]
      by_cases z : x.1 = nm
      · rw [if_pos z, decide_eq_true (congrArg Sum.inr z)]; rfl
      · rw [if_neg z, decide_eq_false fun q => z (Sum.inr.inj q)]
    by_cases z : x.1 = nm
    · refine .inr ⟨x.2, r.2, by rw [e, if_pos z], ?_, h.2, ?_⟩
      · show (if r.1 = nm then some r.2 else lk nm rs) = _
        rw [if_pos (h.1.symm.trans z)]
      · rw [← z]; exact List.mem_cons_self ..
    · have z2 : ¬ r.1 = nm := fun q => z (h.1.trans q)
      have e2 : lk nm (r :: rs) = lk nm rs := by
        show (if r.1 = nm then some r.2 else lk nm rs) = _
        rw [if_neg z2]
      rcases val_dct nm t with ⟨h1, h2⟩ | ⟨q, s, h1, h2, h3, h4⟩
      · exact .inl ⟨by rw [e, if_neg z]; exact h1, by rw [e2]; exact h2⟩
      · exact .inr ⟨q, s, by rw [e, if_neg z]; exact h1, by rw [e2]; exact h2, h3, List.mem_cons_of_mem _ h4⟩
theorem dct_keys {β : Type} {R : Addr → β → Prop} : ∀ {w : List (Str × Addr)} {fl : List (Str × β)}, Paired (fun x r => x.1 = r.1 ∧ R x.2 r.2) w fl → (dct w).map (·.1) = (fl.map (·.1)).map Sum.inr
  | _, _, .nil => rfl
  | _, _, .cons h t => by
    show Sum.inr _ :: (dct _).map (·.1) = Sum.inr _ :: _
    rw [dct_keys t, h.1]
theorem lk_mem {β : Type} {nm : Str} : ∀ {l : List (Str × β)}, nm ∈ l.map (·.1) → ∃ r, lk nm l = some r ∧ (nm, r) ∈ l
  | [], h => by cases h
  | x :: l, h => by
    by_cases z : x.1 = nm
    · exact ⟨x.2, by show (if x.1 = nm then some x.2 else lk nm l) = _; rw [if_pos z], by rw [← z]; exact List.mem_cons_self ..⟩
    · rcases List.mem_cons.mp h with e | h
      · exact absurd e.symm z
      · obtain ⟨r, h1, h2⟩ := lk_mem h
        exact ⟨r, by show (if x.1 = nm then some x.2 else lk nm l) = _; rw [if_neg z]; exact h1, List.mem_cons_of_mem _ h2⟩
/-! the order of names -/
theorem rise_pw : ∀ (l : List Str) (p : Str), PyProof.Rows.risingS p l = true → (p :: l).Pairwise fun a b : Str => a.cps.toList ≤ b.cps.toList
  | [], p, _ => by simp
  | x :: r, p, h => by
    have h' : (!Spec.ltCps x.cps.toList p.cps.toList && PyProof.Rows.risingS x r) = true := h
    rw [Bool.and_eq_true] at h'
    have ih := rise_pw r x h'.2
    have px : p.cps.toList ≤ x.cps.toList := by
      have z := h'.1
      rw [PyProof.Rows.ltCps_eq] at z
      intro q
      rw [decide_eq_true q] at z
      cases z
    refine List.pairwise_cons.mpr ⟨fun y hy => ?_, ih⟩
    rcases List.mem_cons.mp hy with rfl | hy
    · exact px
    · exact List.le_trans px ((List.pairwise_cons.mp ih).1 y hy)
theorem sorted_one {l m : List Str} (hp : l.Perm m) (h1 : PyProof.Rows.sortedS l = true) (h2 : PyProof.Rows.sortedS m = true) : l = m := by
  have pw : ∀ l : List Str, PyProof.Rows.sortedS l = true → l.Pairwise fun a b : Str => a.cps.toList ≤ b.cps.toList := fun l h => by
    cases l with
    | nil => exact .nil
    | cons p r => exact rise_pw r p h
  exact hp.eq_of_pairwise (fun a b _ _ h3 h4 => TL.ext_tl (List.le_antisymm h3 h4)) (pw l h1) (pw m h2)
theorem Sto.new {K : PySem.W.Frag} {H : Hp} {D F : List Addr} {a d : Addr} {S : S0} (h : Sto K (hid D H) F a S) (e : H d = none) : d ∉ F := fun m => by
  obtain ⟨⟨o, z⟩, _⟩ := h.has d m
  rw [hid_none e] at z; cases z
theorem Sto.sub {K : PySem.W.Frag} {H : Hp} {D F : List Addr} {a : Addr} {S : S0} (h : Sto K (hid D H) F a S) : Sto K H F a S := h.same hid_sub
mutual
theorem eqv_self : ∀ d : PyData, d.plain = true → PyData.eqv d d = true
  | .none, _ => by simp [PyData.eqv]
  | .bool b, _ => by simp [PyData.eqv]
  | .int i, _ => by simp [PyData.eqv]
  | .str x, _ => by simp [PyData.eqv]
  | .list ds, h => by
    show PyData.eqvAll ds ds = true
    exact eqvAll_self ds h
  | .tuple ds, h => by
    show PyData.eqvAll ds ds = true
    exact eqvAll_self ds h
  | .dict ds, h => by cases h
theorem eqvAll_self : ∀ ds : List PyData, PyData.plainAll ds = true → PyData.eqvAll ds ds = true
  | [], _ => by simp [PyData.eqvAll]
  | d :: ds, h => by
    rw [PyData.plainAll, Bool.and_eq_true] at h
    rw [PyData.eqvAll, eqv_self d h.1, eqvAll_self ds h.2]
    rfl
end
theorem plain_map {α : Type} (f : α → PyData) (h : ∀ x, (f x).plain = true) : ∀ l : List α, PyData.plainAll (l.map f) = true
  | [] => by simp [PyData.plainAll]
  | x :: l => by rw [List.map_cons, PyData.plainAll, h x, plain_map f h l]; rfl
theorem depth_map {α : Type} (f : α → PyData) {n : Nat} (h : ∀ x, (f x).depth ≤ n) : ∀ l : List α, PyData.depthAll (l.map f) ≤ n
  | [] => by simp [PyData.depthAll]
  | x :: l => by
    rw [List.map_cons, PyData.depthAll]
    have h1 := h x
    have h2 := depth_map f h l
    omega
def durF (S : S0) (y : Str) : PyData := .tuple [.str y, .tuple (Di ((lk y S.fl).getD ([], 0)).1), .int ((lk y S.fl).getD ([], 0)).2]
def durT (S : S0) (y : Str) : PyData := .tuple [.str y, .tuple (Di ((lk y S.tp).getD []))]
def durA (r : Str × (Vc × List Int)) : PyData := .tuple [.str r.1, .tuple (Dv r.2.1), .tuple (Di r.2.2)]
def durD (S : S0) (ys zs : List Str) : PyData := .tuple [.tuple (ys.map (durF S)), .tuple (zs.map (durT S)), .tuple (S.at_.map durA), .tuple (Di S.lg), .tuple (Di S.nw)]
theorem dv_plain : ∀ v : Vc, PyData.plainAll (Dv v) = true
  | [] => by simp [PyData.plainAll]
  | c :: v => by
    show PyData.plainAll (.tuple (Di [c.1, c.2]) :: Dv v) = true
    rw [PyData.plainAll, dv_plain v, PyData.plain, plain_ints]
    rfl
theorem dp_vec {K : PySem.W.Frag} {H : Hp} {a : Addr} {v : Vc} (h : Vec K H a v) : Dp K H (.ref a) (.tuple (Dv v)) := by
  obtain ⟨ps, s1, p1⟩ := h
  exact .tup s1 (dv_all p1)
theorem durD_plain (S : S0) (ys zs : List Str) : (durD S ys zs).plain = true := by
  unfold durD
  have h1 := plain_map (durF S) (fun y => by simp [durF, PyData.plain, PyData.plainAll, plain_ints]) ys
  have h2 := plain_map (durT S) (fun y => by simp [durT, PyData.plain, PyData.plainAll, plain_ints]) zs
  have h3 := plain_map durA (fun y => by simp [durA, PyData.plain, PyData.plainAll, plain_ints, dv_plain]) S.at_
  simp only [PyData.plain, PyData.plainAll, h1, h2, h3, plain_ints]
  rfl
theorem durD_depth (S : S0) (ys zs : List Str) : (durD S ys zs).depth ≤ 60 := by
  have h1 := depth_map (durF S) (n := 4) (fun y => by
    show PyData.depthAll _ + 1 ≤ 4
    simp [PyData.depthAll, PyData.depth, Vf.depthAll_ints]) ys
  have h2 := depth_map (durT S) (n := 4) (fun y => by
    show PyData.depthAll _ + 1 ≤ 4
    simp [PyData.depthAll, PyData.depth, Vf.depthAll_ints]) zs
  have h3 := depth_map durA (n := 4) (fun y => by
    show PyData.depthAll _ + 1 ≤ 4
    have := dv_depth y.2.1
    simp only [PyData.depthAll, PyData.depth, Vf.depthAll_ints]
    omega) S.at_
  show PyData.depthAll _ + 1 ≤ 60
  simp only [PyData.depthAll, PyData.depth, Vf.depthAll_ints]
  omega
def Dur (K : PySem.W.Frag) (H : Hp) (r : Addr) (S : S0) : Prop := ∃ ys zs, ys.Perm (S.fl.map (·.1)) ∧ PyProof.Rows.sortedS ys = true ∧ zs.Perm (S.tp.map (·.1)) ∧ PyProof.Rows.sortedS zs = true ∧ Dp K H (.ref r) (durD S ys zs)
theorem Dur.same {K : PySem.W.Frag} {H H' : Hp} {r : Addr} {S : S0} (h : Dur K H r S) (s : Same H H') : Dur K H' r S := by
  obtain ⟨ys, zs, h1, h2, h3, h4, h5⟩ := h
  exact ⟨ys, zs, h1, h2, h3, h4, dp_same s h5⟩
theorem e_eqDur {K : PySem.W.Frag} {H : Hp} {Q : VK} {a b : Addr} {S : S0} (h1 : Dur K H a S) (h2 : Dur K H b S) (q : Q (.bl true) H) : rEqP K (.ref a) (.ref b) H Q := by
  obtain ⟨ys, zs, p1, q1, p2, q2, d1⟩ := h1
  obtain ⟨ys', zs', p3, q3, p4, q4, d2⟩ := h2
  have e1 := sorted_one (p3.trans p1.symm) q3 q1
  have e2 := sorted_one (p4.trans p2.symm) q4 q2
  subst e1 e2
  exact ⟨_, _, d1, d2, durD_plain .., durD_plain .., durD_depth .., by rw [eqv_self _ (durD_plain ..)]; exact q⟩
theorem same_hidN {H H2 : Hp} {D : Addr} (h : H D = none) (s : Same H H2) : Same H (hid [D] H2) := fun b o e => by
  rw [hid_at fun m => by rw [List.mem_singleton.mp m, h] at e; cases e]
  exact s _ _ e
theorem dpa_mk {K : PySem.W.Frag} {H : Hp} : ∀ {us : List V} {ds : List PyData}, us.length = ds.length → (∀ (i : Nat) (v : V) (d : PyData), us[i]? = some v → ds[i]? = some d → Dp K H v d) → DpAll K H us ds
  | [], [], _, _ => .nil
  | a :: l, b :: m, e, h => .cons (h 0 a b rfl rfl) (dpa_mk (by simpa using e) fun i x y h1 h2 => h (i + 1) x y h1 h2)
/-! what the methods promise -/
abbrev cPC (K : PySem.W.Frag) : Addr := He.ga K "PowerCut"
abbrev cFE (K : PySem.W.Frag) : Addr := He.ga K "FolderkinError"
/-- the power is cut: the count of writes is told -/
def Cut (K : PySem.W.Frag) (n : Int) (H : Hp) (E : XK) : Prop := ∀ d : Addr, H d = none → E (.ref (cPC K)) (some d) (upd H d (.xd [(("place" : Str), .int n)]))
def sp_Store__count_write (K : PySem.W.Frag) : Sp := sp1X fun x H Q E => ∃ (a : Addr) (F D : List Addr) (S : S0), x = .ref a ∧ Al D H ∧ Sto K (hid D H) F a S ∧ (S.bd ≠ some 0 → ∀ H', Fr [a] H H' → Sto K (hid D H') F a S.tick → Q .non H') ∧ (S.bd = some 0 → Cut K S.n H E)
def sp_Store_set_budget (K : PySem.W.Frag) : Sp := sp2 fun x y H Q => ∃ (a : Addr) (F D : List Addr) (S : S0) (o : Option Nat), x = .ref a ∧ y = bdV o ∧ Al D H ∧ Sto K (hid D H) F a S ∧ ∀ H', Fr [a] H H' → Sto K (hid D H') F a { S with bd := o } → Q .non H'
def sp_Store_done (K : PySem.W.Frag) : Sp := sp1 fun x H Q => ∃ (a : Addr) (F : List Addr) (S : S0), x = .ref a ∧ Sto K H F a S ∧ Q (.int S.n) H
def sp_Store_log (K : PySem.W.Frag) : Sp := sp1 fun x H Q => ∃ (a : Addr) (F : List Addr) (S : S0), x = .ref a ∧ Sto K H F a S ∧ ∀ (p : Addr) (H' : Hp), H p = none → Same H H' → H' p = some (.lst (S.lg.map V.int)) → Q (.ref p) H'
def sp_Store_new_log (K : PySem.W.Frag) : Sp := sp1 fun x H Q => ∃ (a : Addr) (F : List Addr) (S : S0), x = .ref a ∧ Sto K H F a S ∧ ∀ (p : Addr) (H' : Hp), H p = none → Same H H' → H' p = some (.lst (S.nw.map V.int)) → Q (.ref p) H'
structure STT (K : PySem.W.Frag) : Prop where
  cl : Cls K (cSto K)
  n1 : NoAttr K (cSto K) "_files"
  n2 : NoAttr K (cSto K) "_temps"
  n3 : NoAttr K (cSto K) "_attic"
  n4 : NoAttr K (cSto K) "_log"
  n5 : NoAttr K (cSto K) "_new_log"
  n6 : NoAttr K (cSto K) "_budget"
  n7 : NoAttr K (cSto K) "_done"
theorem put_same {f : Str} {v : V} : ∀ {fs : List (Str × V)}, fs.lookup f = some v → ∀ u, (putF f u fs).length = fs.length
  | (g, x) :: r, h, u => by
    show (if g = f then (g, u) :: r else (g, x) :: putF f u r).length = _
    by_cases e : g = f
    · rw [if_pos e]; rfl
    · rw [if_neg e, List.length_cons, List.length_cons, put_same (by
        have hb : (f == g) = false := by
          rw [beq_eq_false_iff_ne]
          exact fun z => e z.symm
        simpa [List.lookup, hb] using h) u]
theorem tps_upd {H : Hp} {a : Addr} {o : HO} : ∀ {w : List (Str × Addr)} {tp : List (Str × List Int)}, Tps H w tp → (∀ b ∈ w.map (·.2), b ≠ a) → Tps (upd H a o) w tp
  | _, _, .nil, _ => .nil
  | _, _, .cons h t, n => .cons ⟨h.1, by rw [upd_ne (n _ (List.mem_cons_self ..))]; exact h.2⟩ (tps_upd t fun b m => n b (List.mem_cons_of_mem _ m))
theorem fls_hid {D : List Addr} {H : Hp} {a : Addr} {o : HO} (m : a ∈ D) : hid D (upd H a o) = hid D H := hid_upd_in m
section
variable {K : PySem.W.Frag} {H : Hp} {a dx fd td ad ld nd : Addr} {S : S0} {fs : List (Str × V)} {fw tw : List (Str × Addr)} {aq : List Addr} {P : V → Prop}
theorem StoX.same' {H' : Hp} (x : StoX K H a S dx fd td ad ld nd fs fw tw aq) (s : Same H H') : StoX K H' a S dx fd td ad ld nd fs fw tw aq :=
  ⟨s _ _ x.ins, x.len, x.l1, x.l2, x.l3, x.l4, x.l5, x.l6, x.l7, x.l0, s _ _ x.f1, s _ _ x.t1, s _ _ x.a1, fls_same x.f2 (hid_same s), tps_same x.t2 s, ats_same x.a2 (hid_same s), s _ _ x.g1, s _ _ x.g2, x.nd, x.fn, x.tn⟩
theorem StoX.same {H' : Hp} (x : StoX K H a S dx fd td ad ld nd fs fw tw aq) (s : Same H H') : StoX K H' a S dx fd td ad ld nd fs fw tw aq := x.same' s
theorem StoX.ne (x : StoX K H a S dx fd td ad ld nd fs fw tw aq) : ∀ b ∈ fd :: td :: ad :: ld :: nd :: tw.map (·.2), b ≠ a := fun b m e => (List.nodup_cons.mp x.nd).1 (by rw [← e]; exact m)
theorem StoX.bud (x : StoX K H a S dx fd td ad ld nd fs fw tw aq) (o : Option Nat) :
    StoX K (upd H a (.ins (cSto K) dx (putF "_budget" (bdV o) fs))) a { S with bd := o } dx fd td ad ld nd (putF "_budget" (bdV o) fs) fw tw aq := by
  have hm : a ∈ foot a fd td ad ld nd tw := List.mem_cons_self ..
  have ne := x.ne
  refine ⟨upd_same, ?_, ?_, ?_, ?_, ?_, ?_, ?_, ?_, fun m hm2 => ?_, by rw [upd_ne (ne _ (by simp))]; exact x.f1, by rw [upd_ne (ne _ (by simp))]; exact x.t1, by rw [upd_ne (ne _ (by simp))]; exact x.a1, by rw [hid_upd_in hm]; exact x.f2, tps_upd x.t2 fun b m => ne b (by simp at m ⊢; right; right; right; right; right; exact m), by rw [hid_upd_in hm]; exact x.a2, by rw [upd_ne (ne _ (by simp))]; exact x.g1, by rw [upd_ne (ne _ (by simp))]; exact x.g2, x.nd, x.fn, x.tn⟩
  · rw [put_same x.l6]; exact x.len
  · rw [lookup_putF, if_neg (by decide)]; exact x.l1
  · rw [lookup_putF, if_neg (by decide)]; exact x.l2
  · rw [lookup_putF, if_neg (by decide)]; exact x.l3
  · rw [lookup_putF, if_neg (by decide)]; exact x.l4
  · rw [lookup_putF, if_neg (by decide)]; exact x.l5
  · rw [lookup_putF, if_pos rfl]
  · rw [lookup_putF, if_neg (by decide)]; exact x.l7
  · rw [lookup_putF, if_neg (fun e => hm2 (by rw [e]; decide))]; exact x.l0 m hm2
theorem StoX.don (x : StoX K H a S dx fd td ad ld nd fs fw tw aq) (n : Int) :
    StoX K (upd H a (.ins (cSto K) dx (putF "_done" (.int n) fs))) a { S with n := n } dx fd td ad ld nd (putF "_done" (.int n) fs) fw tw aq := by
  have hm : a ∈ foot a fd td ad ld nd tw := List.mem_cons_self ..
  have ne := x.ne
  refine ⟨upd_same, ?_, ?_, ?_, ?_, ?_, ?_, ?_, ?_, fun m hm2 => ?_, by rw [upd_ne (ne _ (by simp))]; exact x.f1, by rw [upd_ne (ne _ (by simp))]; exact x.t1, by rw [upd_ne (ne _ (by simp))]; exact x.a1, by rw [hid_upd_in hm]; exact x.f2, tps_upd x.t2 fun b m => ne b (by simp at m ⊢; right; right; right; right; right; exact m), by rw [hid_upd_in hm]; exact x.a2, by rw [upd_ne (ne _ (by simp))]; exact x.g1, by rw [upd_ne (ne _ (by simp))]; exact x.g2, x.nd, x.fn, x.tn⟩
  · rw [put_same x.l7]; exact x.len
  · rw [lookup_putF, if_neg (by decide)]; exact x.l1
  · rw [lookup_putF, if_neg (by decide)]; exact x.l2
  · rw [lookup_putF, if_neg (by decide)]; exact x.l3
  · rw [lookup_putF, if_neg (by decide)]; exact x.l4
  · rw [lookup_putF, if_neg (by decide)]; exact x.l5
  · rw [lookup_putF, if_neg (by decide)]; exact x.l6
  · rw [lookup_putF, if_pos rfl]
  · rw [lookup_putF, if_neg (fun e => hm2 (by rw [e]; decide))]; exact x.l0 m hm2
structure Sep (a fd td ad ld nd : Addr) (L : List Addr) : Prop where
  s1 : a ≠ fd ∧ a ≠ td ∧ a ≠ ad ∧ a ≠ ld ∧ a ≠ nd ∧ a ∉ L
  s2 : fd ≠ td ∧ fd ≠ ad ∧ fd ≠ ld ∧ fd ≠ nd ∧ fd ∉ L
  s3 : td ≠ ad ∧ td ≠ ld ∧ td ≠ nd ∧ td ∉ L
  s4 : ad ≠ ld ∧ ad ≠ nd ∧ ad ∉ L
  s5 : ld ≠ nd ∧ ld ∉ L
  s6 : nd ∉ L
  s7 : L.Nodup
theorem StoX.sep (x : StoX K H a S dx fd td ad ld nd fs fw tw aq) : Sep a fd td ad ld nd (tw.map (·.2)) := by
  have h := x.nd
  unfold foot at h
  rw [List.nodup_cons, List.nodup_cons, List.nodup_cons, List.nodup_cons, List.nodup_cons, List.nodup_cons] at h
  simp only [List.mem_cons, not_or] at h
  obtain ⟨h1, h2, h3, h4, h5, h6, h7⟩ := h
  exact ⟨h1, h2, h3, h4, h5, h6, h7⟩
/-- the log changed in its place -/
theorem StoX.lgp (x : StoX K H a S dx fd td ad ld nd fs fw tw aq) (ys : List Int) : StoX K (upd H ld (.lst (ys.map V.int))) a { S with lg := ys } dx fd td ad ld nd fs fw tw aq := by
  have hm : ld ∈ foot a fd td ad ld nd tw := by simp [foot]
  have p := x.sep
  exact ⟨by rw [upd_ne p.s1.2.2.2.1]; exact x.ins, x.len, x.l1, x.l2, x.l3, x.l4, x.l5, x.l6, x.l7, x.l0, by rw [upd_ne p.s2.2.2.1]; exact x.f1, by rw [upd_ne p.s3.2.1]; exact x.t1, by rw [upd_ne p.s4.1]; exact x.a1, by rw [hid_upd_in hm]; exact x.f2, tps_upd x.t2 fun b m e => p.s5.2 (by rw [← e]; exact m), by rw [hid_upd_in hm]; exact x.a2, upd_same, by rw [upd_ne (Ne.symm p.s5.1)]; exact x.g2, x.nd, x.fn, x.tn⟩
theorem StoX.nwp (x : StoX K H a S dx fd td ad ld nd fs fw tw aq) (ys : List Int) : StoX K (upd H nd (.lst (ys.map V.int))) a { S with nw := ys } dx fd td ad ld nd fs fw tw aq := by
  have hm : nd ∈ foot a fd td ad ld nd tw := by simp [foot]
  have p := x.sep
  exact ⟨by rw [upd_ne p.s1.2.2.2.2.1]; exact x.ins, x.len, x.l1, x.l2, x.l3, x.l4, x.l5, x.l6, x.l7, x.l0, by rw [upd_ne p.s2.2.2.2.1]; exact x.f1, by rw [upd_ne p.s3.2.2.1]; exact x.t1, by rw [upd_ne p.s4.2.1]; exact x.a1, by rw [hid_upd_in hm]; exact x.f2, tps_upd x.t2 fun b m e => p.s6 (by rw [← e]; exact m), by rw [hid_upd_in hm]; exact x.a2, by rw [upd_ne p.s5.1]; exact x.g1, upd_same, x.nd, x.fn, x.tn⟩
theorem hid_sw {F F' : List Addr} {H H2 : Hp} (h : ∀ b ∈ F', b ∈ F ∨ H b = none) (f : Fr F H H2) : Same (hid F H) (hid F' H2) := fun b o e => by
  obtain ⟨n, e⟩ := hid_some e
  have n2 : b ∉ F' := fun m => by
    rcases h b m with z | z
    · exact n z
    · rw [z] at e; cases e
  rw [hid_at n2]
  exact f b o n e
theorem StoX.free (x : StoX K H a S dx fd td ad ld nd fs fw tw aq) {p : Addr} (hp : H p = none) : p ≠ a ∧ p ≠ fd ∧ p ≠ td ∧ p ≠ ad ∧ p ≠ ld ∧ p ≠ nd ∧ p ∉ tw.map (·.2) := by
  have z : ∀ b o, H b = some o → p ≠ b := fun b o e q => by rw [← q, hp] at e; cases e
  refine ⟨z _ _ x.ins, z _ _ x.f1, z _ _ x.t1, z _ _ x.a1, z _ _ x.g1, z _ _ x.g2, fun m => ?_⟩
  obtain ⟨xs, e⟩ := tps_mem x.t2 p m
  rw [hp] at e
  cases e
/-- a new log that is empty -/
theorem StoX.nwn (x : StoX K H a S dx fd td ad ld nd fs fw tw aq) {p : Addr} (hp : H p = none) : StoX K (upd (upd H p (.lst [])) a (.ins (cSto K) dx (putF "_new_log" (.ref p) fs))) a { S with nw := [] } dx fd td ad ld p (putF "_new_log" (.ref p) fs) fw tw aq := by
  have q := x.sep
  have w := x.free hp
  have hF : ∀ b ∈ foot a fd td ad ld p tw, b ∈ foot a fd td ad ld nd tw ∨ H b = none := fun b m => by
    simp only [foot, List.mem_cons] at m ⊢
    rcases m with m | m | m | m | m | m | m
    · exact .inl (.inl m)
    · exact .inl (.inr (.inl m))
    · exact .inl (.inr (.inr (.inl m)))
    · exact .inl (.inr (.inr (.inr (.inl m))))
    · exact .inl (.inr (.inr (.inr (.inr (.inl m)))))
    · exact .inr (by rw [m]; exact hp)
    · exact .inl (.inr (.inr (.inr (.inr (.inr (.inr m))))))
  have f : Fr (foot a fd td ad ld nd tw) H (upd (upd H p (.lst [])) a (.ins (cSto K) dx (putF "_new_log" (.ref p) fs))) := ((Fr.refl _ _).mut hp).put (by simp [foot])
  have sw := hid_sw hF f
  have at2 : ∀ b o, H b = some o → b ≠ a → upd (upd H p (.lst [])) a (.ins (cSto K) dx (putF "_new_log" (.ref p) fs)) b = some o := fun b o e n => by
    rw [upd_ne n, upd_ne (fun z => by rw [z, hp] at e; cases e)]
    exact e
  have ne := x.ne
  refine ⟨upd_same, ?_, ?_, ?_, ?_, ?_, ?_, ?_, ?_, fun m hm2 => ?_, at2 _ _ x.f1 (ne _ (by simp)), at2 _ _ x.t1 (ne _ (by simp)), at2 _ _ x.a1 (ne _ (by simp)), fls_same x.f2 sw, ?_, ats_same x.a2 sw, at2 _ _ x.g1 (ne _ (by simp)), ?_, ?_, x.fn, x.tn⟩
  · rw [put_same x.l5]; exact x.len
  · rw [lookup_putF, if_neg (by decide)]; exact x.l1
  · rw [lookup_putF, if_neg (by decide)]; exact x.l2
  · rw [lookup_putF, if_neg (by decide)]; exact x.l3
  · rw [lookup_putF, if_neg (by decide)]; exact x.l4
  · rw [lookup_putF, if_pos rfl]
  · rw [lookup_putF, if_neg (by decide)]; exact x.l6
  · rw [lookup_putF, if_neg (by decide)]; exact x.l7
  · rw [lookup_putF, if_neg (fun e => hm2 (by rw [e]; decide))]; exact x.l0 m hm2
  · exact tps_upd (tps_same x.t2 (same_new hp)) fun b m => ne b (by simp at m ⊢; right; right; right; right; right; exact m)
  · rw [upd_ne w.1]; exact upd_same
  · unfold foot
    rw [List.nodup_cons, List.nodup_cons, List.nodup_cons, List.nodup_cons, List.nodup_cons, List.nodup_cons]
    simp only [List.mem_cons, not_or]
    exact ⟨⟨q.s1.1, q.s1.2.1, q.s1.2.2.1, q.s1.2.2.2.1, Ne.symm w.1, q.s1.2.2.2.2.2⟩, ⟨q.s2.1, q.s2.2.1, q.s2.2.2.1, Ne.symm w.2.1, q.s2.2.2.2.2⟩, ⟨q.s3.1, q.s3.2.1, Ne.symm w.2.2.1, q.s3.2.2.2⟩, ⟨q.s4.1, Ne.symm w.2.2.2.1, q.s4.2.2⟩, ⟨Ne.symm w.2.2.2.2.1, q.s5.2⟩, w.2.2.2.2.2.2, q.s7⟩
/-- the logs switched -/
theorem StoX.swl (x : StoX K H a S dx fd td ad ld nd fs fw tw aq) {p : Addr} (hp : H p = none) : StoX K (upd (upd H p (.lst [])) a (.ins (cSto K) dx (putF "_new_log" (.ref p) (putF "_log" (.ref nd) fs)))) a { S with lg := S.nw, nw := [] } dx fd td ad nd p (putF "_new_log" (.ref p) (putF "_log" (.ref nd) fs)) fw tw aq := by
  have q := x.sep
  have w := x.free hp
  have hF : ∀ b ∈ foot a fd td ad nd p tw, b ∈ foot a fd td ad ld nd tw ∨ H b = none := fun b m => by
    simp only [foot, List.mem_cons] at m ⊢
    rcases m with m | m | m | m | m | m | m
    · exact .inl (.inl m)
    · exact .inl (.inr (.inl m))
    · exact .inl (.inr (.inr (.inl m)))
    · exact .inl (.inr (.inr (.inr (.inl m))))
    · exact .inl (.inr (.inr (.inr (.inr (.inr (.inl m))))))
    · exact .inr (by rw [m]; exact hp)
    · exact .inl (.inr (.inr (.inr (.inr (.inr (.inr m))))))
  have f : Fr (foot a fd td ad ld nd tw) H (upd (upd H p (.lst [])) a (.ins (cSto K) dx (putF "_new_log" (.ref p) (putF "_log" (.ref nd) fs)))) := ((Fr.refl _ _).mut hp).put (by simp [foot])
  have sw := hid_sw hF f
  have at2 : ∀ b o, H b = some o → b ≠ a → upd (upd H p (.lst [])) a (.ins (cSto K) dx (putF "_new_log" (.ref p) (putF "_log" (.ref nd) fs))) b = some o := fun b o e n => by
    rw [upd_ne n, upd_ne (fun z => by rw [z, hp] at e; cases e)]
    exact e
  have ne := x.ne
  refine ⟨upd_same, ?_, ?_, ?_, ?_, ?_, ?_, ?_, ?_, fun m hm2 => ?_, at2 _ _ x.f1 (ne _ (by simp)), at2 _ _ x.t1 (ne _ (by simp)), at2 _ _ x.a1 (ne _ (by simp)), fls_same x.f2 sw, ?_, ats_same x.a2 sw, at2 _ _ x.g2 (ne _ (by simp)), ?_, ?_, x.fn, x.tn⟩
  · rw [put_same (v := .ref nd) (by rw [lookup_putF, if_neg (by decide)]; exact x.l5), put_same x.l4]; exact x.len
  · rw [lookup_putF, if_neg (by decide), lookup_putF, if_neg (by decide)]; exact x.l1
  · rw [lookup_putF, if_neg (by decide), lookup_putF, if_neg (by decide)]; exact x.l2
  · rw [lookup_putF, if_neg (by decide), lookup_putF, if_neg (by decide)]; exact x.l3
  · rw [lookup_putF, if_neg (by decide), lookup_putF, if_pos rfl]
  · rw [lookup_putF, if_pos rfl]
  · rw [lookup_putF, if_neg (by decide), lookup_putF, if_neg (by decide)]; exact x.l6
  · rw [lookup_putF, if_neg (by decide), lookup_putF, if_neg (by decide)]; exact x.l7
  · rw [lookup_putF, if_neg (fun e => hm2 (by rw [e]; decide)), lookup_putF, if_neg (fun e => hm2 (by rw [e]; decide))]; exact x.l0 m hm2
  · exact tps_upd (tps_same x.t2 (same_new hp)) fun b m => ne b (by simp at m ⊢; right; right; right; right; right; exact m)
  · rw [upd_ne w.1]; exact upd_same
  · unfold foot
    rw [List.nodup_cons, List.nodup_cons, List.nodup_cons, List.nodup_cons, List.nodup_cons, List.nodup_cons]
    simp only [List.mem_cons, not_or]
    exact ⟨⟨q.s1.1, q.s1.2.1, q.s1.2.2.1, q.s1.2.2.2.2.1, Ne.symm w.1, q.s1.2.2.2.2.2⟩, ⟨q.s2.1, q.s2.2.1, q.s2.2.2.2.1, Ne.symm w.2.1, q.s2.2.2.2.2⟩, ⟨q.s3.1, q.s3.2.2.1, Ne.symm w.2.2.1, q.s3.2.2.2⟩, ⟨q.s4.2.1, Ne.symm w.2.2.2.1, q.s4.2.2⟩, ⟨Ne.symm w.2.2.2.2.2.1, q.s6⟩, w.2.2.2.2.2.2, q.s7⟩
/-- the attic changed in its place -/
theorem StoX.att (x : StoX K H a S dx fd td ad ld nd fs fw tw aq) {aq' : List Addr} {l' : List (Str × (Vc × List Int))} (h : Ats K (hid (foot a fd td ad ld nd tw) H) aq' l') : StoX K (upd H ad (.lst (aq'.map V.ref))) a { S with at_ := l' } dx fd td ad ld nd fs fw tw aq' := by
  have hm : ad ∈ foot a fd td ad ld nd tw := by simp [foot]
  have p := x.sep
  exact ⟨by rw [upd_ne p.s1.2.2.1]; exact x.ins, x.len, x.l1, x.l2, x.l3, x.l4, x.l5, x.l6, x.l7, x.l0, by rw [upd_ne p.s2.2.1]; exact x.f1, by rw [upd_ne p.s3.1]; exact x.t1, upd_same, by rw [hid_upd_in hm]; exact x.f2, tps_upd x.t2 fun b m e => p.s4.2.2 (by rw [← e]; exact m), by rw [hid_upd_in hm]; exact h, by rw [upd_ne (Ne.symm p.s4.1)]; exact x.g1, by rw [upd_ne (Ne.symm p.s4.2.1)]; exact x.g2, x.nd, x.fn, x.tn⟩
/-- the files changed -/
theorem StoX.fil (x : StoX K H a S dx fd td ad ld nd fs fw tw aq) {w2 : List (Str × Addr)} {fl2 : List (Str × (List Int × Int))} (h : Fls (hid (foot a fd td ad ld nd tw) H) w2 fl2) (hn : (fl2.map (·.1)).Nodup) : StoX K (upd H fd (.dK (dct w2))) a { S with fl := fl2 } dx fd td ad ld nd fs w2 tw aq := by
  have hm : fd ∈ foot a fd td ad ld nd tw := by simp [foot]
  have p := x.sep
  exact ⟨by rw [upd_ne p.s1.1]; exact x.ins, x.len, x.l1, x.l2, x.l3, x.l4, x.l5, x.l6, x.l7, x.l0, upd_same, by rw [upd_ne (Ne.symm p.s2.1)]; exact x.t1, by rw [upd_ne (Ne.symm p.s2.2.1)]; exact x.a1, by rw [hid_upd_in hm]; exact h, tps_upd x.t2 fun b m e => p.s2.2.2.2.2 (by rw [← e]; exact m), by rw [hid_upd_in hm]; exact x.a2, by rw [upd_ne (Ne.symm p.s2.2.2.1)]; exact x.g1, by rw [upd_ne (Ne.symm p.s2.2.2.2.1)]; exact x.g2, x.nd, hn, x.tn⟩
/-- the temporary files changed: others' places stay, the new ones are one's own or new -/
theorem StoX.tmp {H2 : Hp} (x : StoX K H a S dx fd td ad ld nd fs fw tw aq) {tw2 : List (Str × Addr)} {tp2 : List (Str × List Int)} (f : Fr (foot a fd td ad ld nd tw) H H2) (hF : ∀ b ∈ foot a fd td ad ld nd tw2, b ∈ foot a fd td ad ld nd tw ∨ H b = none) (hnd : (foot a fd td ad ld nd tw2).Nodup)
    (k : ∀ b ∈ [a, fd, ad, ld, nd], ∀ o, H b = some o → H2 b = some o) (e : H2 td = some (.dK (dct tw2))) (ht : Tps H2 tw2 tp2) (hn : (tp2.map (·.1)).Nodup) : StoX K H2 a { S with tp := tp2 } dx fd td ad ld nd fs fw tw2 aq :=
  ⟨k a (by simp) _ x.ins, x.len, x.l1, x.l2, x.l3, x.l4, x.l5, x.l6, x.l7, x.l0, k fd (by simp) _ x.f1, e, k ad (by simp) _ x.a1, fls_same x.f2 (hid_sw hF f), ht, ats_same x.a2 (hid_sw hF f), k ld (by simp) _ x.g1, k nd (by simp) _ x.g2, hnd, x.fn, hn⟩
theorem s_files (t : STT K) (x : StoX K H a S dx fd td ad ld nd fs fw tw aq) (q : P (.ref fd)) : ∃ a' C dx fs v, V.ref a = .ref a' ∧ H a' = some (.ins C dx fs) ∧ Cls K C ∧ NoAttr K C "_files" ∧ fs.lookup ("_files" : Str) = some v ∧ P v := ⟨a, _, dx, fs, _, rfl, x.ins, t.cl, t.n1, x.l1, q⟩
theorem s_temps (t : STT K) (x : StoX K H a S dx fd td ad ld nd fs fw tw aq) (q : P (.ref td)) : ∃ a' C dx fs v, V.ref a = .ref a' ∧ H a' = some (.ins C dx fs) ∧ Cls K C ∧ NoAttr K C "_temps" ∧ fs.lookup ("_temps" : Str) = some v ∧ P v := ⟨a, _, dx, fs, _, rfl, x.ins, t.cl, t.n2, x.l2, q⟩
theorem s_attic (t : STT K) (x : StoX K H a S dx fd td ad ld nd fs fw tw aq) (q : P (.ref ad)) : ∃ a' C dx fs v, V.ref a = .ref a' ∧ H a' = some (.ins C dx fs) ∧ Cls K C ∧ NoAttr K C "_attic" ∧ fs.lookup ("_attic" : Str) = some v ∧ P v := ⟨a, _, dx, fs, _, rfl, x.ins, t.cl, t.n3, x.l3, q⟩
theorem s_log (t : STT K) (x : StoX K H a S dx fd td ad ld nd fs fw tw aq) (q : P (.ref ld)) : ∃ a' C dx fs v, V.ref a = .ref a' ∧ H a' = some (.ins C dx fs) ∧ Cls K C ∧ NoAttr K C "_log" ∧ fs.lookup ("_log" : Str) = some v ∧ P v := ⟨a, _, dx, fs, _, rfl, x.ins, t.cl, t.n4, x.l4, q⟩
theorem s_nlog (t : STT K) (x : StoX K H a S dx fd td ad ld nd fs fw tw aq) (q : P (.ref nd)) : ∃ a' C dx fs v, V.ref a = .ref a' ∧ H a' = some (.ins C dx fs) ∧ Cls K C ∧ NoAttr K C "_new_log" ∧ fs.lookup ("_new_log" : Str) = some v ∧ P v := ⟨a, _, dx, fs, _, rfl, x.ins, t.cl, t.n5, x.l5, q⟩
theorem s_done (t : STT K) (x : StoX K H a S dx fd td ad ld nd fs fw tw aq) (q : P (.int S.n)) : ∃ a' C dx fs v, V.ref a = .ref a' ∧ H a' = some (.ins C dx fs) ∧ Cls K C ∧ NoAttr K C "_done" ∧ fs.lookup ("_done" : Str) = some v ∧ P v := ⟨a, _, dx, fs, _, rfl, x.ins, t.cl, t.n7, x.l7, q⟩
theorem s_meth {m : Str} {R : Prop} {F : List Addr} (x : Sto K H F a S) (hm : m ∉ (["_files", "_temps", "_attic", "_log", "_new_log", "_budget", "_done"] : List Str)) (q : R) : ∃ a' dx fs, V.ref a = .ref a' ∧ H a' = some (.ins (cSto K) dx fs) ∧ fs.lookup m = none ∧ R := by
  obtain ⟨dx, fd, td, ad, ld, nd, fs, fw, tw, aq, rfl, x⟩ := x
  exact ⟨a, dx, fs, rfl, x.ins, x.l0 m hm, q⟩
theorem s_budget (t : STT K) (x : StoX K H a S dx fd td ad ld nd fs fw tw aq) (q : P (bdV S.bd)) : ∃ a' C dx fs v, V.ref a = .ref a' ∧ H a' = some (.ins C dx fs) ∧ Cls K C ∧ NoAttr K C "_budget" ∧ fs.lookup ("_budget" : Str) = some v ∧ P v := ⟨a, _, dx, fs, _, rfl, x.ins, t.cl, t.n6, x.l6, q⟩
end
def S0.lgs (S : S0) (bs : List Int) (j : Nat) : S0 := { S with lg := S.lg ++ bs.take j, n := S.n + (j : Nat), bd := S.bd.map fun k => k - j }
def S0.nws (S : S0) (bs : List Int) (j : Nat) : S0 := { S with nw := S.nw ++ bs.take j, n := S.n + (j : Nat), bd := S.bd.map fun k => k - j }
def spApp (K : PySem.W.Frag) (st : S0 → List Int → Nat → S0) (lg : S0 → List Int) : Sp := fun vs H Q E => ∃ x y, vs = [x, y] ∧ ∃ (a d : Addr) (F D : List Addr) (S : S0) (bs : List Int), x = .ref a ∧ y = .ref d ∧ Al D H ∧ Sto K (hid D H) F a S ∧ H d = some (.lst (bs.map V.int)) ∧ d ∉ F ∧ bs.length ≤ 1000 ∧ (lg S).length ≤ 100000 ∧
  ((∀ k, S.bd = some k → bs.length ≤ k) → ∀ H', Fr F H H' → Sto K (hid D H') F a (st S bs bs.length) → Q .non H') ∧
  (∀ k, S.bd = some k → k < bs.length → ∀ H', Fr F H H' → Sto K (hid D H') F a (st S bs k) → Cut K (S.n + (k : Nat)) H' E)
def sp_Store_log_append (K : PySem.W.Frag) : Sp := spApp K S0.lgs S0.lg
def sp_Store_new_log_append (K : PySem.W.Frag) : Sp := spApp K S0.nws S0.nw
theorem lgs_zero (S : S0) (bs : List Int) : S.lgs bs 0 = S := by
  obtain ⟨a1, a2, a3, a4, a5, a6, a7⟩ := S
  unfold S0.lgs
  cases a7 <;> simp
theorem lgs_succ (S : S0) {bs : List Int} {i : Nat} {b : Int} (h : bs[i]? = some b) : { (S.lgs bs i).tick with lg := (S.lgs bs i).lg ++ [b] } = S.lgs bs (i + 1) := by
  obtain ⟨a1, a2, a3, a4, a5, a6, a7⟩ := S
  unfold S0.lgs S0.tick
  have e1 : bs.take (i + 1) = bs.take i ++ [b] := by rw [List.take_add_one, h]; rfl
  have e2 : ∀ n : Int, n + (i : Nat) + 1 = n + ((i + 1 : Nat) : Int) := fun n => by omega
  cases a7 with
  | none => simp [e1, e2]
  | some k => simp [e1, e2, Nat.sub_sub]
theorem nws_zero (S : S0) (bs : List Int) : S.nws bs 0 = S := by
  obtain ⟨a1, a2, a3, a4, a5, a6, a7⟩ := S
  unfold S0.nws
  cases a7 <;> simp
theorem nws_succ (S : S0) {bs : List Int} {i : Nat} {b : Int} (h : bs[i]? = some b) : { (S.nws bs i).tick with nw := (S.nws bs i).nw ++ [b] } = S.nws bs (i + 1) := by
  obtain ⟨a1, a2, a3, a4, a5, a6, a7⟩ := S
  unfold S0.nws S0.tick
  have e1 : bs.take (i + 1) = bs.take i ++ [b] := by rw [List.take_add_one, h]; rfl
  have e2 : ∀ n : Int, n + (i : Nat) + 1 = n + ((i + 1 : Nat) : Int) := fun n => by omega
  cases a7 with
  | none => simp [e1, e2]
  | some k => simp [e1, e2, Nat.sub_sub]
def sp_Store_drop_new_log (K : PySem.W.Frag) : Sp := sp1X fun x H Q E => ∃ (a : Addr) (F D : List Addr) (S : S0), x = .ref a ∧ Al D H ∧ Sto K (hid D H) F a S ∧
  (S.bd ≠ some 0 → ∀ F' H', Fr F H H' → (∀ b ∈ F', b ∈ F ∨ H b = none) → Sto K (hid D H') F' a { S.tick with nw := [] } → Q .non H') ∧ (S.bd = some 0 → Cut K S.n H E)
theorem upd3 {H : Hp} {l t : Addr} {x y z : HO} (n : l ≠ t) : upd (upd (upd H l x) t y) l z = upd (upd H t y) l z := by
  funext b
  by_cases e : b = l
  · rw [e, upd_same, upd_same]
  · rw [upd_ne e, upd_ne e]
    by_cases e2 : b = t
    · rw [e2, upd_same, upd_same]
    · rw [upd_ne e2, upd_ne e2, upd_ne e]
def sp_Store_switch_log (K : PySem.W.Frag) : Sp := sp1X fun x H Q E => ∃ (a : Addr) (F D : List Addr) (S : S0), x = .ref a ∧ Al D H ∧ Sto K (hid D H) F a S ∧
  (S.bd ≠ some 0 → ∀ F' H', Fr F H H' → (∀ b ∈ F', b ∈ F ∨ H b = none) → Sto K (hid D H') F' a { S.tick with lg := S.nw, nw := [] } → Q .non H') ∧ (S.bd = some 0 → Cut K S.n H E)
theorem fr_none {a p : Addr} {H H' : Hp} {o : HO} (f : Fr [a] H H') (ha : H' a = some o) (hp : H' p = none) : H p = none := by
  cases e : H p with
  | none => rfl
  | some u =>
    have n : p ∉ [a] := fun m => by rw [List.mem_singleton.mp m, ha] at hp; cases hp
    rw [f p u n e] at hp
    cases hp
theorem vec_fr {K : PySem.W.Frag} {D : List Addr} {H H1 : Hp} {a : Addr} {v : Vc} (h : Vec K H a v) (f : Fr D H H1) (n : ∀ d ∈ D, NT H d) : Vec K H1 a v := ((vec_hid h n).same (hid_fr f)).same hid_sub
theorem sqT_fr {K : PySem.W.Frag} {D : List Addr} {H H1 : Hp} {a : Addr} {v : List V} (h : SqT K H a v) (f : Fr D H H1) (n : ∀ d ∈ D, NT H d) : SqT K H1 a v := same_tup hid_sub (same_tup (hid_fr f) (sqT_hid h n))
def NL (H : Hp) (d : Addr) : Prop := (∀ xs, H d ≠ some (.lst xs)) ∧ ∀ c xs, H d ≠ some (.frz c (.lst xs))
theorem nl_ins {H : Hp} {d C dx : Addr} {fs : List (Str × V)} (h : H d = some (.ins C dx fs)) : NL H d := ⟨fun _ z => (by rw [h] at z; cases z), fun _ _ z => (by rw [h] at z; cases z)⟩
theorem seq_fr {K : PySem.W.Frag} {D : List Addr} {H H1 : Hp} {a : Addr} {v : List V} (h : SqL K H a v) (f : Fr D H H1) (n : ∀ d ∈ D, NL H d) : SqL K H1 a v := by
  rcases h with (h | ⟨c9, h⟩) | h
  · exact .inl (.inl (f _ _ (fun m => (n a m).1 _ h) h))
  · exact .inl (.inr ⟨c9, f _ _ (fun m => (n a m).2 _ _ h) h⟩)
  · exact .inr h
theorem paired_erase {α β : Type} {F : α → β → Prop} : ∀ {l : List α} {m : List β} (i : Nat), Paired F l m → Paired F (l.eraseIdx i) (m.eraseIdx i)
  | _, _, _, .nil => .nil
  | _, _, 0, .cons _ t => t
  | _, _, i + 1, .cons a t => .cons a (paired_erase i t)
theorem seq_nat {i n : Nat} (h : i < n) : PySem.seqIndex? (i : Int) n = some i := by
  rw [PySem.seqIndex_of (Int.natCast_nonneg i) (by omega), Int.toNat_natCast]
theorem erase_map {α β : Type} (f : α → β) : ∀ (l : List α) (i : Nat), (l.map f).eraseIdx i = (l.eraseIdx i).map f
  | [], _ => rfl
  | a :: l, 0 => rfl
  | a :: l, i + 1 => by
    show f a :: (l.map f).eraseIdx i = _
    rw [erase_map f l i]; rfl
def sp_Store_attic_drop (K : PySem.W.Frag) : Sp := fun vs H Q E => ∃ x y, vs = [x, y] ∧ ∃ (a : Addr) (F D : List Addr) (S : S0) (i : Nat), x = .ref a ∧ y = .int (i : Nat) ∧ Al D H ∧ Sto K (hid D H) F a S ∧ S.at_.length ≤ 1000 ∧ i < S.at_.length ∧
  (S.bd ≠ some 0 → ∀ H', Fr F H H' → Sto K (hid D H') F a { S.tick with at_ := S.at_.eraseIdx i } → Q .non H') ∧ (S.bd = some 0 → Cut K S.n H E)
def sp_Store_attic_put (K : PySem.W.Frag) : Sp := fun vs H Q E => ∃ x nm v c, vs = [x, nm, v, c] ∧ ∃ (a w l : Addr) (F D : List Addr) (S : S0) (z : Str) (vc : Vc) (bs : List Int), x = .ref a ∧ nm = .str z ∧ v = .ref w ∧ c = .ref l ∧ Al D H ∧ Sto K (hid D H) F a S ∧ Vec K H w vc ∧ SqL K H l (bs.map V.int) ∧ S.at_.length ≤ 1000 ∧
  (S.bd ≠ some 0 → ∀ H', Fr F H H' → Sto K (hid D H') F a { S.tick with at_ := S.at_ ++ [(z, (vc, bs))] } → Q .non H') ∧ (S.bd = some 0 → Cut K S.n H E)
/-! a dict of names, one put -/
def fput {β : Type} (nm : Str) (r : β) (l : List (Str × β)) : List (Str × β) := if nm ∈ l.map (·.1) then l.map (fun y => if y.1 = nm then (nm, r) else y) else l ++ [(nm, r)]
theorem prd_fst {β : Type} {R : Addr → β → Prop} : ∀ {w : List (Str × Addr)} {fl : List (Str × β)}, Paired (fun x r => x.1 = r.1 ∧ R x.2 r.2) w fl → w.map (·.1) = fl.map (·.1)
  | _, _, .nil => rfl
  | _, _, .cons h t => by rw [List.map_cons, List.map_cons, prd_fst t, h.1]
theorem prd_mapput {β : Type} {R : Addr → β → Prop} {nm : Str} {t : Addr} {x : β} (ht : R t x) : ∀ {w : List (Str × Addr)} {fl : List (Str × β)}, Paired (fun x r => x.1 = r.1 ∧ R x.2 r.2) w fl →
    Paired (fun x r => x.1 = r.1 ∧ R x.2 r.2) (w.map fun y => if y.1 = nm then (nm, t) else y) (fl.map fun y => if y.1 = nm then (nm, x) else y)
  | _, _, .nil => .nil
  | a :: w, b :: fl, .cons h r => by
    rw [List.map_cons, List.map_cons]
    refine .cons ?_ (prd_mapput ht r)
    by_cases e : b.1 = nm
    · rw [if_pos e, if_pos (h.1.trans e)]
      exact ⟨rfl, ht⟩
    · rw [if_neg e, if_neg fun z => e (h.1.symm.trans z)]
      exact h
theorem put_dct {β : Type} {R : Addr → β → Prop} {nm : Str} {t : Addr} {x : β} {w : List (Str × Addr)} {fl : List (Str × β)} (q : Paired (fun x r => x.1 = r.1 ∧ R x.2 r.2) w fl) (ht : R t x) :
    putK (dct w) (Sum.inr nm) (.ref t) = dct (fput nm t w) ∧ Paired (fun x r => x.1 = r.1 ∧ R x.2 r.2) (fput nm t w) (fput nm x fl) := by
  have hw := prd_fst q
  by_cases m : nm ∈ w.map (·.1)
  · unfold fput
    rw [if_pos m, if_pos (hw ▸ m)]
    refine ⟨?_, prd_mapput ht q⟩
    unfold putK
    have ha : ((dct w).any fun kv => decide (kv.1 = Sum.inr nm)) = true := by
      obtain ⟨y, hy, e⟩ := List.mem_map.mp m
      refine List.any_eq_true.mpr ⟨(Sum.inr y.1, .ref y.2), List.mem_map.mpr ⟨y, hy, rfl⟩, ?_⟩
      exact decide_eq_true (congrArg Sum.inr e)
    rw [if_pos ha]
    unfold dct
    rw [List.map_map, List.map_map]
    refine List.map_congr_left fun y _ => ?_
    show (if (Sum.inr y.1 : Key) = Sum.inr nm then ((Sum.inr y.1 : Key), V.ref t) else (Sum.inr y.1, .ref y.2)) = (fun x => (Sum.inr x.1, V.ref x.2)) (if y.1 = nm then (nm, t) else y)
    by_cases e : y.1 = nm
    · rw [if_pos (congrArg Sum.inr e), if_pos e, e]
    · rw [if_neg fun z => e (Sum.inr.inj z), if_neg e]
  · unfold fput
    rw [if_neg m, if_neg (hw ▸ m)]
    have hv : valV (dct w) (Sum.inr nm) = none := by
      rcases val_dct (R := R) nm q with ⟨h1, _⟩ | ⟨q2, r, _, _, _, h4⟩
      · exact h1
      · exact absurd (List.mem_map.mpr ⟨_, h4, rfl⟩) m
    refine ⟨?_, Paired.snoc q ⟨rfl, ht⟩⟩
    rw [putK_new _ hv]
    unfold dct
    rw [List.map_append]
    rfl
theorem fput_nodup {β : Type} {nm : Str} {x : β} {fl : List (Str × β)} (hn : (fl.map (·.1)).Nodup) : ((fput nm x fl).map (·.1)).Nodup := by
  unfold fput
  by_cases m : nm ∈ fl.map (·.1)
  · rw [if_pos m, List.map_map]
    have : (fl.map ((·.1) ∘ fun y => if y.1 = nm then (nm, x) else y)) = fl.map (·.1) := List.map_congr_left fun y _ => by
      show (if y.1 = nm then (nm, x) else y).1 = y.1
      by_cases e : y.1 = nm
      · rw [if_pos e]; exact e.symm
      · rw [if_neg e]
    rw [this]
    exact hn
  · rw [if_neg m, List.map_append, List.nodup_append]
    refine ⟨hn, by simp, fun y my z mz => ?_⟩
    rw [List.mem_singleton.mp mz]
    intro e
    have e : y = nm := e
    rw [e] at my
    exact m my
def sp_Store_write (K : PySem.W.Frag) : Sp := fun vs H Q E => ∃ x nm c t, vs = [x, nm, c, t] ∧ ∃ (a l : Addr) (F D : List Addr) (S : S0) (z : Str) (bs : List Int) (tm : Int), x = .ref a ∧ nm = .str z ∧ c = .ref l ∧ t = .int tm ∧ Al D H ∧ Sto K (hid D H) F a S ∧ SqL K H l (bs.map V.int) ∧ S.fl.length ≤ 100 ∧
  (S.bd ≠ some 0 → ∀ H', Fr F H H' → Sto K (hid D H') F a { S.tick with fl := fput z (bs, tm) S.fl } → Q .non H') ∧ (S.bd = some 0 → Cut K S.n H E)
def fdel {β : Type} (nm : Str) (l : List (Str × β)) : List (Str × β) := l.filter fun y => decide (y.1 ≠ nm)
theorem del_dct {β : Type} {R : Addr → β → Prop} {nm : Str} : ∀ {w : List (Str × Addr)} {fl : List (Str × β)}, Paired (fun x r => x.1 = r.1 ∧ R x.2 r.2) w fl →
    dropK (dct w) (Sum.inr nm) = dct (fdel nm w) ∧ Paired (fun x r => x.1 = r.1 ∧ R x.2 r.2) (fdel nm w) (fdel nm fl)
  | _, _, .nil => ⟨rfl, .nil⟩
  | x :: w, r :: fl, .cons h t => by
    obtain ⟨h1, h2⟩ := del_dct (nm := nm) t
    unfold dropK dct at h1 ⊢
    unfold fdel at h1 h2 ⊢
    by_cases e : x.1 = nm
    · have e2 : r.1 = nm := h.1.symm.trans e
      rw [List.map_cons, List.filter_cons_of_neg (by simp [e]), List.filter_cons_of_neg (by simp [e]), List.filter_cons_of_neg (by simp [e2])]
      exact ⟨h1, h2⟩
    · have e2 : ¬ r.1 = nm := fun z => e (h.1.trans z)
      rw [List.map_cons, List.filter_cons_of_pos (by simp [e]), List.filter_cons_of_pos (by simp [e]), List.filter_cons_of_pos (by simp [e2]), List.map_cons, h1]
      exact ⟨rfl, .cons h h2⟩
theorem fdel_nodup {β : Type} {nm : Str} {fl : List (Str × β)} (hn : (fl.map (·.1)).Nodup) : ((fdel nm fl).map (·.1)).Nodup := hn.sublist (List.Sublist.map _ List.filter_sublist)
theorem fdel_none {β : Type} {nm : Str} : ∀ {fl : List (Str × β)}, lk nm fl = none → fdel nm fl = fl
  | [], _ => rfl
  | x :: l, h => by
    have h2 : (if x.1 = nm then some x.2 else lk nm l) = none := h
    by_cases e : x.1 = nm
    · rw [if_pos e] at h2; cases h2
    · rw [if_neg e] at h2
      unfold fdel
      rw [List.filter_cons_of_pos (by simp [e])]
      exact congrArg (x :: ·) (fdel_none h2)
def sp_Store_remove (K : PySem.W.Frag) : Sp := fun vs H Q E => ∃ x nm, vs = [x, nm] ∧ ∃ (a : Addr) (F D : List Addr) (S : S0) (z : Str), x = .ref a ∧ nm = .str z ∧ Al D H ∧ Sto K (hid D H) F a S ∧
  (S.bd ≠ some 0 → ∀ H', Fr F H H' → Sto K (hid D H') F a { S.tick with fl := fdel z S.fl } → Q .non H') ∧ (S.bd = some 0 → Cut K S.n H E)
def S0.ren (S : S0) (old new : Str) : List (Str × (List Int × Int)) := match lk old S.fl with
  | none => S.fl
  | some r => fput new r (fdel old S.fl)
theorem e_tDPop1 {td ty : TE} {σ : L2.St} {H : Hp} {Q : VK} (q : td σ H fun x H1 => ∃ a, x = .ref a ∧ IsD H1 a ∧ ty σ H1 fun y H2 => ∃ kvs k v, H2 a = some (.dK kvs) ∧ y = kV k ∧ valV kvs k = some v ∧ Q v (upd H2 a (.dK (dropK kvs k)))) : tDPop1 td ty σ H Q := q
theorem e_tDPop2 {td ty tx : TE} {σ : L2.St} {H : Hp} {Q : VK} (q : td σ H fun x H1 => ∃ a, x = .ref a ∧ IsD H1 a ∧ ty σ H1 fun y H2 => tx σ H2 fun z H3 => ∃ kvs k, H3 a = some (.dK kvs) ∧ y = kV k ∧
  (∀ v, valV kvs k = some v → Q v (upd H3 a (.dK (dropK kvs k)))) ∧ (valV kvs k = none → Q z H3)) : tDPop2 td ty tx σ H Q := q
def sp_Store_rename (K : PySem.W.Frag) : Sp := fun vs H Q E => ∃ x nm nn, vs = [x, nm, nn] ∧ ∃ (a : Addr) (F D : List Addr) (S : S0) (y z : Str), x = .ref a ∧ nm = .str y ∧ nn = .str z ∧ Al D H ∧ Sto K (hid D H) F a S ∧ S.fl.length ≤ 100 ∧
  (S.bd ≠ some 0 → ∀ H', Fr F H H' → Sto K (hid D H') F a { S.tick with fl := S.ren y z } → Q .non H') ∧ (S.bd = some 0 → Cut K S.n H E)
def sp_Store_names (K : PySem.W.Frag) : Sp := sp1 fun x H Q => ∃ (a : Addr) (F : List Addr) (S : S0), x = .ref a ∧ Sto K H F a S ∧ S.fl.length < 64 ∧ ∀ (p : Addr) (H' : Hp) (ys : List Str), H p = none → Same H H' → H' p = some (.lst (ys.map V.str)) → ys.Perm (S.fl.map (·.1)) → PyProof.Rows.sortedS ys = true → Q (.ref p) H'
def sp_Store_temp_names (K : PySem.W.Frag) : Sp := sp1 fun x H Q => ∃ (a : Addr) (F : List Addr) (S : S0), x = .ref a ∧ Sto K H F a S ∧ S.tp.length < 64 ∧ ∀ (p : Addr) (H' : Hp) (ys : List Str), H p = none → Same H H' → H' p = some (.lst (ys.map V.str)) → ys.Perm (S.tp.map (·.1)) → PyProof.Rows.sortedS ys = true → Q (.ref p) H'
def sp_Store_read (K : PySem.W.Frag) : Sp := sp2 fun x y H Q => ∃ (a : Addr) (F : List Addr) (S : S0) (nm : Str), x = .ref a ∧ y = .str nm ∧ Sto K H F a S ∧ (lk nm S.fl = none → Q .non H) ∧ ∀ r, lk nm S.fl = some r → ∀ (t l : Addr) (H' : Hp), H l = none → H t = none → Same H H' → H' t = some (.tup [.ref l, .int r.2]) → H' l = some (.lst (r.1.map V.int)) → Q (.ref t) H'
def sp_Store_temp (K : PySem.W.Frag) : Sp := sp2 fun x y H Q => ∃ (a : Addr) (F : List Addr) (S : S0) (nm : Str), x = .ref a ∧ y = .str nm ∧ Sto K H F a S ∧ (lk nm S.tp = none → Q .non H) ∧ ∀ bs, lk nm S.tp = some bs → ∀ (l : Addr) (H' : Hp), H l = none → Same H H' → H' l = some (.lst (bs.map V.int)) → Q (.ref l) H'
def sp_Store_attic (K : PySem.W.Frag) : Sp := sp1 fun x H Q => ∃ (a : Addr) (F : List Addr) (S : S0), x = .ref a ∧ Sto K H F a S ∧ S.at_.length ≤ 1000 ∧ ∀ (p : Addr) (qs : List Addr) (H' : Hp), H p = none → Same H H' → H' p = some (.lst (qs.map V.ref)) → Ats K H' qs S.at_ → (∀ E : List Addr, (∀ d ∈ E, (∃ o, H d = some o) ∧ NT H d) → Ats K (hid E H') qs S.at_) → Q (.ref p) H'
def sp_Store_durable (K : PySem.W.Frag) : Sp := sp1 fun x H Q => ∃ (a : Addr) (F : List Addr) (S : S0), x = .ref a ∧ Sto K H F a S ∧ S.fl.length < 64 ∧ S.tp.length < 64 ∧ S.at_.length ≤ 1000 ∧ ∀ (r : Addr) (H' : Hp), Same H H' → Dur K H' r S → Q (.ref r) H'
def S0.cutT (S : S0) (nm : Str) (c : Nat) : List (Str × List Int) := match lk nm S.tp with
  | none => S.tp
  | some r => if c = 0 then fdel nm S.tp else fput nm (r.take c) S.tp
def sp_Store_cut_temp (K : PySem.W.Frag) : Sp := fun vs H Q E => ∃ x nm c, vs = [x, nm, c] ∧ ∃ (a : Addr) (F D : List Addr) (S : S0) (z : Str) (n : Nat), x = .ref a ∧ nm = .str z ∧ c = .int (n : Nat) ∧ Al D H ∧ Sto K (hid D H) F a S ∧ S.tp.length ≤ 100 ∧
  (S.bd ≠ some 0 → ∀ F' H', Fr F H H' → (∀ b ∈ F', b ∈ F ∨ H b = none) → Sto K (hid D H') F' a { S.tick with tp := S.cutT z n } → Q .non H') ∧ (S.bd = some 0 → Cut K S.n H E)
theorem foot_sub {a fd td ad ld nd : Addr} {tw tw2 : List (Str × Addr)} (h : ∀ b ∈ tw2.map (·.2), b ∈ tw.map (·.2)) : ∀ b ∈ foot a fd td ad ld nd tw2, b ∈ foot a fd td ad ld nd tw := fun b m => by
  simp only [foot, List.mem_cons] at m ⊢
  rcases m with m | m | m | m | m | m | m
  · exact .inl m
  · exact .inr (.inl m)
  · exact .inr (.inr (.inl m))
  · exact .inr (.inr (.inr (.inl m)))
  · exact .inr (.inr (.inr (.inr (.inl m))))
  · exact .inr (.inr (.inr (.inr (.inr (.inl m)))))
  · exact .inr (.inr (.inr (.inr (.inr (.inr (h b m))))))
theorem fdel_sub {nm : Str} {tw : List (Str × Addr)} : ∀ b ∈ (fdel nm tw).map (·.2), b ∈ tw.map (·.2) := fun b m => (List.Sublist.map _ List.filter_sublist).subset m
theorem foot_del {a fd td ad ld nd : Addr} {nm : Str} {tw : List (Str × Addr)} (h : (foot a fd td ad ld nd tw).Nodup) : (foot a fd td ad ld nd (fdel nm tw)).Nodup :=
  h.sublist ((((((((List.Sublist.map _ List.filter_sublist).cons₂ _).cons₂ _).cons₂ _).cons₂ _).cons₂ _).cons₂ _))
theorem cut_toV (xs : List V) (c : Nat) : cutV xs none (some (c : Int)) = xs.take c := by
  unfold cutV
  rw [HT.sIx_nat, show HT.sIx xs.length 0 none = 0 from rfl, List.drop_zero, Nat.sub_zero]
  by_cases h : c ≤ xs.length
  · rw [Nat.min_eq_left h]
  · rw [Nat.min_eq_right (by omega), List.take_of_length_le (Nat.le_refl _), List.take_of_length_le (by omega)]
theorem fput_in {nm : Str} {q2 : Addr} {w : List (Str × Addr)} : ∀ b ∈ (fput nm q2 w).map (·.2), b ∈ w.map (·.2) ∨ b = q2 := fun b m => by
  obtain ⟨y, hy, rfl⟩ := List.mem_map.mp m
  unfold fput at hy
  by_cases h : nm ∈ w.map (·.1)
  · rw [if_pos h] at hy
    obtain ⟨z, hz, rfl⟩ := List.mem_map.mp hy
    by_cases e : z.1 = nm
    · rw [if_pos e]; exact .inr rfl
    · rw [if_neg e]; exact .inl (List.mem_map.mpr ⟨z, hz, rfl⟩)
  · rw [if_neg h] at hy
    rcases List.mem_append.mp hy with h2 | h2
    · exact .inl (List.mem_map.mpr ⟨y, h2, rfl⟩)
    · rw [List.mem_singleton.mp h2]; exact .inr rfl
theorem mapput_out {nm : Str} {q2 : Addr} : ∀ {w : List (Str × Addr)}, nm ∉ w.map (·.1) → (w.map fun y => if y.1 = nm then (nm, q2) else y) = w
  | [], _ => rfl
  | x :: w, h => by
    rw [List.map_cons, if_neg fun e => h (by rw [← e]; exact List.mem_cons_self ..), mapput_out fun m => h (List.mem_cons_of_mem _ m)]
theorem mapput_snd {nm : Str} {q2 : Addr} : ∀ {w : List (Str × Addr)}, (w.map (·.1)).Nodup → (w.map (·.2)).Nodup → q2 ∉ w.map (·.2) → ((w.map fun y => if y.1 = nm then (nm, q2) else y).map (·.2)).Nodup
  | [], _, _, _ => by simp
  | x :: w, h1, h2, h3 => by
    rw [List.map_cons, List.nodup_cons] at h1 h2
    rw [List.map_cons, List.mem_cons, not_or] at h3
    rw [List.map_cons, List.map_cons, List.nodup_cons]
    by_cases e : x.1 = nm
    · rw [if_pos e, mapput_out (by rw [← e]; exact h1.1)]
      exact ⟨h3.2, h2.2⟩
    · rw [if_neg e]
      refine ⟨fun m => ?_, mapput_snd h1.2 h2.2 h3.2⟩
      obtain ⟨y, hy, ey⟩ := List.mem_map.mp m
      obtain ⟨z, hz, rfl⟩ := List.mem_map.mp hy
      by_cases e2 : z.1 = nm
      · rw [if_pos e2] at ey
        exact h3.1 ey
      · rw [if_neg e2] at ey
        exact h2.1 (List.mem_map.mpr ⟨z, hz, ey⟩)
theorem fput_snd {nm : Str} {q2 : Addr} {w : List (Str × Addr)} (h1 : (w.map (·.1)).Nodup) (h2 : (w.map (·.2)).Nodup) (h3 : q2 ∉ w.map (·.2)) : ((fput nm q2 w).map (·.2)).Nodup := by
  unfold fput
  by_cases h : nm ∈ w.map (·.1)
  · rw [if_pos h]; exact mapput_snd h1 h2 h3
  · rw [if_neg h, List.map_append, List.nodup_append]
    exact ⟨h2, by simp, fun y my z mz e => h3 (by have e2 : z = q2 := List.mem_singleton.mp mz; rw [← e2, ← e]; exact my)⟩
theorem Sep.ft {a fd td ad ld nd : Addr} {tw : List (Str × Addr)} (p : Sep a fd td ad ld nd (tw.map (·.2))) : (foot a fd td ad ld nd tw).Nodup := by
  unfold foot
  rw [List.nodup_cons, List.nodup_cons, List.nodup_cons, List.nodup_cons, List.nodup_cons, List.nodup_cons]
  simp only [List.mem_cons, not_or]
  exact ⟨p.s1, p.s2, p.s3, p.s4, p.s5, p.s6, p.s7⟩
theorem Sep.put {a fd td ad ld nd q2 : Addr} {nm : Str} {tw : List (Str × Addr)} (p : Sep a fd td ad ld nd (tw.map (·.2))) (h1 : (tw.map (·.1)).Nodup) (n : q2 ≠ a ∧ q2 ≠ fd ∧ q2 ≠ td ∧ q2 ≠ ad ∧ q2 ≠ ld ∧ q2 ≠ nd ∧ q2 ∉ tw.map (·.2)) : Sep a fd td ad ld nd ((fput nm q2 tw).map (·.2)) := by
  have z : ∀ b : Addr, b ∉ tw.map (·.2) → q2 ≠ b → b ∉ (fput nm q2 tw).map (·.2) := fun b hb hn m => (fput_in b m).elim hb fun e => hn e.symm
  exact ⟨⟨p.s1.1, p.s1.2.1, p.s1.2.2.1, p.s1.2.2.2.1, p.s1.2.2.2.2.1, z _ p.s1.2.2.2.2.2 n.1⟩, ⟨p.s2.1, p.s2.2.1, p.s2.2.2.1, p.s2.2.2.2.1, z _ p.s2.2.2.2.2 n.2.1⟩, ⟨p.s3.1, p.s3.2.1, p.s3.2.2.1, z _ p.s3.2.2.2 n.2.2.1⟩, ⟨p.s4.1, p.s4.2.1, z _ p.s4.2.2 n.2.2.2.1⟩, ⟨p.s5.1, z _ p.s5.2 n.2.2.2.2.1⟩, z _ p.s6 n.2.2.2.2.2.1, fput_snd h1 p.s7 n.2.2.2.2.2.2⟩
theorem foot_put {a fd td ad ld nd q2 : Addr} {nm : Str} {tw : List (Str × Addr)} : ∀ b ∈ foot a fd td ad ld nd (fput nm q2 tw), b ∈ foot a fd td ad ld nd tw ∨ b = q2 := fun b m => by
  simp only [foot, List.mem_cons] at m ⊢
  rcases m with m | m | m | m | m | m | m
  · exact .inl (.inl m)
  · exact .inl (.inr (.inl m))
  · exact .inl (.inr (.inr (.inl m)))
  · exact .inl (.inr (.inr (.inr (.inl m))))
  · exact .inl (.inr (.inr (.inr (.inr (.inl m)))))
  · exact .inl (.inr (.inr (.inr (.inr (.inr (.inl m))))))
  · rcases fput_in b m with h | h
    · exact .inl (.inr (.inr (.inr (.inr (.inr (.inr h))))))
    · exact .inr h
/-! place -/
theorem snd_inj : ∀ {w : List (Str × Addr)}, (w.map (·.2)).Nodup → ∀ x ∈ w, ∀ y ∈ w, x.2 = y.2 → x = y
  | a :: w, h, x, hx, y, hy, e => by
    rw [List.map_cons, List.nodup_cons] at h
    rcases List.mem_cons.mp hx with hx | hx <;> rcases List.mem_cons.mp hy with hy | hy
    · rw [hx, hy]
    · exact absurd (List.mem_map.mpr ⟨y, hy, by rw [← e, hx]⟩) h.1
    · exact absurd (List.mem_map.mpr ⟨x, hx, by rw [e, hy]⟩) h.1
    · exact snd_inj h.2 x hx y hy e
theorem fdel_out {nm : Str} {q : Addr} {w : List (Str × Addr)} (h : (nm, q) ∈ w) (n : (w.map (·.2)).Nodup) : q ∉ (fdel nm w).map (·.2) := fun m => by
  obtain ⟨y, hy, e⟩ := List.mem_map.mp m
  unfold fdel at hy
  obtain ⟨h1, h2⟩ := List.mem_filter.mp hy
  have e2 := snd_inj n y h1 _ h e
  rw [e2] at h2
  simp at h2
def sp_Store_place (K : PySem.W.Frag) : Sp := fun vs H Q E => ∃ x nm t, vs = [x, nm, t] ∧ ∃ (a : Addr) (F D : List Addr) (S : S0) (z : Str) (tm : Int), x = .ref a ∧ nm = .str z ∧ t = .int tm ∧ Al D H ∧ Sto K (hid D H) F a S ∧ S.fl.length ≤ 100 ∧
  (S.bd ≠ some 0 → ∀ F' H', Fr F H H' → (∀ b ∈ F', b ∈ F ∨ H b = none) → Sto K (hid D H') F' a { S.tick with fl := fput z ((lk z S.tp).getD [], tm) S.fl, tp := fdel z S.tp } → Q .non H') ∧ (S.bd = some 0 → Cut K S.n H E)
/-! one byte more -/
def ap1 (nm : Str) (tp : List (Str × List Int)) (b : Int) : List (Str × List Int) := fput nm ((lk nm tp).getD [] ++ [b]) tp
def S0.apt (S : S0) (nm : Str) (bs : List Int) (j : Nat) : S0 := { S with tp := (bs.take j).foldl (ap1 nm) S.tp, n := S.n + (j : Nat), bd := S.bd.map fun k => k - j }
theorem apt_zero (S : S0) (nm : Str) (bs : List Int) : S.apt nm bs 0 = S := by
  obtain ⟨a1, a2, a3, a4, a5, a6, a7⟩ := S
  unfold S0.apt
  cases a7 <;> simp
theorem apt_succ (S : S0) (nm : Str) {bs : List Int} {i : Nat} {b : Int} (h : bs[i]? = some b) : { (S.apt nm bs i).tick with tp := ap1 nm (S.apt nm bs i).tp b } = S.apt nm bs (i + 1) := by
  obtain ⟨a1, a2, a3, a4, a5, a6, a7⟩ := S
  unfold S0.apt S0.tick
  have e1 : bs.take (i + 1) = bs.take i ++ [b] := by rw [List.take_add_one, h]; rfl
  have e2 : ∀ n : Int, n + (i : Nat) + 1 = n + ((i + 1 : Nat) : Int) := fun n => by omega
  cases a7 with
  | none => simp [e1, e2, List.foldl_append]
  | some k => simp [e1, e2, Nat.sub_sub, List.foldl_append]
theorem fput_len {β : Type} (nm : Str) (x : β) (l : List (Str × β)) : (fput nm x l).length ≤ l.length + 1 := by
  unfold fput
  by_cases h : nm ∈ l.map (·.1)
  · rw [if_pos h, List.length_map]; omega
  · rw [if_neg h, List.length_append, List.length_singleton]; omega
theorem fput_mem {β : Type} {nm : Str} {x : β} {l : List (Str × β)} {r : Str × β} (h : r ∈ fput nm x l) : r ∈ l ∨ r = (nm, x) := by
  unfold fput at h
  by_cases m : nm ∈ l.map (·.1)
  · rw [if_pos m] at h
    obtain ⟨y, hy, e⟩ := List.mem_map.mp h
    by_cases z : y.1 = nm
    · rw [if_pos z] at e; exact .inr e.symm
    · rw [if_neg z] at e; rw [← e]; exact .inl hy
  · rw [if_neg m] at h
    exact (List.mem_append.mp h).imp id fun z => List.mem_singleton.mp z
theorem lk_in {β : Type} {nm : Str} {r : β} : ∀ {l : List (Str × β)}, lk nm l = some r → (nm, r) ∈ l
  | x :: l, h => by
    have h : (if x.1 = nm then some x.2 else lk nm l) = some r := h
    by_cases z : x.1 = nm
    · rw [if_pos z] at h
      rw [← z, ← Option.some.inj h]; exact List.mem_cons_self ..
    · rw [if_neg z] at h
      exact List.mem_cons_of_mem _ (lk_in h)
theorem lk_none {β : Type} {nm : Str} : ∀ {l : List (Str × β)}, nm ∉ l.map (·.1) → lk nm l = none
  | [], _ => rfl
  | x :: l, h => by
    rw [List.map_cons, List.mem_cons, not_or] at h
    show (if x.1 = nm then some x.2 else lk nm l) = none
    rw [if_neg fun z => h.1 z.symm]
    exact lk_none h.2
theorem ap1_len (nm : Str) (tp : List (Str × List Int)) (b : Int) (m n : Nat) (h1 : tp.length ≤ m) (h2 : ∀ r ∈ tp, r.2.length ≤ n) : (ap1 nm tp b).length ≤ m + 1 ∧ ∀ r ∈ ap1 nm tp b, r.2.length ≤ n + 1 := by
  refine ⟨Nat.le_trans (fput_len ..) (by omega), fun r hr => ?_⟩
  rcases fput_mem hr with h | h
  · have := h2 r h; omega
  · rw [h, List.length_append, List.length_singleton]
    cases e : lk nm tp with
    | none => simp
    | some u => have := h2 _ (lk_in e); simpa using this
theorem app_len (nm : Str) : ∀ (bs : List Int) (tp : List (Str × List Int)) (m n : Nat), tp.length ≤ m → (∀ r ∈ tp, r.2.length ≤ n) → (bs.foldl (ap1 nm) tp).length ≤ m + bs.length ∧ ∀ r ∈ bs.foldl (ap1 nm) tp, r.2.length ≤ n + bs.length
  | [], _, _, _, h1, h2 => ⟨h1, h2⟩
  | b :: bs, tp, m, n, h1, h2 => by
    obtain ⟨h3, h4⟩ := ap1_len nm tp b m n h1 h2
    obtain ⟨h5, h6⟩ := app_len nm bs (ap1 nm tp b) (m + 1) (n + 1) h3 h4
    rw [List.foldl_cons, List.length_cons]
    exact ⟨by omega, fun r hr => by have := h6 r hr; omega⟩
theorem mapput_id {β : Type} {nm : Str} {r : β} : ∀ {w : List (Str × β)}, nm ∉ w.map (·.1) → (w.map fun y => if y.1 = nm then (nm, r) else y) = w
  | [], _ => rfl
  | x :: w, h => by
    rw [List.map_cons, if_neg fun e => h (by rw [← e]; exact List.mem_cons_self ..), mapput_id fun m => h (List.mem_cons_of_mem _ m)]
theorem tps_put {H : Hp} {nm : Str} {q : Addr} {r' : List Int} : ∀ {w : List (Str × Addr)} {tp : List (Str × List Int)}, Tps H w tp → (nm, q) ∈ w → (w.map (·.1)).Nodup → (w.map (·.2)).Nodup → Tps (upd H q (.lst (r'.map V.int))) w (tp.map fun y => if y.1 = nm then (nm, r') else y)
  | x :: w, r :: tp, .cons h t, m, n1, n2 => by
    rw [List.map_cons, List.nodup_cons] at n1 n2
    rw [List.map_cons]
    rcases List.mem_cons.mp m with e | m
    · have e1 : x.1 = nm := by rw [← e]
      have e2 : x.2 = q := by rw [← e]
      have h1 : r.1 = nm := h.1.symm.trans e1
      rw [if_pos h1, mapput_id (by rw [← prd_fst (R := fun (q : Addr) (r : List Int) => H q = some (.lst (r.map V.int))) t, ← e1]; exact n1.1)]
      exact .cons ⟨e1, by rw [e2]; exact upd_same⟩ (tps_upd t fun b mb z => n2.1 (by rw [e2, ← z]; exact mb))
    · have e1 : ¬ x.1 = nm := fun z => n1.1 (by rw [z]; exact List.mem_map.mpr ⟨_, m, rfl⟩)
      have e2 : x.2 ≠ q := fun z => n2.1 (by rw [z]; exact List.mem_map.mpr ⟨_, m, rfl⟩)
      rw [if_neg fun z => e1 (h.1.trans z)]
      exact .cons ⟨h.1, by rw [upd_ne e2]; exact h.2⟩ (tps_put t m n1.2 n2.2)
def sp_Store_append_temp (K : PySem.W.Frag) : Sp := fun vs H Q E => ∃ x y z, vs = [x, y, z] ∧ ∃ (a d : Addr) (F D : List Addr) (S : S0) (nm : Str) (bs : List Int), x = .ref a ∧ y = .str nm ∧ z = .ref d ∧ Al D H ∧ Sto K (hid D H) F a S ∧ H d = some (.lst (bs.map V.int)) ∧ d ∉ F ∧ bs.length ≤ 1000 ∧ S.tp.length ≤ 100 ∧ (∀ r ∈ S.tp, r.2.length ≤ 10000) ∧
  ((∀ k, S.bd = some k → bs.length ≤ k) → ∀ F' H', Fr F H H' → (∀ b ∈ F', b ∈ F ∨ H b = none) → Sto K (hid D H') F' a (S.apt nm bs bs.length) → Q .non H') ∧
  (∀ k, S.bd = some k → k < bs.length → ∀ F' H', Fr F H H' → (∀ b ∈ F', b ∈ F ∨ H b = none) → Sto K (hid D H') F' a (S.apt nm bs k) → Cut K (S.n + (k : Nat)) H' E)
/-! a store made -/
theorem sqL_fr {K : PySem.W.Frag} {a : Addr} {H H1 : Hp} {p : Addr} {v : List V} {dx : Addr} {C : Addr} {fs : List (Str × V)} (ha : H a = some (.ins C dx fs)) (h : SqL K H p v ∨ SqT K H p v) (f : Fr [a] H H1) : SqL K H1 p v ∨ SqT K H1 p v :=
  h.imp (fun h => seq_fr h f fun d m => by rw [List.mem_singleton.mp m]; exact nl_ins ha) fun h => sqT_fr h f fun d m => by rw [List.mem_singleton.mp m]; exact nt_ins ha
def FilB (K : PySem.W.Frag) (H : Hp) (q : Addr) (r : List Int × Int) : Prop := ∃ l, H q = some (.tup [.ref l, .int r.2]) ∧ (SqL K H l (r.1.map V.int) ∨ SqT K H l (r.1.map V.int))
abbrev FlsB (K : PySem.W.Frag) (H : Hp) (w : List (Str × Addr)) (fl : List (Str × (List Int × Int))) : Prop := Paired (fun x r => x.1 = r.1 ∧ FilB K H x.2 r.2) w fl
def NF (H : Hp) (d : Addr) : Prop := ∃ kvs, H d = some (.dK kvs)
theorem sq2_upd {K : PySem.W.Frag} {H : Hp} {d p : Addr} {kvs : List (Key × V)} {o : HO} {v : List V} (hd : H d = some (.dK kvs)) (h : SqL K H p v ∨ SqT K H p v) : SqL K (upd H d o) p v ∨ SqT K (upd H d o) p v := by
  rcases h with ((h | ⟨c9, h⟩) | h) | ((h | ⟨c9, h⟩) | h)
  · exact .inl (.inl (.inl (by rw [upd_ne fun z => by rw [z, hd] at h; cases h]; exact h)))
  · exact .inl (.inl (.inr ⟨c9, by rw [upd_ne fun z => by rw [z, hd] at h; cases h]; exact h⟩))
  · exact .inl (.inr h)
  · exact .inr (.inl (.inl (by rw [upd_ne fun z => by rw [z, hd] at h; cases h]; exact h)))
  · exact .inr (.inl (.inr ⟨c9, by rw [upd_ne fun z => by rw [z, hd] at h; cases h]; exact h⟩))
  · exact .inr (.inr h)
theorem sq2_same {K : PySem.W.Frag} {H H' : Hp} {p : Addr} {v : List V} (s : Same H H') (h : SqL K H p v ∨ SqT K H p v) : SqL K H' p v ∨ SqT K H' p v := h.imp (fun h => s.seq h) fun h => same_tup s h
theorem upd_none {H : Hp} {a p : Addr} {o : HO} (h : upd H a o p = none) : p ≠ a ∧ H p = none := by
  have n : p ≠ a := fun z => by rw [z, upd_same] at h; cases h
  exact ⟨n, by rwa [upd_ne n] at h⟩
theorem fr_back {S : List Addr} {H H' : Hp} {p : Addr} (f : Fr S H H') (n : p ∉ S) (h : H' p = none) : H p = none := by
  cases e : H p with
  | none => rfl
  | some o => rw [f _ _ n e] at h; cases h
def sp_Store___init__ (K : PySem.W.Frag) : Sp := sp3 fun x y z H Q => ∃ (a d0 lg dx : Addr) (w0 : List (Str × Addr)) (fl : List (Str × (List Int × Int))) (bs : List Int) (D : List Addr), x = .ref a ∧ y = .ref d0 ∧ z = .ref lg ∧ H a = some (.ins (cSto K) dx []) ∧ H d0 = some (.dK (dct w0)) ∧ FlsB K H w0 fl ∧ (fl.map (·.1)).Nodup ∧ fl.length ≤ 100 ∧
  (SqL K H lg (bs.map V.int) ∨ SqT K H lg (bs.map V.int)) ∧ Al D H ∧ a ∉ D ∧ ∀ (F : List Addr) (H' : Hp), (∀ b, b ≠ a → ∀ o, H b = some o → H' b = some o) → (∀ b ∈ F, b = a ∨ H b = none) → Sto K (hid D H') F a ⟨fl, [], [], 0, bs, [], none⟩ → Q .non H'
/-! what data says of the heap -/
theorem dpa_len {K : PySem.W.Frag} {H : Hp} : ∀ {us : List V} {ds : List PyData}, DpAll K H us ds → us.length = ds.length
  | _, _, .nil => rfl
  | _, _, .cons _ t => by rw [List.length_cons, List.length_cons, dpa_len t]
theorem dpa_get {K : PySem.W.Frag} {H : Hp} : ∀ {us : List V} {ds : List PyData}, DpAll K H us ds → ∀ (i : Nat) (v : V), us[i]? = some v → ∃ d, ds[i]? = some d ∧ Dp K H v d
  | _, _, .nil, i, v, h => by simp at h
  | _, _, .cons a t, 0, v, h => by cases h; exact ⟨_, rfl, a⟩
  | _, _, .cons a t, i + 1, v, h => by
    obtain ⟨d, h1, h2⟩ := dpa_get t i v (by simpa using h)
    exact ⟨d, by simpa using h1, h2⟩
theorem dpa_intsI {K : PySem.W.Frag} {H : Hp} : ∀ {xs : List Int} {us : List V}, DpAll K H us (Di xs) → us = xs.map V.int
  | [], _, h => by cases h; rfl
  | x :: xs, _, h => by
    cases h with
    | cons a t =>
      cases a
      rw [dpa_intsI t]; rfl
theorem dp_tupI {K : PySem.W.Frag} {H : Hp} {v : V} {ds : List PyData} (h : Dp K H v (.tuple ds)) : ∃ p us, v = .ref p ∧ SqT K H p us ∧ DpAll K H us ds := by
  cases h with
  | tup h a => exact ⟨_, _, rfl, h, a⟩
theorem dp_intsI {K : PySem.W.Frag} {H : Hp} {v : V} {xs : List Int} (h : Dp K H v (.tuple (Di xs))) : ∃ p, v = .ref p ∧ SqT K H p (xs.map V.int) := by
  obtain ⟨p, us, rfl, h1, h2⟩ := dp_tupI h
  rw [dpa_intsI h2] at h1
  exact ⟨p, rfl, h1⟩
theorem dpa_vecI {K : PySem.W.Frag} {H : Hp} : ∀ {vc : Vc} {us : List V}, DpAll K H us (Dv vc) → ∃ ps : List Addr, us = ps.map V.ref ∧ Prs K H ps vc
  | [], _, h => by cases h; exact ⟨[], rfl, .nil⟩
  | c :: vc, _, h => by
    cases h with
    | cons a t =>
      obtain ⟨p, rfl, h1⟩ := dp_intsI (xs := [c.1, c.2]) a
      obtain ⟨ps, rfl, h2⟩ := dpa_vecI t
      exact ⟨p :: ps, rfl, .cons h1 h2⟩
theorem dp_vecI {K : PySem.W.Frag} {H : Hp} {v : V} {vc : Vc} (h : Dp K H v (.tuple (Dv vc))) : ∃ p, v = .ref p ∧ Vec K H p vc := by
  obtain ⟨p, us, rfl, h1, h2⟩ := dp_tupI h
  obtain ⟨ps, rfl, h3⟩ := dpa_vecI h2
  exact ⟨p, rfl, ps, h1, h3⟩
def kT (y : Str × List Int) : PyData := .tuple [.str y.1, .tuple (Di y.2)]
def kF (y : Str × (List Int × Int)) : PyData := .tuple [.str y.1, .tuple (Di y.2.1), .int y.2.2]
theorem dp_kT {K : PySem.W.Frag} {H : Hp} {v : V} {y : Str × List Int} (h : Dp K H v (kT y)) : ∃ p q, v = .ref p ∧ SqT K H p [.str y.1, .ref q] ∧ SqT K H q (y.2.map V.int) := by
  obtain ⟨p, us, rfl, h1, h2⟩ := dp_tupI h
  cases h2 with
  | cons a t =>
    cases t with
    | cons b t =>
      cases t
      cases a
      obtain ⟨q, rfl, h3⟩ := dp_intsI b
      exact ⟨p, q, rfl, h1, h3⟩
theorem dp_kF {K : PySem.W.Frag} {H : Hp} {v : V} {y : Str × (List Int × Int)} (h : Dp K H v (kF y)) : ∃ p q, v = .ref p ∧ SqT K H p [.str y.1, .ref q, .int y.2.2] ∧ SqT K H q (y.2.1.map V.int) := by
  obtain ⟨p, us, rfl, h1, h2⟩ := dp_tupI h
  cases h2 with
  | cons a t =>
    cases t with
    | cons b t =>
      cases t with
      | cons c t =>
        cases t
        cases a
        cases c
        obtain ⟨q, rfl, h3⟩ := dp_intsI b
        exact ⟨p, q, rfl, h1, h3⟩
theorem dp_kA {K : PySem.W.Frag} {H : Hp} {v : V} {r : Str × (Vc × List Int)} (h : Dp K H v (durA r)) : ∃ p w q, v = .ref p ∧ SqT K H p [.str r.1, .ref w, .ref q] ∧ Vec K H w r.2.1 ∧ SqT K H q (r.2.2.map V.int) := by
  obtain ⟨p, us, rfl, h1, h2⟩ := dp_tupI h
  cases h2 with
  | cons a t =>
    cases t with
    | cons b t =>
      cases t with
      | cons c t =>
        cases t
        cases a
        obtain ⟨w, rfl, h4⟩ := dp_vecI b
        obtain ⟨q, rfl, h3⟩ := dp_intsI c
        exact ⟨p, w, q, rfl, h1, h4, h3⟩
theorem fr_hid {D S : List Addr} {H H' : Hp} (f : Fr S H H') : Fr S (hid D H) (hid D H') := fun b o n e => by
  obtain ⟨h1, h2⟩ := hid_some e
  rw [hid_at h1]
  exact f b o n h2
section
variable {K : PySem.W.Frag} {H : Hp} {a dx fd td ad ld nd : Addr} {S : S0} {fs : List (Str × V)} {fw tw : List (Str × Addr)} {aq : List Addr}
theorem StoX.kep {H2 : Hp} (x : StoX K H a S dx fd td ad ld nd fs fw tw aq) {td2 ad2 nd2 : Addr} {tw2 : List (Str × Addr)} {aq2 : List Addr} {tp2 : List (Str × List Int)} {at2 : List (Str × (Vc × List Int))} {nw2 : List Int} (f : Fr [a] H H2)
    (e : H2 a = some (.ins (cSto K) dx (putF "_new_log" (.ref nd2) (putF "_attic" (.ref ad2) (putF "_temps" (.ref td2) fs))))) (n : ∀ b ∈ td2 :: ad2 :: nd2 :: tw2.map (·.2), H b = none) (hnd : (td2 :: ad2 :: nd2 :: tw2.map (·.2)).Nodup)
    (e1 : H2 td2 = some (.dK (dct tw2))) (e2 : Tps H2 tw2 tp2) (e3 : H2 ad2 = some (.lst (aq2.map V.ref))) (e4 : Ats K (hid (foot a fd td2 ad2 ld nd2 tw2) H2) aq2 at2) (e5 : H2 nd2 = some (.lst (nw2.map V.int))) (e6 : (tp2.map (·.1)).Nodup) :
    StoX K H2 a { S with tp := tp2, at_ := at2, nw := nw2 } dx fd td2 ad2 ld nd2 (putF "_new_log" (.ref nd2) (putF "_attic" (.ref ad2) (putF "_temps" (.ref td2) fs))) fw tw2 aq2 := by
  have p := x.sep
  have z : ∀ b o, H b = some o → ∀ c ∈ td2 :: ad2 :: nd2 :: tw2.map (·.2), b ≠ c := fun b o h c m q => by rw [q, n c m] at h; cases h
  have za := z _ _ x.ins
  have zf := z _ _ x.f1
  have zl := z _ _ x.g1
  have m1 : td2 ∈ td2 :: ad2 :: nd2 :: tw2.map (·.2) := by simp
  have m2 : ad2 ∈ td2 :: ad2 :: nd2 :: tw2.map (·.2) := by simp
  have m3 : nd2 ∈ td2 :: ad2 :: nd2 :: tw2.map (·.2) := by simp
  have m4 : ∀ {b : Addr}, b ∈ tw2.map (·.2) → b ∈ td2 :: ad2 :: nd2 :: tw2.map (·.2) := fun m => by simp at m ⊢; exact .inr (.inr (.inr m))
  have h := hnd
  rw [List.nodup_cons, List.nodup_cons, List.nodup_cons] at h
  simp only [List.mem_cons, not_or] at h
  obtain ⟨⟨h1, h2, h3⟩, ⟨h4, h5⟩, h6, h7⟩ := h
  have sp : Sep a fd td2 ad2 ld nd2 (tw2.map (·.2)) :=
    ⟨⟨p.s1.1, za _ m1, za _ m2, p.s1.2.2.2.1, za _ m3, fun m => za _ (m4 m) rfl⟩, ⟨zf _ m1, zf _ m2, p.s2.2.2.1, zf _ m3, fun m => zf _ (m4 m) rfl⟩, ⟨h1, fun q => zl _ m1 q.symm, h2, h3⟩, ⟨fun q => zl _ m2 q.symm, h4, h5⟩, ⟨zl _ m3, fun m => zl _ (m4 m) rfl⟩, h6, h7⟩
  have hF : ∀ b ∈ foot a fd td2 ad2 ld nd2 tw2, b ∈ foot a fd td ad ld nd tw ∨ H b = none := fun b m => by
    simp only [foot, List.mem_cons] at m ⊢
    rcases m with m | m | m | m | m | m | m
    · exact .inl (.inl m)
    · exact .inl (.inr (.inl m))
    · exact .inr (by rw [m]; exact n _ m1)
    · exact .inr (by rw [m]; exact n _ m2)
    · exact .inl (.inr (.inr (.inr (.inr (.inl m)))))
    · exact .inr (by rw [m]; exact n _ m3)
    · exact .inr (n _ (m4 m))
  have sw := hid_sw hF (f.mono fun b m => by rw [List.mem_singleton.mp m]; exact List.mem_cons_self ..)
  have nf : fd ∉ [a] := fun m => p.s1.1 (List.mem_singleton.mp m).symm
  have nl : ld ∉ [a] := fun m => p.s1.2.2.2.1 (List.mem_singleton.mp m).symm
  have k2 : (putF "_temps" (.ref td2) fs).lookup ("_attic" : Str) = some (.ref ad) := by rw [lookup_putF, if_neg (by decide)]; exact x.l3
  have k3 : (putF "_attic" (.ref ad2) (putF "_temps" (.ref td2) fs)).lookup ("_new_log" : Str) = some (.ref nd) := by rw [lookup_putF, if_neg (by decide), lookup_putF, if_neg (by decide)]; exact x.l5
  refine ⟨e, ?_, ?_, ?_, ?_, ?_, ?_, ?_, ?_, fun m hm2 => ?_, f _ _ nf x.f1, e1, e3, fls_same x.f2 sw, e2, e4, f _ _ nl x.g1, e5, sp.ft, x.fn, e6⟩
  · rw [put_same k3, put_same k2, put_same x.l2]; exact x.len
  · rw [lookup_putF, if_neg (by decide), lookup_putF, if_neg (by decide), lookup_putF, if_neg (by decide)]; exact x.l1
  · rw [lookup_putF, if_neg (by decide), lookup_putF, if_neg (by decide), lookup_putF, if_pos rfl]
  · rw [lookup_putF, if_neg (by decide), lookup_putF, if_pos rfl]
  · rw [lookup_putF, if_neg (by decide), lookup_putF, if_neg (by decide), lookup_putF, if_neg (by decide)]; exact x.l4
  · rw [lookup_putF, if_pos rfl]
  · rw [lookup_putF, if_neg (by decide), lookup_putF, if_neg (by decide), lookup_putF, if_neg (by decide)]; exact x.l6
  · rw [lookup_putF, if_neg (by decide), lookup_putF, if_neg (by decide), lookup_putF, if_neg (by decide)]; exact x.l7
  · rw [lookup_putF, if_neg (fun e => hm2 (by rw [e]; decide)), lookup_putF, if_neg (fun e => hm2 (by rw [e]; decide)), lookup_putF, if_neg (fun e => hm2 (by rw [e]; decide))]; exact x.l0 m hm2
end
def sp_Store__keep (K : PySem.W.Frag) : Sp := fun vs H Q E => ∃ x tt ta tn, vs = [x, tt, ta, tn] ∧ ∃ (a pt pa pn : Addr) (F D : List Addr) (S : S0) (zs : List (Str × List Int)) (as_ : List (Str × (Vc × List Int))) (bs : List Int), x = .ref a ∧ tt = .ref pt ∧ ta = .ref pa ∧ tn = .ref pn ∧ Al D H ∧ Sto K (hid D H) F a S ∧
  Dp K H (.ref pt) (.tuple (zs.map kT)) ∧ (zs.map (·.1)).Nodup ∧ zs.length ≤ 100 ∧ Dp K H (.ref pa) (.tuple (as_.map durA)) ∧ as_.length ≤ 1000 ∧ SqT K H pn (bs.map V.int) ∧
  ∀ F' H', Fr [a] H H' → (∀ b ∈ F', b ∈ F ∨ H b = none) → Sto K (hid D H') F' a { S with tp := zs, at_ := as_, nw := bs } → Q .non H'
/-! a store made of what is durable -/
theorem lk_of_mem {β : Type} : ∀ {l : List (Str × β)} {r : Str × β}, (l.map (·.1)).Nodup → r ∈ l → lk r.1 l = some r.2
  | x :: l, r, n, m => by
    rw [List.map_cons, List.nodup_cons] at n
    show (if x.1 = r.1 then some x.2 else lk r.1 l) = _
    rcases List.mem_cons.mp m with e | m
    · rw [e, if_pos rfl]
    · rw [if_neg fun z => n.1 (by rw [z]; exact List.mem_map.mpr ⟨r, m, rfl⟩)]
      exact lk_of_mem n.2 m
theorem perm_lk {β : Type} {ys : List Str} {fl : List (Str × β)} (d : β) (p : ys.Perm (fl.map (·.1))) (n : (fl.map (·.1)).Nodup) : (ys.map fun y => (y, (lk y fl).getD d)).Perm fl := by
  refine (p.map _).trans ?_
  rw [List.map_map]
  have e : fl.map ((fun y => (y, (lk y fl).getD d)) ∘ fun x => x.1) = fl.map id := List.map_congr_left fun r m => by
    show (r.1, (lk r.1 fl).getD d) = r
    rw [lk_of_mem n m]; rfl
  rw [e, List.map_id]
theorem lk_perm {β : Type} {l m : List (Str × β)} (p : l.Perm m) (n : (l.map (·.1)).Nodup) (nm : Str) : lk nm l = lk nm m := by
  have n2 : (m.map (·.1)).Nodup := (p.map (·.1)).nodup_iff.mp n
  cases e : lk nm l with
  | some r => exact (lk_of_mem (r := (nm, r)) n2 (p.mem_iff.mp (lk_in e))).symm
  | none =>
    cases e2 : lk nm m with
    | none => rfl
    | some r =>
      have := lk_of_mem (r := (nm, r)) n (p.mem_iff.mpr (lk_in e2))
      rw [e] at this; cases this
theorem filB_upd {K : PySem.W.Frag} {H : Hp} {d q : Addr} {kvs : List (Key × V)} {o : HO} {r : List Int × Int} (hd : H d = some (.dK kvs)) (h : FilB K H q r) : FilB K (upd H d o) q r := by
  obtain ⟨l, h1, h2⟩ := h
  exact ⟨l, by rw [upd_ne fun z => by rw [z, hd] at h1; cases h1]; exact h1, sq2_upd hd h2⟩
theorem FilB.same {K : PySem.W.Frag} {H H' : Hp} {q : Addr} {r : List Int × Int} (h : FilB K H q r) (s : Same H H') : FilB K H' q r := let ⟨l, h1, h2⟩ := h; ⟨l, s _ _ h1, sq2_same s h2⟩
/-- S' is S, made anew -/
structure Again (S S' : S0) : Prop where
  fl : S'.fl.Perm S.fl
  tp : S'.tp.Perm S.tp
  at_ : S'.at_ = S.at_
  n : S'.n = 0
  lg : S'.lg = S.lg
  nw : S'.nw = S.nw
  bd : S'.bd = none
theorem Again.dur {K : PySem.W.Frag} {H : Hp} {r : Addr} {S S' : S0} (g : Again S S') (nf : (S.fl.map (·.1)).Nodup) (nt : (S.tp.map (·.1)).Nodup) (h : Dur K H r S') : Dur K H r S := by
  obtain ⟨ys, zs, h1, h2, h3, h4, h5⟩ := h
  refine ⟨ys, zs, h1.trans (g.fl.map _), h2, h3.trans (g.tp.map _), h4, ?_⟩
  have e1 : durF S = durF S' := funext fun y => by unfold durF; rw [lk_perm g.fl.symm nf]
  have e2 : durT S = durT S' := funext fun y => by unfold durT; rw [lk_perm g.tp.symm nt]
  have e : durD S ys zs = durD S' ys zs := by unfold durD; rw [e1, e2, g.at_, g.lg, g.nw]
  rw [e]
  exact h5
theorem e_neDur {K : PySem.W.Frag} {H : Hp} {Q : VK} {a b : Addr} {S : S0} (h1 : Dur K H a S) (h2 : Dur K H b S) (q : Q (.bl false) H) : rNeP K (.ref a) (.ref b) H Q := by
  obtain ⟨ys, zs, p1, q1, p2, q2, d1⟩ := h1
  obtain ⟨ys', zs', p3, q3, p4, q4, d2⟩ := h2
  have e1 := sorted_one (p3.trans p1.symm) q3 q1
  have e2 := sorted_one (p4.trans p2.symm) q4 q2
  subst e1 e2
  exact ⟨_, _, d1, d2, durD_plain .., durD_plain .., durD_depth .., by rw [eqv_self _ (durD_plain ..)]; exact q⟩
def sp_from_durable (K : PySem.W.Frag) : Sp := sp1 fun x H Q => ∃ (r : Addr) (D : List Addr) (S : S0), x = .ref r ∧ Al D H ∧ Dur K H r S ∧ (S.fl.map (·.1)).Nodup ∧ (S.tp.map (·.1)).Nodup ∧ S.fl.length ≤ 100 ∧ S.tp.length ≤ 100 ∧ S.at_.length ≤ 1000 ∧
  ∀ (a : Addr) (F : List Addr) (H' : Hp) (S' : S0), Same H H' → (∀ b ∈ F, H b = none) → Again S S' → Sto K (hid D H') F a S' → Q (.ref a) H'
theorem inV_ints (x : Int) (ys : List Int) : inV (.int x) (ys.map V.int) = decide (x ∈ ys) := by
  unfold inV
  refine Bool.eq_iff_iff.mpr ?_
  rw [List.any_eq_true, decide_eq_true_eq]
  constructor
  · rintro ⟨v, hv, e⟩
    obtain ⟨y, hy, rfl⟩ := List.mem_map.mp hv
    have e2 : y = x := by simpa [eqV] using e
    rw [← e2]; exact hy
  · intro h
    exact ⟨.int x, List.mem_map.mpr ⟨x, h, rfl⟩, by simp [eqV]⟩
theorem flat_ints (ys : List Int) : (ys.map V.int).all flatV = true := List.all_eq_true.mpr fun v hv => by
  obtain ⟨y, _, rfl⟩ := List.mem_map.mp hv
  rfl
theorem e_ninL {K : PySem.W.Frag} {H : Hp} {Q : VK} {p : Addr} {x : Int} {ys : List Int} (h : SqL K H p (ys.map V.int)) (q : Q (.bl (!decide (x ∈ ys))) H) : rIn K true (.int x) (.ref p) H Q :=
  ⟨p, _, rfl, .inl h, rfl, flat_ints _, by rw [if_pos rfl, inV_ints]; exact q⟩
theorem dp_li {K : PySem.W.Frag} {H : Hp} {a : Addr} {xs : List Int} (h : SqL K H a (xs.map V.int)) : Dp K H (.ref a) (.list (Di xs)) := .lst h (dpAll_ints xs)
theorem e_eqPL {K : PySem.W.Frag} {H : Hp} {Q : VK} {a b : Addr} {xs ys : List Int} (h1 : SqL K H a (xs.map V.int)) (h2 : SqL K H b (ys.map V.int)) (q : Q (.bl (decide (xs = ys))) H) : rEqP K (.ref a) (.ref b) H Q :=
  e_eqPV (dp_li h1) (dp_li h2) (by simp [PyData.plain, plain_ints]) (by simp [PyData.plain, plain_ints]) (by
    show PyData.depthAll (Di xs) + 1 ≤ 60
    rw [Vf.depthAll_ints]; decide) (eqvAll_ints xs ys) q
theorem e_nePL {K : PySem.W.Frag} {H : Hp} {Q : VK} {a b : Addr} {xs ys : List Int} (h1 : SqL K H a (xs.map V.int)) (h2 : SqL K H b (ys.map V.int)) (q : Q (.bl (!decide (xs = ys))) H) : rNeP K (.ref a) (.ref b) H Q :=
  e_nePV (dp_li h1) (dp_li h2) (by simp [PyData.plain, plain_ints]) (by simp [PyData.plain, plain_ints]) (by
    show PyData.depthAll (Di xs) + 1 ≤ 60
    rw [Vf.depthAll_ints]; decide) (eqvAll_ints xs ys) q
theorem e_cat {H : Hp} {Q : VK} {a b : Addr} {xs ys : List V} (h1 : H a = some (.lst xs)) (h2 : H b = some (.lst ys)) (hn : xs.length + ys.length ≤ 100000) (q : ∀ p, H p = none → Q (.ref p) (upd H p (.lst (xs ++ ys)))) : rCat (.ref a) (.ref b) H Q :=
  ⟨a, b, xs, ys, rfl, rfl, h1, h2, Nat.le_trans hn (by decide), q⟩
/-! ### rows of blocks, and where a block is near -/
structure NRow where
  kd : Str
  wh : Key
  bl : List Int
def RowA (K : PySem.W.Frag) (H : Hp) (q : Addr) (r : NRow) : Prop := ∃ b, H q = some (.tup [.str r.kd, kV r.wh, .ref b]) ∧ SqT K H b (r.bl.map V.int)
theorem RowA.same {K : PySem.W.Frag} {H H' : Hp} {q : Addr} {r : NRow} (h : RowA K H q r) (s : Same H H') : RowA K H' q r := let ⟨b, h1, h2⟩ := h; ⟨b, s _ _ h1, same_tup s h2⟩
theorem RowA.fr {K : PySem.W.Frag} {D : List Addr} {H H' : Hp} {q : Addr} {r : NRow} (h : RowA K H q r) (f : Fr D H H') (n : ∀ d ∈ D, NT H d) : RowA K H' q r := let ⟨b, h1, h2⟩ := h; ⟨b, f _ _ (fun m => (n q m).1 _ h1) h1, sqT_fr h2 f n⟩
theorem RowA.hide {K : PySem.W.Frag} {D : List Addr} {H : Hp} {q : Addr} {r : NRow} (h : RowA K H q r) (n : ∀ d ∈ D, NT H d) : RowA K (hid D H) q r := let ⟨b, h1, h2⟩ := h; ⟨b, by rw [hid_at fun m => (n q m).1 _ h1]; exact h1, sqT_hid h2 n⟩
abbrev Rws (K : PySem.W.Frag) (H : Hp) (q : List Addr) (l : List NRow) : Prop := Paired (RowA K H) q l
def fRow (S : S0) (y : Str) : NRow := ⟨"file", .inr y, nums ((lk y S.fl).getD ([], 0)).1⟩
def aRow (S : S0) (i : Nat) : NRow := ⟨"attic", .inl i, nums (S.at_[i]?.getD ("", ([], []))).2.2⟩
def rowsOf (S : S0) (nm : Str) (bl : List Int) (c : Nat) (ys : List Str) : List NRow := ⟨"temp", .inr nm, bl.take c⟩ :: (ys.map (fRow S) ++ (List.range S.at_.length).map (aRow S))
abbrev Nr := List (Int × (Str × (Key × Nat)))
def nadd (kd : Str) (wh : Key) (m : Nr) (x : Int × Nat) : Nr := if x.1 ∈ m.map (·.1) then m else m ++ [(x.1, (kd, (wh, x.2)))]
def nrow (m : Nr) (r : NRow) : Nr := r.bl.zipIdx.foldl (nadd r.kd r.wh) m
def nearOf (rows : List NRow) : Nr := rows.foldl nrow []
def dci (w : List (Int × Addr)) : List (Key × V) := w.map fun x => (Sum.inl x.1, V.ref x.2)
def NearA (H : Hp) (q : Addr) (r : Str × (Key × Nat)) : Prop := H q = some (.tup [.str r.1, kV r.2.1, .int r.2.2])
abbrev Nrs (H : Hp) (w : List (Int × Addr)) (m : Nr) : Prop := Paired (fun x r => x.1 = r.1 ∧ NearA H x.2 r.2) w m
/-- the blocks that a begun file holds -/
def keptN : List Int → List Int → Nat
  | [], _ => 0
  | b :: bs, t => if t.take (bbytes b).length = bbytes b then keptN bs (t.drop (bbytes b).length) + 1 else 0
def keptS (S : S0) (nm : Str) (bl : List Int) : Nat := match lk nm S.tp with
  | none => 0
  | some t => keptN bl t
theorem kept_le : ∀ (bl t : List Int), keptN bl t ≤ bl.length
  | [], _ => Nat.le_refl 0
  | b :: bs, t => by
    unfold keptN
    split
    · have := kept_le bs (t.drop (bbytes b).length); rw [List.length_cons]; omega
    · exact Nat.zero_le _
theorem keptS_le (S : S0) (nm : Str) (bl : List Int) : keptS S nm bl ≤ bl.length := by
  unfold keptS
  split
  · exact Nat.zero_le _
  · exact kept_le _ _
def missOf (m : Nr) (bl : List Int) : List Int := bl.foldl (fun acc b => if b ∈ m.map (·.1) ∨ b ∈ acc then acc else acc ++ [b]) []
theorem cut_mid (xs : List Int) (i n : Nat) : cutV (xs.map V.int) (some (i : Int)) (some ((i : Int) + (n : Int))) = ((xs.drop i).take n).map V.int := by
  unfold cutV
  rw [show ((i : Int) + (n : Int)) = ((i + n : Nat) : Int) by omega, HT.sIx_nat, HT.sIx_nat, List.length_map, List.map_take, List.map_drop]
  by_cases h : i ≤ xs.length
  · rw [Nat.min_eq_left h]
    by_cases h2 : i + n ≤ xs.length
    · rw [Nat.min_eq_left h2, show i + n - i = n by omega]
    · rw [Nat.min_eq_right (by omega), List.take_of_length_le (by simp), List.take_of_length_le (by simp; omega)]
  · rw [Nat.min_eq_right (by omega), Nat.min_eq_right (by omega), List.drop_eq_nil_of_le (by simp), List.drop_eq_nil_of_le (by simp; omega)]
    simp
theorem val_dci {R : Addr → (Str × (Key × Nat)) → Prop} (b : Int) : ∀ {w : List (Int × Addr)} {m : Nr}, Paired (fun x r => x.1 = r.1 ∧ R x.2 r.2) w m →
    (valV (dci w) (Sum.inl b) = none ∧ b ∉ m.map (·.1)) ∨ ∃ q r, valV (dci w) (Sum.inl b) = some (.ref q) ∧ (b, r) ∈ m ∧ R q r ∧ b ∈ m.map (·.1)
  | _, _, .nil => .inl ⟨rfl, by simp⟩
  | x :: ws, r :: rs, .cons h t => by
    have e : valV (dci (x :: ws)) (Sum.inl b) = if x.1 = b then some (.ref x.2) else valV (dci ws) (Sum.inl b) := by
      unfold valV dci
      rw [List.map_cons, List.find?_cons]
      by_cases z : x.1 = b
      · rw [if_pos z, decide_eq_true (congrArg Sum.inl z)]; rfl
      · rw [if_neg z, decide_eq_false fun q => z (Sum.inl.inj q)]
    by_cases z : x.1 = b
    · refine .inr ⟨x.2, r.2, by rw [e, if_pos z], ?_, h.2, ?_⟩
      · rw [← z, h.1]; exact List.mem_cons_self ..
      · rw [← z, h.1]; exact List.mem_cons_self ..
    · rcases val_dci b t with ⟨h1, h2⟩ | ⟨q, s, h1, h2, h3, h4⟩
      · refine .inl ⟨by rw [e, if_neg z]; exact h1, ?_⟩
        rw [List.map_cons, List.mem_cons]
        rintro (q | q)
        · exact z (h.1.trans q.symm)
        · exact h2 q
      · exact .inr ⟨q, s, by rw [e, if_neg z]; exact h1, List.mem_cons_of_mem _ h2, h3, List.mem_cons_of_mem _ h4⟩
abbrev Srt (S : S0) (ys : List Str) : Prop := ys.Perm (S.fl.map (·.1)) ∧ PyProof.Rows.sortedS ys = true
/-- what is small -/
structure Smal (S : S0) (bl : List Int) : Prop where
  f : S.fl.length < 64
  fl : ∀ r ∈ S.fl, r.2.1.length ≤ 1000
  a : S.at_.length ≤ 100
  al : ∀ r ∈ S.at_, r.2.2.length ≤ 1000
  b : bl.length ≤ 1000
  bb : ∀ n ∈ bl, 0 < bsize n
  t : ∀ r ∈ S.tp, r.2.length ≤ 10000
def sp_kept_blocks (K : PySem.W.Frag) : Sp := sp2 fun x y H Q => ∃ (a ea : Addr) (F : List Addr) (S : S0) (p : Bool) (e : En), x = .ref a ∧ y = .ref ea ∧ Sto K H F a S ∧ Ent K H p ea e ∧ Smal S e.bl ∧ ∀ H', Same H H' → Q (.int (keptS S e.nm e.bl : Nat)) H'
def sp_near_rows (K : PySem.W.Frag) : Sp := sp2 fun x y H Q => ∃ (a ea : Addr) (F : List Addr) (S : S0) (p : Bool) (e : En), x = .ref a ∧ y = .ref ea ∧ Sto K H F a S ∧ Ent K H p ea e ∧ Smal S e.bl ∧
  ∀ (r : Addr) (qs : List Addr) (ys : List Str) (H' : Hp), Same H H' → H r = none → H' r = some (.lst (qs.map V.ref)) → Srt S ys → Rws K H' qs (rowsOf S e.nm e.bl (keptS S e.nm e.bl) ys) → Q (.ref r) H'
def sp_near_places (K : PySem.W.Frag) : Sp := sp2 fun x y H Q => ∃ (a ea : Addr) (F : List Addr) (S : S0) (p : Bool) (e : En), x = .ref a ∧ y = .ref ea ∧ Sto K H F a S ∧ Ent K H p ea e ∧ Smal S e.bl ∧
  ∀ (d : Addr) (w : List (Int × Addr)) (ys : List Str) (H' : Hp), Same H H' → H d = none → H' d = some (.dK (dci w)) → Srt S ys → Nrs H' w (nearOf (rowsOf S e.nm e.bl (keptS S e.nm e.bl) ys)) → Q (.ref d) H'
def sp_missing (K : PySem.W.Frag) : Sp := sp2 fun x y H Q => ∃ (a ea : Addr) (F : List Addr) (S : S0) (p : Bool) (e : En), x = .ref a ∧ y = .ref ea ∧ Sto K H F a S ∧ Ent K H p ea e ∧ Smal S e.bl ∧
  ∀ (r : Addr) (ys : List Str) (H' : Hp), Same H H' → H r = none → Srt S ys → H' r = some (.lst ((missOf (nearOf (rowsOf S e.nm e.bl (keptS S e.nm e.bl) ys)) (e.bl.drop (keptS S e.nm e.bl))).map V.int)) → Q (.ref r) H'
theorem keptN_c (b : Int) (bs t : List Int) : keptN (b :: bs) t = if t.take (bbytes b).length = bbytes b then keptN bs (t.drop (bbytes b).length) + 1 else 0 := by rw [keptN]
theorem cut_to (xs : List Int) (c : Nat) : cutV (xs.map V.int) none (some (c : Int)) = (xs.take c).map V.int := by
  have h := cut_mid xs 0 c
  rw [show ((0 : Nat) : Int) + (c : Int) = (c : Int) by omega, List.drop_zero] at h
  rw [← h]
  unfold cutV
  rw [HT.sIx_nat, HT.sIx_nat, show HT.sIx (xs.map V.int).length 0 none = 0 from rfl]
  simp
theorem cut_from (xs : List Int) (c : Nat) : cutV (xs.map V.int) (some (c : Int)) none = (xs.drop c).map V.int := by
  have h := cut_mid xs c xs.length
  rw [List.take_of_length_le (by simp)] at h
  rw [← h]
  unfold cutV
  rw [show ((c : Int) + (xs.length : Int)) = ((c + xs.length : Nat) : Int) by omega, HT.sIx_nat, HT.sIx_nat, List.length_map, Nat.min_eq_right (by omega : xs.length ≤ c + xs.length), show HT.sIx xs.length xs.length none = xs.length from rfl]
theorem nadd_len (kd : Str) (wh : Key) : ∀ (l : List (Int × Nat)) (m : Nr), (l.foldl (nadd kd wh) m).length ≤ m.length + l.length
  | [], _ => Nat.le_refl _
  | x :: l, m => by
    have h := nadd_len kd wh l (nadd kd wh m x)
    have h2 : (nadd kd wh m x).length ≤ m.length + 1 := by
      unfold nadd
      split
      · omega
      · simp
    rw [List.foldl_cons, List.length_cons]
    omega
theorem near_len : ∀ (rows : List NRow) (m : Nr), (∀ r ∈ rows, r.bl.length ≤ 1000) → (rows.foldl nrow m).length ≤ m.length + 1000 * rows.length
  | [], _, _ => Nat.le_refl _
  | r :: rows, m, h => by
    have h1 := near_len rows (nrow m r) fun x hx => h x (List.mem_cons_of_mem _ hx)
    have h2 := nadd_len r.kd r.wh r.bl.zipIdx m
    have h3 := h r (List.mem_cons_self ..)
    rw [List.length_zipIdx] at h2
    rw [List.foldl_cons, List.length_cons]
    have h4 : (nrow m r).length ≤ m.length + r.bl.length := h2
    omega
theorem nums_le {xs : List Int} (h : xs.length ≤ 1000) : (nums xs).length ≤ 1000 := by rw [nums_len]; omega
theorem rows_ok {S : S0} {bl : List Int} {ys : List Str} (hm : Smal S bl) (hp : ys.Perm (S.fl.map (·.1))) (nm : Str) (c : Nat) : (∀ r ∈ rowsOf S nm bl c ys, r.bl.length ≤ 1000) ∧ (rowsOf S nm bl c ys).length ≤ 200 := by
  have yl : ys.length < 64 := by rw [hp.length_eq, List.length_map]; exact hm.f
  have ha := hm.a
  have hb := hm.b
  unfold rowsOf
  refine ⟨fun r h => ?_, by simp; omega⟩
  rcases List.mem_cons.mp h with rfl | h
  · rw [List.length_take]; omega
  rcases List.mem_append.mp h with h | h
  · obtain ⟨y, _, rfl⟩ := List.mem_map.mp h
    refine nums_le ?_
    cases e : lk y S.fl with
    | none => simp
    | some r =>
      have hy : y ∈ S.fl.map (·.1) := Decidable.byContradiction fun n => by rw [lk_none n] at e; cases e
      obtain ⟨r2, e2, m2⟩ := lk_mem hy
      rw [e] at e2
      cases e2
      exact hm.fl _ m2
  · obtain ⟨i, _, rfl⟩ := List.mem_map.mp h
    refine nums_le ?_
    cases e : S.at_[i]? with
    | none => simp
    | some r => exact hm.al _ (List.mem_of_getElem? e)
def names6 : List Str := ["a", "b", "a/b", "Z9", "c", "longer/names/are/here/abcdefghijklmnopqr"]
def sp_law_name (K : PySem.W.Frag) : Sp := sp2 fun x y H Q => ∃ (st sc : Addr) (ns : List Int), x = .ref st ∧ y = .ref sc ∧ Dr K st sc ns H ∧ ∀ (z : Str) (H' : Hp), Kp st H H' → Dr K st sc ns H' → z ∈ names6 → Q (.str z) H'
def sp_law_content (K : PySem.W.Frag) : Sp := sp3 fun x y z H Q => ∃ (st sc : Addr) (ns : List Int) (n : Nat), x = .ref st ∧ y = .ref sc ∧ z = .int n ∧ n ≤ 7 ∧ Dr K st sc ns H ∧
  ∀ (q : Addr) (xs : List Int) (H' : Hp), H q = none → Kp st H H' → Dr K st sc ns H' → H' q = some (.lst (xs.map V.int)) → isB xs → xs.length ≤ 4 * n → Q (.ref q) H'
def sp_law_blocks (K : PySem.W.Frag) : Sp := sp1 fun x H Q => ∃ (p : Addr) (xs : List Int), x = .ref p ∧ SqL K H p (xs.map V.int) ∧ xs.length ≤ 1000 ∧ ∀ (q : Addr) (H' : Hp), H q = none → Same H H' → H' q = some (.tup ((nums xs).map V.int)) → Q (.ref q) H'
def sp_law_bytes (K : PySem.W.Frag) : Sp := sp1 fun x H Q => ∃ (p : Addr) (cs : List (List Int)), x = .ref p ∧ SqL K H p ((cs.map bnum).map V.int) ∧ (∀ c ∈ cs, Piece c) ∧ cs.length ≤ 1000 ∧ ∀ (q : Addr) (H' : Hp), H q = none → Same H H' → H' q = some (.lst (cs.flatten.map V.int)) → Q (.ref q) H'
theorem bnum_snoc (d : List Int) (x : Int) : bnum (d ++ [x]) = bnum d * 256 + x := by
  unfold bnum
  rw [List.foldl_append]
  rfl
theorem snoc_cases (l : List Int) : l = [] ∨ ∃ d x, l = d ++ [x] := by
  cases e : l.reverse with
  | nil => exact .inl (List.reverse_eq_nil_iff.mp e)
  | cons x r =>
    refine .inr ⟨r.reverse, x, ?_⟩
    have := congrArg List.reverse e
    rw [List.reverse_reverse, List.reverse_cons] at this
    exact this
theorem bnum_ge : ∀ (n : Nat) (c : List Int), c.length = n → isB c → 1 ≤ bnum c
  | 0, c, h, _ => by
    rw [List.length_eq_zero_iff.mp h]
    decide
  | n + 1, c, h, hb => by
    rcases snoc_cases c with rfl | ⟨d, x, rfl⟩
    · cases h
    · have h1 := bnum_ge n d (by rw [List.length_append] at h; simpa using h) fun b m => hb b (List.mem_append_left _ m)
      have h2 := hb x (by simp)
      rw [bnum_snoc]
      omega
theorem kp_fr {st : Addr} {H H' : Hp} (k : Kp st H H') : Fr [st] H H' := fun x o n e => k x o (fun z => n (List.mem_singleton.mpr z)) e
theorem dr_nt {K : PySem.W.Frag} {st sc : Addr} {ns : List Int} {H : Hp} (d : Dr K st sc ns H) : ∀ a ∈ [st], NT H a := fun a m => by
  obtain ⟨x, y, _, _, e⟩ := d.s
  rw [List.mem_singleton.mp m]
  exact nt_lst e
theorem sqT_kp {K : PySem.W.Frag} {st sc p : Addr} {ns : List Int} {xs : List V} {H H' : Hp} (h : SqT K H p xs) (d : Dr K st sc ns H) (k : Kp st H H') : SqT K H' p xs := sqT_fr h (kp_fr k) (dr_nt d)
theorem dr_free {K : PySem.W.Frag} {st sc p : Addr} {ns : List Int} {H H' : Hp} (d : Dr K st sc ns H') (k : Kp st H H') (h : H' p = none) : H p = none := by
  obtain ⟨x, y, _, _, e⟩ := d.s
  exact k.free ⟨_, e⟩ h
theorem ints_of : ∀ (us : List V), (∀ u ∈ us, ∃ n, u = .int n) → ∃ qs : List Int, us = qs.map V.int
  | [], _ => ⟨[], rfl⟩
  | u :: us, h => by
    obtain ⟨q, e⟩ := h u (List.mem_cons_self ..)
    obtain ⟨qs, e2⟩ := ints_of us fun x m => h x (List.mem_cons_of_mem _ m)
    exact ⟨q :: qs, by rw [e, e2]; rfl⟩
theorem flat4 : ∀ (l : List (List Int)), (∀ c ∈ l, c.length ≤ 4) → l.flatten.length ≤ 4 * l.length
  | [], _ => Nat.le_refl _
  | c :: l, h => by
    have h1 := flat4 l fun x m => h x (List.mem_cons_of_mem _ m)
    have h2 := h c (List.mem_cons_self ..)
    rw [List.flatten_cons, List.length_append, List.length_cons]
    omega
theorem nadd_keys (kd : Str) (wh : Key) (x : Int) : ∀ (l : List (Int × Nat)) (m : Nr), x ∈ (l.foldl (nadd kd wh) m).map (·.1) ↔ x ∈ m.map (·.1) ∨ x ∈ l.map (·.1)
  | [], m => by simp
  | y :: l, m => by
    rw [List.foldl_cons, nadd_keys kd wh x l, List.map_cons, List.mem_cons]
    have h : x ∈ (nadd kd wh m y).map (·.1) ↔ x ∈ m.map (·.1) ∨ x = y.1 := by
      unfold nadd
      by_cases z : y.1 ∈ m.map (·.1)
      · rw [if_pos z]
        exact ⟨.inl, fun q => q.elim id fun e => by rw [e]; exact z⟩
      · rw [if_neg z, List.map_append, List.mem_append]
        exact ⟨fun q => q.imp id fun w => List.mem_singleton.mp w, fun q => q.imp id fun w => List.mem_singleton.mpr w⟩
    rw [h, or_assoc]
theorem near_keys (x : Int) : ∀ (rows : List NRow) (m : Nr), x ∈ (rows.foldl nrow m).map (·.1) ↔ x ∈ m.map (·.1) ∨ ∃ r ∈ rows, x ∈ r.bl
  | [], m => by simp
  | r :: rows, m => by
    rw [List.foldl_cons, near_keys x rows]
    have h : x ∈ (nrow m r).map (·.1) ↔ x ∈ m.map (·.1) ∨ x ∈ r.bl := by
      unfold nrow
      rw [nadd_keys, List.zipIdx_map_fst]
    rw [h, or_assoc]
    simp
theorem lk_of {β : Type} : ∀ {l : List (Str × β)}, (l.map (·.1)).Nodup → ∀ r ∈ l, lk r.1 l = some r.2
  | x :: l, n, r, h => by
    rw [List.map_cons, List.nodup_cons] at n
    show (if x.1 = r.1 then some x.2 else lk r.1 l) = _
    rcases List.mem_cons.mp h with rfl | h
    · rw [if_pos rfl]
    · rw [if_neg fun e => n.1 (by rw [e]; exact List.mem_map.mpr ⟨r, h, rfl⟩)]
      exact lk_of n.2 r h
theorem drFr {K : PySem.W.Frag} {H0 H H' : Hp} {st sc : Addr} {ns : List Int} {S : List Addr} (d0 : Dr K st sc ns H0) (k : Kp st H0 H) (d : Dr K st sc ns H) (f : Fr S H H') (b : ∀ x ∈ S, H0 x = none) : Kp st H0 H' ∧ Dr K st sc ns H' := by
  have k' : Kp st H0 H' := fun x o n e => f x o (fun m => by rw [b x m] at e; cases e) (k x o n e)
  refine ⟨k', d0.kp k' ?_⟩
  obtain ⟨x, y, hx, hy, e⟩ := d.s
  refine ⟨x, y, hx, hy, f _ _ (fun m => ?_) e⟩
  obtain ⟨u, v, _, _, e0⟩ := d0.s
  rw [b st m] at e0
  cases e0
theorem kp_same {st : Addr} {H H' : Hp} (k : Kp st H H') : Same (hid [st] H) (hid [st] H') := hid_fr (kp_fr k)
theorem Ent.hide {K : PySem.W.Frag} {D : List Addr} {H : Hp} {a : Addr} {e : En} (h : Ent K H false a e) (n : ∀ d ∈ D, NT H d) (n2 : ∀ d ∈ D, ∃ xs, H d = some (.lst xs)) : Ent K (hid D H) false a e := by
  obtain ⟨dx, v, m, b, fs, h1, h2, h3, h4, h5⟩ := h
  exact ⟨dx, v, m, b, fs, by rw [hid_at fun z => by obtain ⟨xs, q⟩ := n2 _ z; rw [h1] at q; cases q]; exact h1, h2, ⟨vec_hid h3.1 n, fun z => nomatch z⟩, sqT_hid h4 n, sqT_hid h5 n⟩
theorem ap1_fold (nm : Str) : ∀ (bs acc : List Int), bs.foldl (ap1 nm) [(nm, acc)] = [(nm, acc ++ bs)]
  | [], acc => by simp
  | b :: bs, acc => by
    have e : ap1 nm [(nm, acc)] b = [(nm, acc ++ [b])] := by
      have : lk nm [(nm, acc)] = some acc := by unfold lk; rw [if_pos rfl]
      unfold ap1
      rw [this]
      unfold fput
      simp
    rw [List.foldl_cons, e, ap1_fold nm bs]
    simp
theorem app_tp (nm : Str) (bs : List Int) : bs.foldl (ap1 nm) [] = if bs = [] then [] else [(nm, bs)] := by
  cases bs with
  | nil => rfl
  | cons b bs =>
    rw [List.foldl_cons, if_neg (by simp)]
    have e : ap1 nm [] b = [(nm, [b])] := rfl
    rw [e, ap1_fold]
    rfl
def sp_joined (K : PySem.W.Frag) : Sp := sp1 fun a H Q => ∃ (p : Addr) (ns : List Int), a = .ref p ∧ SqT K H p (ns.map V.int) ∧ ns.length ≤ 20000 ∧ (∀ n ∈ ns, 0 < bsize n) ∧ ∀ (q : Addr) (H' : Hp), H q = none → Same H H' → H' q = some (.lst ((ns.flatMap bbytes).map V.int)) → Q (.ref q) H'
/-! ### what is near, what must come -/
theorem near_iff {S : S0} {nm : Str} {bl : List Int} {c : Nat} {ys : List Str} (hp : ys.Perm (S.fl.map (·.1))) (hn : (S.fl.map (·.1)).Nodup) (x : Int) :
    x ∈ (nearOf (rowsOf S nm bl c ys)).map (·.1) ↔ x ∈ bl.take c ∨ (∃ r ∈ S.fl, x ∈ nums r.2.1) ∨ ∃ r ∈ S.at_, x ∈ nums r.2.2 := by
  unfold nearOf
  rw [near_keys]
  have e : (∃ r ∈ rowsOf S nm bl c ys, x ∈ r.bl) ↔ x ∈ bl.take c ∨ (∃ r ∈ S.fl, x ∈ nums r.2.1) ∨ ∃ r ∈ S.at_, x ∈ nums r.2.2 := by
    unfold rowsOf
    constructor
    · rintro ⟨r, h, hx⟩
      rcases List.mem_cons.mp h with rfl | h
      · exact .inl hx
      rcases List.mem_append.mp h with h | h
      · obtain ⟨y, hy, rfl⟩ := List.mem_map.mp h
        obtain ⟨z, hz, m⟩ := lk_mem (hp.mem_iff.mp hy)
        refine .inr (.inl ⟨_, m, ?_⟩)
        have hx : x ∈ nums ((lk y S.fl).getD ([], 0)).1 := hx
        rw [hz] at hx
        exact hx
      · obtain ⟨i, hi, rfl⟩ := List.mem_map.mp h
        have hi2 := List.getElem?_eq_getElem (List.mem_range.mp hi)
        have hx : x ∈ nums (S.at_[i]?.getD ("", ([], []))).2.2 := hx
        rw [hi2] at hx
        exact .inr (.inr ⟨_, List.getElem_mem _, hx⟩)
    · rintro (h | ⟨r, hr, hx⟩ | ⟨r, hr, hx⟩)
      · exact ⟨_, List.mem_cons_self .., h⟩
      · refine ⟨fRow S r.1, List.mem_cons_of_mem _ (List.mem_append_left _ (List.mem_map.mpr ⟨r.1, hp.mem_iff.mpr (List.mem_map.mpr ⟨r, hr, rfl⟩), rfl⟩)), ?_⟩
        show x ∈ nums ((lk r.1 S.fl).getD ([], 0)).1
        rw [lk_of hn r hr]
        exact hx
      · obtain ⟨i, hi⟩ := List.getElem?_of_mem hr
        have hi2 := (List.getElem?_eq_some_iff.mp hi).1
        refine ⟨aRow S i, List.mem_cons_of_mem _ (List.mem_append_right _ (List.mem_map.mpr ⟨i, List.mem_range.mpr hi2, rfl⟩)), ?_⟩
        show x ∈ nums (S.at_[i]?.getD ("", ([], []))).2.2
        rw [hi]
        exact hx
  rw [e]
  simp
def kbOf (S : S0) : List Int := S.fl.flatMap (fun r => nums r.2.1) ++ S.at_.flatMap (fun r => nums r.2.2)
theorem near_base {S : S0} {nm : Str} {bl : List Int} {c : Nat} {ys : List Str} (hp : ys.Perm (S.fl.map (·.1))) (hn : (S.fl.map (·.1)).Nodup) (x : Int) :
    x ∈ (nearOf (rowsOf S nm bl c ys)).map (·.1) ↔ x ∈ bl.take c ∨ x ∈ kbOf S := by
  rw [near_iff hp hn]
  unfold kbOf
  rw [List.mem_append, List.mem_flatMap, List.mem_flatMap]
/-- what must come, from here on -/
def need (kb : List Int) : List Int → List Int → List Int
  | _, [] => []
  | pre, x :: post => if x ∈ pre ∨ x ∈ kb then need kb (pre ++ [x]) post else x :: need kb (pre ++ [x]) post
theorem need_congr {kb kb' : List Int} (hk : ∀ x, x ∈ kb ↔ x ∈ kb') : ∀ {l pre pre' : List Int}, (∀ x, x ∈ pre ↔ x ∈ pre') → need kb pre l = need kb' pre' l
  | [], _, _, _ => rfl
  | x :: l, pre, pre', h => by
    have e := need_congr hk (l := l) (pre := pre ++ [x]) (pre' := pre' ++ [x]) fun y => by rw [List.mem_append, List.mem_append, h y]
    unfold need
    rw [e]
    by_cases z : x ∈ pre ∨ x ∈ kb
    · rw [if_pos z, if_pos (z.imp (h x).mp (hk x).mp)]
    · rw [if_neg z, if_neg fun q => z (q.imp (h x).mpr (hk x).mpr)]
theorem need_out {kb : List Int} : ∀ {l pre : List Int}, ∀ y ∈ need kb pre l, y ∉ pre
  | [], _, y, h => by cases h
  | x :: l, pre, y, h => by
    unfold need at h
    by_cases z : x ∈ pre ∨ x ∈ kb
    · rw [if_pos z] at h
      exact fun m => need_out y h (List.mem_append_left _ m)
    · rw [if_neg z] at h
      rcases List.mem_cons.mp h with rfl | h
      · exact fun m => z (.inl m)
      · exact fun m => need_out y h (List.mem_append_left _ m)
theorem need_nodup {kb : List Int} : ∀ {l pre : List Int}, (need kb pre l).Nodup
  | [], _ => List.nodup_nil
  | x :: l, pre => by
    unfold need
    by_cases z : x ∈ pre ∨ x ∈ kb
    · rw [if_pos z]; exact need_nodup
    · rw [if_neg z, List.nodup_cons]
      exact ⟨fun m => need_out x m (by simp), need_nodup⟩
theorem miss_need {m : Nr} {kb : List Int} : ∀ {l pre acc : List Int}, (∀ x, x ∈ m.map (·.1) ∨ x ∈ acc ↔ x ∈ pre ∨ x ∈ kb) →
    l.foldl (fun acc b => if b ∈ m.map (·.1) ∨ b ∈ acc then acc else acc ++ [b]) acc = acc ++ need kb pre l
  | [], _, acc, _ => by simp [need]
  | x :: l, pre, acc, h => by
    rw [List.foldl_cons]
    unfold need
    by_cases z : x ∈ pre ∨ x ∈ kb
    · rw [if_pos z, if_pos ((h x).mpr z)]
      refine miss_need fun y => ?_
      rw [h y, List.mem_append, List.mem_singleton]
      constructor
      · rintro (q | q)
        · exact .inl (.inl q)
        · exact .inr q
      · rintro ((q | rfl) | q)
        · exact .inl q
        · exact z
        · exact .inr q
    · rw [if_neg z, if_neg fun q => z ((h x).mp q)]
      rw [miss_need (pre := pre ++ [x]) (kb := kb) (fun y => ?_), List.append_assoc, List.singleton_append]
      rw [List.mem_append, List.mem_append, List.mem_singleton, ← or_assoc, h y]
      constructor
      · rintro ((q | q) | q)
        · exact .inl (.inl q)
        · exact .inr q
        · exact .inl (.inr q)
      · rintro ((q | q) | q)
        · exact .inl (.inl q)
        · exact .inr q
        · exact .inl (.inr q)
def Dk (S : S0) (bl : List Int) (c : Nat) : List Int := need (kbOf S) (bl.take c) (bl.drop c)
theorem miss_Dk {S : S0} {nm : Str} {bl : List Int} {c : Nat} {ys : List Str} (hp : ys.Perm (S.fl.map (·.1))) (hn : (S.fl.map (·.1)).Nodup) : missOf (nearOf (rowsOf S nm bl c ys)) (bl.drop c) = Dk S bl c := by
  unfold missOf Dk
  rw [miss_need (kb := kbOf S) (pre := bl.take c) fun x => by rw [near_base hp hn]; simp]
  rfl
theorem drop_at {bl : List Int} {c : Nat} {x : Int} (h : bl[c]? = some x) : bl.drop c = x :: bl.drop (c + 1) := by
  obtain ⟨h1, h2⟩ := List.getElem?_eq_some_iff.mp h
  rw [List.drop_eq_getElem_cons h1, h2]
theorem take_at {bl : List Int} {c : Nat} {x : Int} (h : bl[c]? = some x) : bl.take (c + 1) = bl.take c ++ [x] := by
  rw [List.take_add_one, h]; rfl
theorem Dk_in {S : S0} {bl : List Int} {c : Nat} {x : Int} (h : bl[c]? = some x) (z : x ∈ bl.take c ∨ x ∈ kbOf S) : Dk S bl c = Dk S bl (c + 1) := by
  unfold Dk
  rw [drop_at h, take_at h, need, if_pos z]
theorem Dk_new {S : S0} {bl : List Int} {c : Nat} {x : Int} (h : bl[c]? = some x) (z : ¬ (x ∈ bl.take c ∨ x ∈ kbOf S)) : Dk S bl c = x :: Dk S bl (c + 1) := by
  unfold Dk
  rw [drop_at h, take_at h, need, if_neg z]
theorem Dk_end {S : S0} {bl : List Int} : Dk S bl bl.length = [] := by
  unfold Dk
  rw [List.drop_length, need]
theorem Dk_len {S : S0} {bl : List Int} {c : Nat} : ∀ {l pre : List Int}, (need (kbOf S) pre l).length ≤ l.length
  | [], _ => Nat.le_refl _
  | x :: l, pre => by
    have := Dk_len (S := S) (bl := bl) (c := c) (l := l) (pre := pre ++ [x])
    unfold need
    split
    · rw [List.length_cons]; omega
    · rw [List.length_cons, List.length_cons]; omega
/-! ### the begun file -/
def tpl (nm : Str) : Option (List Int) → List (Str × List Int)
  | none => []
  | some t => [(nm, t)]
theorem lk_tpl {nm : Str} {o : Option (List Int)} : lk nm (tpl nm o) = o := by
  cases o with
  | none => rfl
  | some t => unfold tpl lk; rw [if_pos rfl]
theorem apt_tpl {nm : Str} {o : Option (List Int)} (bs : List Int) : ∃ o', bs.foldl (ap1 nm) (tpl nm o) = tpl nm o' ∧ o'.getD [] = o.getD [] ++ bs := by
  cases o with
  | none =>
    show ∃ o', bs.foldl (ap1 nm) [] = _ ∧ _
    rw [app_tp]
    by_cases h : bs = []
    · rw [if_pos h]; exact ⟨none, rfl, by rw [h]; rfl⟩
    · rw [if_neg h]; exact ⟨some bs, rfl, by simp⟩
  | some t => exact ⟨some (t ++ bs), ap1_fold nm bs t, rfl⟩
theorem bpos {n : Int} (h : 0 < bsize n) : 0 < (bbytes n).length := by rw [bbytes_length h]; omega
theorem kept_run : ∀ (c : Nat) (bl r : List Int), c ≤ bl.length → keptN bl ((bl.take c).flatMap bbytes ++ r) = c + keptN (bl.drop c) r
  | 0, bl, r, _ => by simp
  | c + 1, [], r, h => by simp at h
  | c + 1, b :: bl, r, h => by
    rw [List.take_succ_cons, List.flatMap_cons, List.append_assoc, keptN_c, if_pos (by rw [List.take_left' rfl]), List.drop_left' rfl, kept_run c bl r (by simpa using h), List.drop_succ_cons]
    omega
theorem kept_none {bl r : List Int} (h : ∀ x post, bl = x :: post → r.length < (bbytes x).length) : keptN bl r = 0 := by
  cases bl with
  | nil => rfl
  | cons b bs =>
    rw [keptN_c, if_neg fun z => ?_]
    have h1 := congrArg List.length z
    have h2 := h b bs rfl
    rw [List.length_take] at h1
    omega
theorem kept_at {S : S0} {nm : Str} {bl : List Int} {o : Option (List Int)} {c : Nat} {part : List Int} (hb : ∀ n ∈ bl, 0 < bsize n) (hc : c ≤ bl.length) (e : S.tp = tpl nm o) (g : o.getD [] = (bl.take c).flatMap bbytes ++ part)
    (hp : ∀ x post, bl.drop c = x :: post → part.length < (bbytes x).length) : keptS S nm bl = c := by
  unfold keptS
  rw [e, lk_tpl]
  cases o with
  | none =>
    show 0 = c
    cases c with
    | zero => rfl
    | succ c =>
      cases bl with
      | nil => simp at hc
      | cons b bs =>
        have h1 := congrArg List.length g
        have h2 := bpos (hb b (List.mem_cons_self ..))
        rw [List.take_succ_cons, List.flatMap_cons] at h1
        simp at h1
        omega
  | some t =>
    show keptN bl t = c
    have g : t = _ := g
    rw [g, kept_run c bl part hc, kept_none hp]
    rfl
/-- the begun file is just the first c blocks -/
structure Cl (nm : Str) (bl : List Int) (S : S0) (c : Nat) : Prop where
  le : c ≤ bl.length
  tp : ∃ o, S.tp = tpl nm o ∧ o.getD [] = (bl.take c).flatMap bbytes
theorem Cl.kept {nm : Str} {bl : List Int} {S : S0} {c : Nat} (h : Cl nm bl S c) (hb : ∀ n ∈ bl, 0 < bsize n) : keptS S nm bl = c := by
  obtain ⟨o, e, g⟩ := h.tp
  refine kept_at (part := []) hb h.le e (by rw [g, List.append_nil]) fun x post z => ?_
  exact bpos (hb x (List.mem_of_mem_drop (by rw [z]; exact List.mem_cons_self ..)))
/-- the begun file is of this name -/
def Tp1 (nm : Str) (S : S0) : Prop := ∃ o, S.tp = tpl nm o ∧ (o.getD []).length ≤ 8000
theorem Cl.tp1 {nm : Str} {bl : List Int} {S : S0} {c : Nat} (h : Cl nm bl S c) (hb : bl.length ≤ 1000) : Tp1 nm S := by
  obtain ⟨o, e, g⟩ := h.tp
  refine ⟨o, e, ?_⟩
  have h1 := flat_len (bl.take c)
  rw [List.length_take] at h1
  rw [g]
  omega
theorem Tp1.len {nm : Str} {S : S0} (h : Tp1 nm S) : S.tp.length ≤ 1 ∧ ∀ r ∈ S.tp, r.2.length ≤ 8000 := by
  obtain ⟨o, e, g⟩ := h
  rw [e]
  cases o with
  | none => exact ⟨by simp [tpl], fun r m => by cases m⟩
  | some t => exact ⟨by simp [tpl], fun r m => by rw [List.mem_singleton.mp m]; exact g⟩
/-- what one call of a pull may change -/
structure Wk (S S' : S0) : Prop where
  fl : S'.fl = S.fl
  at_ : S'.at_ = S.at_
  lg : S'.lg = S.lg
  nw : S'.nw = S.nw
  bd : S.bd = none → S'.bd = none
theorem Wk.refl (S : S0) : Wk S S := ⟨rfl, rfl, rfl, rfl, fun h => h⟩
theorem Wk.trans {S S' S'' : S0} (h : Wk S S') (g : Wk S' S'') : Wk S S'' := ⟨g.fl.trans h.fl, g.at_.trans h.at_, g.lg.trans h.lg, g.nw.trans h.nw, fun z => g.bd (h.bd z)⟩
theorem Wk.base {S S' : S0} (h : Wk S S') : kbOf S' = kbOf S := by unfold kbOf; rw [h.fl, h.at_]
theorem Wk.Dk {S S' : S0} (h : Wk S S') (bl : List Int) (c : Nat) : Dk S' bl c = Dk S bl c := by unfold Vk26.Dk; rw [h.base]
theorem Wk.smal {S S' : S0} {nm : Str} {bl : List Int} (h : Wk S S') (m : Smal S bl) (t : Tp1 nm S') : Smal S' bl :=
  ⟨by rw [h.fl]; exact m.f, by rw [h.fl]; exact m.fl, by rw [h.at_]; exact m.a, by rw [h.at_]; exact m.al, m.b, m.bb, fun r hr => Nat.le_trans (t.len.2 r hr) (by decide)⟩
theorem Wk.apt (S : S0) (nm : Str) (bs : List Int) (j : Nat) : Wk S (S.apt nm bs j) := ⟨rfl, rfl, rfl, rfl, fun h => by show S.bd.map _ = none; rw [h]; rfl⟩
/-- one block more -/
theorem Cl.next {nm : Str} {bl : List Int} {S : S0} {c : Nat} {x : Int} (h : Cl nm bl S c) (hx : bl[c]? = some x) : Cl nm bl (S.apt nm (bbytes x) (bbytes x).length) (c + 1) := by
  obtain ⟨o, e, g⟩ := h.tp
  refine ⟨(List.getElem?_eq_some_iff.mp hx).1, ?_⟩
  obtain ⟨o', e', g'⟩ := apt_tpl (nm := nm) (o := o) (bbytes x)
  refine ⟨o', ?_, ?_⟩
  · show ((bbytes x).take (bbytes x).length).foldl (ap1 nm) S.tp = _
    rw [List.take_length, e, e']
  · rw [g', g, take_at hx, List.flatMap_append]
    simp
/-- a part of a block more -/
theorem Cl.part {nm : Str} {bl : List Int} {S : S0} {c k : Nat} {x : Int} (h : Cl nm bl S c) (hx : bl[c]? = some x) (hb : ∀ n ∈ bl, 0 < bsize n) (hl : bl.length ≤ 1000) (hk : k < (bbytes x).length) :
    keptS (S.apt nm (bbytes x) k) nm bl = c ∧ Tp1 nm (S.apt nm (bbytes x) k) := by
  obtain ⟨o, e, g⟩ := h.tp
  obtain ⟨o', e', g'⟩ := apt_tpl (nm := nm) (o := o) ((bbytes x).take k)
  have e2 : (S.apt nm (bbytes x) k).tp = tpl nm o' := by
    show ((bbytes x).take k).foldl (ap1 nm) S.tp = _
    rw [e, e']
  rw [g] at g'
  refine ⟨kept_at hb h.le e2 g' fun y post z => ?_, o', e2, ?_⟩
  · rw [drop_at hx] at z
    cases z
    rw [List.length_take]
    omega
  · have h1 := flat_len (bl.take c)
    have h2 := bbytes_len x
    rw [List.length_take] at h1
    rw [g', List.length_append, List.length_take]
    omega
/-! ### the pull at work -/
abbrev cPul (K : PySem.W.Frag) : Addr := He.ga K "Pull"
structure PT (K : PySem.W.Frag) : Prop where
  cl : Cls K (cPul K)
  n1 : NoAttr K (cPul K) "_store"
  n2 : NoAttr K (cPul K) "_entry"
def Pul (K : PySem.W.Frag) (H : Hp) (p a ea : Addr) : Prop := ∃ dx fs, H p = some (.ins (cPul K) dx fs) ∧ fs.lookup ("_store" : Str) = some (.ref a) ∧ fs.lookup ("_entry" : Str) = some (.ref ea) ∧ ∀ m : Str, m ∉ (["_store", "_entry"] : List Str) → fs.lookup m = none
theorem Pul.same {K : PySem.W.Frag} {H H' : Hp} {p a ea : Addr} (h : Pul K H p a ea) (s : Same H H') : Pul K H' p a ea := let ⟨dx, fs, h1, h2⟩ := h; ⟨dx, fs, s _ _ h1, h2⟩
structure Pw (K : PySem.W.Frag) (H : Hp) (D F : List Addr) (p a ea : Addr) (S : S0) (e : En) : Prop where
  al : Al D H
  st : Sto K (hid D H) F a S
  pl : Pul K (hid F (hid D H)) p a ea
  en : Ent K (hid F (hid D H)) false ea e
theorem Pw.same {K : PySem.W.Frag} {H H' : Hp} {D F : List Addr} {p a ea : Addr} {S : S0} {e : En} (h : Pw K H D F p a ea S e) (s : Same H H') : Pw K H' D F p a ea S e := ⟨h.al.same s, h.st.same (hid_same s), h.pl.same (hid_same (hid_same s)), h.en.same (hid_same (hid_same s))⟩
theorem hid_sw2 {D F F' : List Addr} {H H' : Hp} (f : Fr F H H') (hF : ∀ b ∈ F', b ∈ F ∨ H b = none) : Same (hid F (hid D H)) (hid F' (hid D H')) := hid_sw (fun b m => (hF b m).imp id hid_none) (fr_hid f)
theorem Pw.step {K : PySem.W.Frag} {H H' : Hp} {D F F' : List Addr} {p a ea : Addr} {S S' : S0} {e : En} (h : Pw K H D F p a ea S e) (f : Fr F H H') (hF : ∀ b ∈ F', b ∈ F ∨ H b = none) (t : Sto K (hid D H') F' a S') : Pw K H' D F' p a ea S' e :=
  ⟨h.al.fr h.st f, t, h.pl.same (hid_sw2 f hF), h.en.same (hid_sw2 f hF)⟩
theorem Pw.sto {K : PySem.W.Frag} {H : Hp} {D F : List Addr} {p a ea : Addr} {S : S0} {e : En} (h : Pw K H D F p a ea S e) : Sto K H F a S := h.st.sub
theorem Pw.ent {K : PySem.W.Frag} {H : Hp} {D F : List Addr} {p a ea : Addr} {S : S0} {e : En} (h : Pw K H D F p a ea S e) : Ent K H false ea e := (h.en.same hid_sub).same hid_sub
theorem Pw.pul {K : PySem.W.Frag} {H : Hp} {D F : List Addr} {p a ea : Addr} {S : S0} {e : En} (h : Pw K H D F p a ea S e) : Pul K H p a ea := (h.pl.same hid_sub).same hid_sub
theorem Sto.names {K : PySem.W.Frag} {H : Hp} {F : List Addr} {a : Addr} {S : S0} (h : Sto K H F a S) : (S.fl.map (·.1)).Nodup := by
  obtain ⟨_, _, _, _, _, _, _, _, _, _, _, x⟩ := h
  exact x.fn
theorem p_store {K : PySem.W.Frag} {H : Hp} {p a ea : Addr} {P : V → Prop} (t : PT K) (h : Pul K H p a ea) (q : P (.ref a)) : ∃ b C dx fs v, V.ref p = .ref b ∧ H b = some (.ins C dx fs) ∧ Cls K C ∧ NoAttr K C "_store" ∧ fs.lookup ("_store" : Str) = some v ∧ P v :=
  let ⟨dx, fs, h1, h2, h3, h4⟩ := h; ⟨p, _, dx, fs, _, rfl, h1, t.cl, t.n1, h2, q⟩
theorem p_entry {K : PySem.W.Frag} {H : Hp} {p a ea : Addr} {P : V → Prop} (t : PT K) (h : Pul K H p a ea) (q : P (.ref ea)) : ∃ b C dx fs v, V.ref p = .ref b ∧ H b = some (.ins C dx fs) ∧ Cls K C ∧ NoAttr K C "_entry" ∧ fs.lookup ("_entry" : Str) = some v ∧ P v :=
  let ⟨dx, fs, h1, h2, h3, h4⟩ := h; ⟨p, _, dx, fs, _, rfl, h1, t.cl, t.n2, h3, q⟩
theorem p_meth {K : PySem.W.Frag} {H : Hp} {p a ea : Addr} {m : Str} {R : Prop} (h : Pul K H p a ea) (hm : m ∉ (["_store", "_entry"] : List Str)) (q : R) : ∃ b dx fs, V.ref p = .ref b ∧ H b = some (.ins (cPul K) dx fs) ∧ fs.lookup m = none ∧ R :=
  let ⟨dx, fs, h1, h2, h3, h4⟩ := h; ⟨p, dx, fs, rfl, h1, h4 m hm, q⟩
theorem e_temp {K : PySem.W.Frag} {H : Hp} {Q : VK} {E : XK} {a : Addr} {F : List Addr} {S : S0} {nm : Str} (hS : Sto K H F a S) (q : ∀ v H', Same H H' → ((v = .non ∧ lk nm S.tp = none) ∨ ∃ l bs, v = .ref l ∧ lk nm S.tp = some bs ∧ H' l = some (.lst (bs.map V.int))) → Q v H') : sp_Store_temp K [.ref a, .str nm] H Q E :=
  ⟨_, _, rfl, a, F, S, nm, rfl, rfl, hS, fun h => q _ _ (Same.refl _) (.inl ⟨rfl, h⟩), fun bs hb l H' hl s e => q _ _ s (.inr ⟨l, bs, rfl, hb, e⟩)⟩
theorem e_nePT {K : PySem.W.Frag} {H : Hp} {Q : VK} {a b : Addr} {xs ys : List Int} (h1 : SqT K H a (xs.map V.int)) (h2 : SqT K H b (ys.map V.int)) (q : Q (.bl (!decide (xs = ys))) H) : rNeP K (.ref a) (.ref b) H Q :=
  e_nePV (dp_ti h1) (dp_ti h2) (by simp [PyData.plain, plain_ints]) (by simp [PyData.plain, plain_ints]) (by
    show PyData.depthAll (Di xs) + 1 ≤ 60
    rw [Vf.depthAll_ints]; decide) (eqvAll_ints xs ys) q
theorem kept_split : ∀ (bl t : List Int), t = (bl.take (keptN bl t)).flatMap bbytes ++ t.drop ((bl.take (keptN bl t)).flatMap bbytes).length
  | [], t => by simp
  | b :: bl, t => by
    rw [keptN_c]
    by_cases h : t.take (bbytes b).length = bbytes b
    · have ih := kept_split bl (t.drop (bbytes b).length)
      rw [if_pos h, List.take_succ_cons, List.flatMap_cons, List.length_append, List.append_assoc, ← List.drop_drop, ← ih, ← congrArg (· ++ t.drop (bbytes b).length) h]
      exact (List.take_append_drop _ _).symm
    · rw [if_neg h]; simp
/-- cut to what is kept -/
theorem cut_clean {nm : Str} {bl : List Int} {S : S0} {t : List Int} (h : Tp1 nm S) (ht : lk nm S.tp = some t) (S' : S0)
    (hs : S'.tp = S.cutT nm ((bl.take (keptS S nm bl)).flatMap bbytes).length ∨ (S'.tp = S.tp ∧ t.length ≤ ((bl.take (keptS S nm bl)).flatMap bbytes).length)) : Cl nm bl S' (keptS S nm bl) := by
  obtain ⟨o, e, _⟩ := h
  refine ⟨keptS_le S nm bl, ?_⟩
  have eo : o = some t := by rw [e, lk_tpl] at ht; exact ht
  subst eo
  have ek : keptS S nm bl = keptN bl t := by unfold keptS; rw [ht]
  have sp := kept_split bl t
  rw [← ek] at sp
  generalize (bl.take (keptS S nm bl)).flatMap bbytes = bs at hs sp
  rcases hs with hs | ⟨hs, hl⟩
  · unfold S0.cutT at hs
    rw [ht] at hs
    dsimp only at hs
    by_cases z : bs.length = 0
    · rw [if_pos z, e] at hs
      refine ⟨none, ?_, ?_⟩
      · rw [hs]; simp [fdel, tpl]
      · rw [List.length_eq_zero_iff.mp z]; rfl
    · rw [if_neg z, e] at hs
      refine ⟨some (t.take bs.length), ?_, ?_⟩
      · rw [hs]; simp [fput, tpl]
      · show t.take bs.length = bs
        rw [sp, List.take_left' rfl]
  · refine ⟨some t, hs.trans e, ?_⟩
    show t = bs
    have h1 := congrArg List.length sp
    rw [List.length_append] at h1
    have h2 : t.drop bs.length = [] := List.length_eq_zero_iff.mp (by omega)
    rw [h2, List.append_nil] at sp
    exact sp
/-! ### promises -/
/-- cut: the exception, from a heap where all but these stands -/
def CutP (K : PySem.W.Frag) (H : Hp) (E : XK) : Prop := ∃ n : Int, Cut K n H E
def sp_Pull___init__ (K : PySem.W.Frag) : Sp := fun vs H Q E => ∃ x y z, vs = [x, y, z] ∧ ∃ (p a ea dx : Addr) (F D : List Addr) (S : S0) (e : En), x = .ref p ∧ y = .ref a ∧ z = .ref ea ∧ H p = some (.ins (cPul K) dx []) ∧ p ∉ D ∧ Al D H ∧ Sto K (hid (p :: D) H) F a S ∧ Ent K (hid F (hid (p :: D) H)) false ea e ∧ Smal S e.bl ∧ Tp1 e.nm S ∧
  (∀ F' H' S', Fr (p :: F) H H' → (∀ b ∈ F', b ∈ F ∨ H b = none) → Pw K H' D F' p a ea S' e → Wk S S' → Cl e.nm e.bl S' (keptS S e.nm e.bl) → Q .non H') ∧
  (S.bd ≠ none → ∀ H', Fr (p :: F) H H' → Sto K (hid D H') F a S → ∀ n, Cut K n H' E)
def sp_Pull_count (K : PySem.W.Frag) : Sp := sp1 fun x H Q => ∃ (p a ea : Addr) (F D : List Addr) (S : S0) (e : En), x = .ref p ∧ Pw K H D F p a ea S e ∧ Smal S e.bl ∧ ∀ H', Same H H' → Q (.int (keptS S e.nm e.bl : Nat)) H'
def sp_Pull_is_whole (K : PySem.W.Frag) : Sp := sp1 fun x H Q => ∃ (p a ea : Addr) (F D : List Addr) (S : S0) (e : En), x = .ref p ∧ Pw K H D F p a ea S e ∧ Smal S e.bl ∧ ∀ H', Same H H' → Q (.bl (decide (keptS S e.nm e.bl = e.bl.length))) H'
def sp_Pull_advance (K : PySem.W.Frag) : Sp := sp1X fun x H Q E => ∃ (p a ea : Addr) (F D : List Addr) (S : S0) (e : En) (c : Nat), x = .ref p ∧ Pw K H D F p a ea S e ∧ Smal S e.bl ∧ Cl e.nm e.bl S c ∧
  (∀ F' H' S', Fr F H H' → (∀ b ∈ F', b ∈ F ∨ H b = none) → Pw K H' D F' p a ea S' e → Wk S S' → Cl e.nm e.bl S' e.bl.length → Dk S e.bl c = [] → Q .non H') ∧
  (∀ F' H' S' i y, Fr F H H' → (∀ b ∈ F', b ∈ F ∨ H b = none) → Pw K H' D F' p a ea S' e → Wk S S' → Cl e.nm e.bl S' i → c ≤ i → e.bl[i]? = some y → Dk S e.bl c = Dk S e.bl i → Dk S e.bl i = y :: Dk S e.bl (i + 1) → Q (.int y) H') ∧
  (∀ F' H' S' n, S.bd ≠ none → Fr F H H' → (∀ b ∈ F', b ∈ F ∨ H b = none) → Sto K (hid D H') F' a S' → Wk S S' → Tp1 e.nm S' → Dk S e.bl c = Dk S e.bl (keptS S' e.nm e.bl) → Cut K n H' E)
def sp_Pull_give (K : PySem.W.Frag) : Sp := fun vs H Q E => ∃ x y z, vs = [x, y, z] ∧ ∃ (p a ea l : Addr) (F D : List Addr) (S : S0) (e : En) (c : Nat) (b : Int) (ds : List Int), x = .ref p ∧ y = .int b ∧ z = .ref l ∧ Pw K H D F p a ea S e ∧ Smal S e.bl ∧ Cl e.nm e.bl S c ∧
  H l = some (.lst (ds.map V.int)) ∧ l ∉ F ∧ ds.length ≤ 1000 ∧
  (¬ (e.bl[c]? = some b ∧ ds = bbytes b) → ∀ H', Same H H' → Q (.bl false) H') ∧
  (e.bl[c]? = some b → ds = bbytes b →
    (∀ F' H' S', Fr F H H' → (∀ b ∈ F', b ∈ F ∨ H b = none) → Pw K H' D F' p a ea S' e → Wk S S' → Cl e.nm e.bl S' (c + 1) → Q (.bl true) H') ∧
    (∀ F' H' S' n, S.bd ≠ none → Fr F H H' → (∀ b ∈ F', b ∈ F ∨ H b = none) → Sto K (hid D H') F' a S' → Wk S S' → Tp1 e.nm S' → keptS S' e.nm e.bl = c → Cut K n H' E))
def sp_Pull_place (K : PySem.W.Frag) : Sp := sp1X fun x H Q E => ∃ (p a ea : Addr) (F D : List Addr) (S : S0) (e : En), x = .ref p ∧ Pw K H D F p a ea S e ∧ S.fl.length ≤ 100 ∧
  (S.bd ≠ some 0 → ∀ F' H', Fr F H H' → (∀ b ∈ F', b ∈ F ∨ H b = none) → Sto K (hid D H') F' a { S.tick with fl := fput e.nm ((lk e.nm S.tp).getD [], e.tm) S.fl, tp := fdel e.nm S.tp } → Q .non H') ∧ (S.bd = some 0 → Cut K S.n H E)
/-- the asked blocks, so far -/
def dd (l : List Int) : List Int := l.foldl (fun acc b => if b ∈ acc then acc else acc ++ [b]) []
def Pd (due rest asked : List Int) (n : Nat) : Prop := due.Nodup ∧ (∃ P, due = P ++ rest ∧ (dd asked = P ∨ ∃ x R, rest = x :: R ∧ dd asked = P ++ [x])) ∧ asked.length + rest.length ≤ due.length + n
def sp_law_refused (K : PySem.W.Frag) : Sp := fun vs H Q E => ∃ x0 x1 x2 x3 x4, vs = [x0, x1, x2, x3, x4] ∧ ∃ (st sc p a ea : Addr) (ns : List Int) (F D : List Addr) (S : S0) (e : En) (c : Nat) (b : Int), x0 = .ref st ∧ x1 = .ref sc ∧ x2 = .ref a ∧ x3 = .ref p ∧ x4 = .int b ∧
  Pw K H D F p a ea S e ∧ Smal S e.bl ∧ Cl e.nm e.bl S c ∧ e.bl[c]? = some b ∧ b ≠ 257 ∧ (∃ cs : List Int, Piece cs ∧ bnum cs = b) ∧ st ∈ D ∧ Dr K st sc ns H ∧ ∀ H', Kp st H H' → Dr K st sc ns H' → Q (.bl true) H'
def sp_law_pulled (K : PySem.W.Frag) : Sp := fun vs H Q E => ∃ x0 x1 x2 x3 x4, vs = [x0, x1, x2, x3, x4] ∧ ∃ (st sc a ea q : Addr) (ns due asked : List Int) (F D : List Addr) (S : S0) (e : En) (n : Nat) (H0 : Hp), x0 = .ref st ∧ x1 = .ref sc ∧ x2 = .ref a ∧ x3 = .ref ea ∧ x4 = .ref q ∧
  Al D H ∧ st ∈ D ∧ q ∈ D ∧ st ≠ q ∧ Sto K (hid D H) F a S ∧ Ent K (hid F (hid D H)) false ea e ∧ Smal S e.bl ∧ Tp1 e.nm S ∧ (∀ b ∈ e.bl, ∃ cs : List Int, Piece cs ∧ bnum cs = b) ∧ Dr K st sc ns H0 ∧ Kp st H0 H ∧ (∀ b ∈ q :: F, H0 b = none) ∧ Dr K st sc ns H ∧ H q = some (.lst (asked.map V.int)) ∧ asked.length ≤ 2000 ∧ due.length ≤ 1000 ∧ n ≤ 10 ∧
  Pd due (Dk S e.bl (keptS S e.nm e.bl)) asked n ∧
  (∀ F' H' S' as2, S.bd ≠ none → Fr (st :: q :: F) H H' → (∀ b ∈ F', b ∈ F ∨ H b = none) → Sto K (hid D H') F' a S' → Wk S S' → Tp1 e.nm S' → Kp st H0 H' → Dr K st sc ns H' → H' q = some (.lst (as2.map V.int)) → Pd due (Dk S e.bl (keptS S' e.nm e.bl)) as2 (n + 1) → Q (.str "cut") H') ∧
  (∀ F' H' S' as2, Fr (st :: q :: F) H H' → (∀ b ∈ F', b ∈ F ∨ H b = none) → Sto K (hid D H') F' a S' → S'.fl = fput e.nm (e.bl.flatMap bbytes, e.tm) S.fl → S'.tp = [] → S'.at_ = S.at_ → Kp st H0 H' → Dr K st sc ns H' → H' q = some (.lst (as2.map V.int)) → Pd due [] as2 n → Q (.str "done") H')
mutual
def tupO : PyData → Bool
  | .tuple ds => tupOs ds
  | .list _ => false
  | .dict _ => false
  | _ => true
def tupOs : List PyData → Bool
  | [] => true
  | d :: ds => tupO d && tupOs ds
end
mutual
theorem dp_hid {K : PySem.W.Frag} {H : Hp} {D : List Addr} (n : ∀ d ∈ D, NT H d) : ∀ {v : V} {d : PyData}, Dp K H v d → tupO d = true → Dp K (hid D H) v d
  | _, _, .non, _ => .non
  | _, _, .bl b, _ => .bl b
  | _, _, .int i, _ => .int i
  | _, _, .str x, _ => .str x
  | _, _, .lst _ _, h => by cases h
  | _, _, .tup h1 h2, h => .tup (sqT_hid h1 n) (dpa_hid n h2 h)
theorem dpa_hid {K : PySem.W.Frag} {H : Hp} {D : List Addr} (n : ∀ d ∈ D, NT H d) : ∀ {v : List V} {d : List PyData}, DpAll K H v d → tupOs d = true → DpAll K (hid D H) v d
  | _, _, .nil, _ => .nil
  | _, _, .cons a b, h => .cons (dp_hid n a (Bool.and_eq_true_iff.mp h).1) (dpa_hid n b (Bool.and_eq_true_iff.mp h).2)
end
theorem tupOs_map {α : Type} (f : α → PyData) (h : ∀ x, tupO (f x) = true) : ∀ l : List α, tupOs (l.map f) = true
  | [] => rfl
  | x :: l => by
    show (tupO (f x) && tupOs (l.map f)) = true
    rw [h x, tupOs_map f h l]; rfl
theorem tupOs_ints : ∀ xs : List Int, tupOs (Di xs) = true
  | [] => rfl
  | x :: xs => by
    show (true && tupOs (Di xs)) = true
    rw [tupOs_ints xs]; rfl
theorem tupOs_vec : ∀ v : Vc, tupOs (Dv v) = true
  | [] => rfl
  | c :: v => by
    show (tupOs (Di [c.1, c.2]) && tupOs (Dv v)) = true
    rw [tupOs_vec v, tupOs_ints]; rfl
theorem Dur.hide {K : PySem.W.Frag} {H : Hp} {r : Addr} {S : S0} {D : List Addr} (h : Dur K H r S) (n : ∀ d ∈ D, NT H d) : Dur K (hid D H) r S := by
  obtain ⟨ys, zs, h1, h2, h3, h4, h5⟩ := h
  refine ⟨ys, zs, h1, h2, h3, h4, dp_hid n h5 ?_⟩
  have e1 := tupOs_map (durF S) (fun y => by simp [durF, tupO, tupOs, tupOs_ints]) ys
  have e2 := tupOs_map (durT S) (fun y => by simp [durT, tupO, tupOs, tupOs_ints]) zs
  have e3 := tupOs_map durA (fun y => by simp [durA, tupO, tupOs, tupOs_ints, tupOs_vec]) S.at_
  simp [durD, tupO, tupOs, e1, e2, e3, tupOs_ints]
theorem Dur.kp {K : PySem.W.Frag} {H H' : Hp} {st sc r : Addr} {ns : List Int} {S : S0} (h : Dur K H r S) (d : Dr K st sc ns H) (k : Kp st H H') : Dur K H' r S := ((h.hide (dr_nt d)).same (kp_same k)).same hid_sub
theorem Pw.kp {K : PySem.W.Frag} {H H' : Hp} {D F : List Addr} {p a ea st sc : Addr} {ns : List Int} {S : S0} {e : En} (h : Pw K H D F p a ea S e) (m : st ∈ D) (k : Kp st H H') (d : Dr K st sc ns H') : Pw K H' D F p a ea S e := by
  have hs : Same (hid D H) (hid D H') := hid_fr ((kp_fr k).mono fun b mb => by rw [List.mem_singleton.mp mb]; exact m)
  refine ⟨fun x mx => ?_, h.st.same hs, h.pl.same (hid_same hs), h.en.same (hid_same hs)⟩
  by_cases z : x = st
  · obtain ⟨u, v, _, _, e⟩ := d.s
    rw [z]
    exact ⟨⟨_, e⟩, nt_lst e⟩
  · obtain ⟨⟨o, e⟩, t⟩ := h.al x mx
    exact ⟨⟨o, k x o z e⟩, nt_of t e (k x o z e)⟩
theorem e_eqRow {K : PySem.W.Frag} {H : Hp} {Q : VK} {a b l m : Addr} {i j : Int} {xs ys : List Int} (h1 : H a = some (.tup [.int i, .ref l])) (h2 : H b = some (.tup [.int j, .ref m])) (h3 : H l = some (.lst (xs.map V.int))) (h4 : H m = some (.lst (ys.map V.int)))
    (q : Q (.bl (decide (i = j ∧ xs = ys))) H) : rEqP K (.ref a) (.ref b) H Q := by
  have d1 : Dp K H (.ref a) (.tuple [.int i, .list (Di xs)]) := .tup (SqT.of h1) (.cons (.int i) (.cons (dp_li (SqL.of h3)) .nil))
  have d2 : Dp K H (.ref b) (.tuple [.int j, .list (Di ys)]) := .tup (SqT.of h2) (.cons (.int j) (.cons (dp_li (SqL.of h4)) .nil))
  refine e_eqPV (b := decide (i = j ∧ xs = ys)) d1 d2 (by simp [PyData.plain, PyData.plainAll, plain_ints]) (by simp [PyData.plain, PyData.plainAll, plain_ints]) (by
    simp [PyData.depth, PyData.depthAll, Vf.depthAll_ints]) ?_ q
  have e1 := eqvAll_ints xs ys
  simp [PyData.eqv, PyData.eqvAll, e1]
  rfl
theorem xor1_ne' : ∀ n : Fin 256, Builtin.bitXor ((n.val : Nat) : Int) 1 ≠ ((n.val : Nat) : Int) := by decide +kernel
theorem xor1_ne {y : Int} (h0 : 0 ≤ y) (h1 : y < 256) : Builtin.bitXor y 1 ≠ y := by
  have h := xor1_ne' ⟨y.toNat, by omega⟩
  rw [show ((y.toNat : Nat) : Int) = y by omega] at h
  exact h
theorem ixN_nat26 {n j : Nat} (h : j < n) : ixN n (j : Int) = some j := by
  unfold ixN
  rw [if_pos (by omega), if_pos (by omega)]
  rfl
theorem at_nat26 {α : Type} {xs : List α} {j : Nat} {v : α} (h : xs[j]? = some v) : atI xs (j : Int) = some v := by
  unfold atI
  rw [ixN_nat26 (List.getElem?_eq_some_iff.mp h).1]
  exact h
-- at_ofA
theorem dd_snoc (l : List Int) (y : Int) : dd (l ++ [y]) = if y ∈ dd l then dd l else dd l ++ [y] := by
  unfold dd
  rw [List.foldl_append]
  rfl
theorem Pd.ask {due R asks : List Int} {y : Int} {n : Nat} (h : Pd due (y :: R) asks n) : Pd due R (asks ++ [y]) n ∧ Pd due (y :: R) (asks ++ [y]) (n + 1) := by
  obtain ⟨hn, ⟨P, e, hP⟩, hl⟩ := h
  have e1 : dd (asks ++ [y]) = P ++ [y] := by
    rw [dd_snoc]
    rcases hP with hP | ⟨x, R2, e2, hP⟩
    · rw [hP, if_neg fun m => ?_]
      rw [e] at hn
      exact (List.nodup_append.mp hn).2.2 y m y (List.mem_cons_self ..) rfl
    · cases e2
      rw [hP, if_pos (by simp)]
  rw [List.length_cons] at hl
  refine ⟨⟨hn, ⟨P ++ [y], by rw [e]; simp, .inl e1⟩, by simp only [List.length_append, List.length_cons, List.length_nil]; omega⟩, hn, ⟨P, e, .inr ⟨y, R, rfl, e1⟩⟩, by simp only [List.length_append, List.length_cons, List.length_nil]; omega⟩
def sp_wall (K : PySem.W.Frag) : Sp := fun vs H Q E => ∃ x0, vs = [x0] ∧ True
def sp_FolderkinError___init__ (K : PySem.W.Frag) : Sp := fun vs H Q E => ∃ x0 x1, vs = [x0, x1] ∧ True
def sp_law (K : PySem.W.Frag) : Sp := sp1 fun x H Q => ∃ (a : Addr) (ns : List Int), x = .ref a ∧ SqL K H a (ns.map V.int) ∧ ns.length ≤ 63 ∧ ∀ H', Q (.bl true) H'
theorem filt_take {α : Type} {p : α → Bool} {l : List α} {i : Nat} {r : α} (h : l[i]? = some r) : (l.take (i + 1)).filter p = (l.take i).filter p ++ (if p r = true then [r] else []) := by
  rw [List.take_add_one, h, Option.toList, List.filter_append]
  congr 1
  by_cases e : p r = true
  · rw [if_pos e, List.filter_cons_of_pos e]; rfl
  · rw [if_neg e, List.filter_cons_of_neg e]; rfl
/-- a comprehension with a test whose elements stand in a relation to what was met -/
theorem lc_relF {β : Type} {J : It} {n : Nat} {G : Hp → Prop} {Y : Nat → Hp → V → Hp → Prop} (w : Walk J n G Y) {g : TG} {tt : TT} {te : TE} {vs : List Nat} {σ : L2.St} {Da : Addr} {H0 : Hp} {Q : VK} (hD : H0 Da = none) (hn : n ≤ 1000000)
    (hG : ∀ H, Same H0 H → G H) (M : Nat → List β) (m0 : M 0 = []) (ml : ∀ i, i ≤ n → (M i).length ≤ i) (R : β → V → Hp → Prop) (mono : ∀ b v H H', R b v H → Same H H' → R b v H')
    (hs : ∀ (i : Nat) (x : V) (H H' : Hp) (C : VK) (E : Hp → Prop) (acc : HO), i < n → Same H0 H → H Da = some acc → Y i H x H' → (∀ b v H3, M (i + 1) = M i ++ [b] → Same H H3 → R b v (hid [Da] H3) → C v H3) → (∀ H3, M (i + 1) = M i → Same H H3 → E H3) →
      g x (wipe σ vs) H' fun σ2 H2 => wipe σ2 vs = wipe σ vs ∧ tt σ2 H2 fun b H3 => if b = true then te σ2 H3 C else E H3)
    (hd : ∀ (H : Hp) (us : List V), Same H0 H → H Da = some (.lst us) → Paired (fun v b => R b v (hid [Da] H)) us (M n) → Q (.ref Da) H) : LcB J g tt te vs σ Da H0 Q := by
  refine lc_it w (fun i H => Same H0 H ∧ ∃ us, H Da = some (.lst us) ∧ Paired (fun v b => R b v (hid [Da] H)) us (M i)) ⟨same_new hD, [], upd_same, by rw [m0]; exact .nil⟩ (fun i H _ p => hG H p.1) (fun i x H H' hi p y => ?_) (fun H p => ?_)
  · obtain ⟨s1, us, e1, r1⟩ := p
    have lu : us.length ≤ i := by rw [paired_len r1]; exact ml i (Nat.le_of_lt hi)
    refine hs i x H H' _ _ _ hi s1 e1 y (fun b v H3 em s3 r3 => ?_) (fun H3 em s3 => ?_)
    · refine ⟨us, s3 _ _ e1, Nat.lt_of_le_of_lt (by omega : _ ≤ 1000000) (by decide), Same.mut (s1.trans s3) hD, us ++ [v], upd_same, ?_⟩
      rw [hid_upd_in (List.mem_singleton.mpr rfl), em]
      exact Paired.snoc (paired_imp (fun _ _ q => mono _ _ _ _ q (hid_same s3)) r1) r3
    · refine ⟨s1.trans s3, us, s3 _ _ e1, ?_⟩
      rw [em]
      exact paired_imp (fun _ _ q => mono _ _ _ _ q (hid_same s3)) r1
  · obtain ⟨s1, us, e1, r1⟩ := p
    exact hd H us s1 e1 r1
theorem e_iKeys {td : TE} {σ : L2.St} {H : Hp} {R : It → Hp → Prop} (q : td σ H fun x H1 => ∃ d o, x = .ref d ∧ ((∃ kvs, H1 d = some (.frz o (.dK kvs)) ∧ R (Itk d o kvs) H1) ∨ ∃ kvs, H1 d = some (.frz o (.dT kvs)) ∧ R (Itkt d o kvs) H1)) : iKeys td σ H R := q
theorem seq_updD {K : PySem.W.Frag} {H : Hp} {d p : Addr} {kvs : List (Key × V)} {o : HO} {v : List V} (hd : H d = some (.dK kvs)) (h : SqT K H p v) : SqT K (upd H d o) p v := by
  rcases h with (h | ⟨c9, h⟩) | h
  · exact .inl (.inl (by rw [upd_ne fun z => by rw [z, hd] at h; cases h]; exact h))
  · exact .inl (.inr ⟨c9, by rw [upd_ne fun z => by rw [z, hd] at h; cases h]; exact h⟩)
  · exact .inr h
theorem Ent.upd_dK {K : PySem.W.Frag} {H : Hp} {a d : Addr} {e : En} {kvs : List (Key × V)} {o : HO} (h : Ent K H false a e) (hd : H d = some (.dK kvs)) : Ent K (upd H d o) false a e := by
  obtain ⟨dx, v, m, b, fs, h1, h2, h3, h4, h5⟩ := h
  refine ⟨dx, v, m, b, fs, by rw [upd_ne fun z => by rw [z, hd] at h1; cases h1]; exact h1, h2, ⟨?_, fun z => nomatch z⟩, seq_updD hd h4, seq_updD hd h5⟩
  obtain ⟨ps, g1, g2⟩ := h3.1
  exact ⟨ps, seq_updD hd g1, paired_imp (fun _ _ q => seq_updD hd q) g2⟩
theorem merge_dct : ∀ {w acc : List (Str × Addr)}, ((acc ++ w).map (·.1)).Nodup → mergeK (dct acc) (dct w) = dct (acc ++ w)
  | [], acc, _ => by rw [List.append_nil]; rfl
  | x :: w, acc, h => by
    have hv : valV (dct acc) (Sum.inr x.1) = none := by
      have hn : x.1 ∉ acc.map (·.1) := fun m => by
        rw [List.map_append, List.nodup_append] at h
        exact h.2.2 _ m _ (List.mem_cons_self ..) rfl
      clear h
      induction acc with
      | nil => rfl
      | cons y acc ih =>
        rw [List.map_cons, List.mem_cons, not_or] at hn
        unfold valV dct at ih ⊢
        rw [List.map_cons, List.find?_cons, decide_eq_false fun q => hn.1 (Sum.inr.inj q).symm]
        exact ih hn.2
    show mergeK (putK (dct acc) (Sum.inr x.1) (.ref x.2)) (dct w) = _
    rw [putK_new _ hv]
    have e : dct acc ++ [(Sum.inr x.1, V.ref x.2)] = dct (acc ++ [x]) := by unfold dct; rw [List.map_append]; rfl
    rw [e, merge_dct (by rw [List.append_assoc]; exact h), List.append_assoc]
    rfl
theorem seq_updN {K : PySem.W.Frag} {H : Hp} {d p : Addr} {o : HO} {v : List V} (hd : NT H d) (h : SqT K H p v) : SqT K (upd H d o) p v := by
  rcases h with (h | ⟨c9, h⟩) | h
  · exact .inl (.inl (by rw [upd_ne fun z => hd.1 v (by rw [← z]; exact h)]; exact h))
  · exact .inl (.inr ⟨c9, by rw [upd_ne fun z => hd.2 c9 v (by rw [← z]; exact h)]; exact h⟩)
  · exact .inr h
theorem Sto.tnames {K : PySem.W.Frag} {H : Hp} {F : List Addr} {a : Addr} {S : S0} (h : Sto K H F a S) : (S.tp.map (·.1)).Nodup := by
  obtain ⟨_, _, _, _, _, _, _, _, _, _, _, x⟩ := h
  exact x.tn
theorem Tp1.perm {nm : Str} {S S' : S0} (h : Tp1 nm S) (p : S'.tp.Perm S.tp) : S'.tp = S.tp := by
  obtain ⟨o, e, _⟩ := h
  rw [e] at p ⊢
  cases o with
  | none => exact List.perm_nil.mp p
  | some t => exact List.perm_singleton.mp p
theorem again_kb {S S' : S0} (hf : S'.fl.Perm S.fl) (ha : S'.at_ = S.at_) (x : Int) : x ∈ kbOf S' ↔ x ∈ kbOf S := by
  unfold kbOf
  rw [ha]
  simp only [List.mem_append, List.mem_flatMap]
  constructor <;> rintro (⟨r, h1, h2⟩ | h)
  · exact .inl ⟨r, hf.mem_iff.mp h1, h2⟩
  · exact .inr h
  · exact .inl ⟨r, hf.mem_iff.mpr h1, h2⟩
  · exact .inr h
theorem again_Dk {S S' : S0} (hf : S'.fl.Perm S.fl) (ha : S'.at_ = S.at_) (ht : S'.tp = S.tp) (nm : Str) (bl : List Int) : Dk S' bl (keptS S' nm bl) = Dk S bl (keptS S nm bl) := by
  have e : keptS S' nm bl = keptS S nm bl := by unfold keptS; rw [ht]
  rw [e]
  unfold Dk
  exact need_congr (again_kb hf ha) fun _ => Iff.rfl
theorem Pd.start {due : List Int} (h : due.Nodup) : Pd due due [] 0 := ⟨h, ⟨[], rfl, .inl rfl⟩, by simp⟩
def attD (r : Str × (Vc × List Int)) : PyData := .tuple [.str r.1, .tuple (Dv r.2.1), .list (Di r.2.2)]
theorem dp_ats {K : PySem.W.Frag} {H : Hp} : ∀ {qs : List Addr} {l : List (Str × (Vc × List Int))}, Ats K H qs l → DpAll K H (qs.map V.ref) (l.map attD)
  | _, _, .nil => .nil
  | _, _, .cons h t => by
    obtain ⟨v, l, h1, h2, h3⟩ := h
    exact .cons (.tup (SqT.of h1) (.cons (.str _) (.cons (dp_vec h2) (.cons (dp_li (SqL.of h3)) .nil)))) (dp_ats t)
theorem e_neSelf {K : PySem.W.Frag} {x y : V} {H : Hp} {Q : VK} {d : PyData} (h1 : Dp K H x d) (h2 : Dp K H y d) (p1 : d.plain = true) (hd : d.depth ≤ 60) (q : Q (.bl false) H) : rNeP K x y H Q := e_nePV h1 h2 p1 p1 hd (eqv_self d p1) q
theorem e_neAts {K : PySem.W.Frag} {H : Hp} {Q : VK} {a b : Addr} {qs ps : List Addr} {l : List (Str × (Vc × List Int))} (h1 : SqL K H a (qs.map V.ref)) (h2 : SqL K H b (ps.map V.ref)) (g1 : Ats K H qs l) (g2 : Ats K H ps l) (q : Q (.bl false) H) : rNeP K (.ref a) (.ref b) H Q := by
  have e1 := plain_map attD (fun y => by simp [attD, PyData.plain, PyData.plainAll, plain_ints, dv_plain]) l
  have e2 := depth_map attD (n := 4) (fun y => by
    show PyData.depthAll _ + 1 ≤ 4
    have := dv_depth y.2.1
    simp only [PyData.depthAll, PyData.depth, Vf.depthAll_ints]
    omega) l
  refine e_neSelf (d := .list (l.map attD)) (.lst h1 (dp_ats g1)) (.lst h2 (dp_ats g2)) (by rw [PyData.plain]; exact e1) ?_ q
  show PyData.depthAll _ + 1 ≤ 60
  omega
def filD (r : List Int × Int) : PyData := .tuple [.list (Di r.1), .int r.2]
theorem filD_ok (r : List Int × Int) : (filD r).plain = true ∧ (filD r).depth ≤ 60 := by
  refine ⟨by simp [filD, PyData.plain, PyData.plainAll, plain_ints], ?_⟩
  show PyData.depthAll _ + 1 ≤ 60
  simp only [PyData.depthAll, PyData.depth, Vf.depthAll_ints]
  omega
theorem dp_filA {K : PySem.W.Frag} {H : Hp} {q : Addr} {r : List Int × Int} (h : FilA H q r) : Dp K H (.ref q) (filD r) := by
  obtain ⟨l, h1, h2⟩ := h
  exact .tup (SqT.of h1) (.cons (dp_li (SqL.of h2)) (.cons (.int _) .nil))
theorem lk_put_self {β : Type} {nm : Str} {x : β} {l : List (Str × β)} (n : (l.map (·.1)).Nodup) : lk nm (fput nm x l) = some x := by
  have n2 := fput_nodup (nm := nm) (x := x) n
  refine lk_of_mem (r := (nm, x)) n2 ?_
  unfold fput
  by_cases h : nm ∈ l.map (·.1)
  · rw [if_pos h]
    obtain ⟨y, hy, e⟩ := List.mem_map.mp h
    exact List.mem_map.mpr ⟨y, hy, by rw [if_pos e]⟩
  · rw [if_neg h]; simp
theorem lk_put_ne {β : Type} {nm y : Str} {x : β} {l : List (Str × β)} (e : y ≠ nm) : lk y (fput nm x l) = lk y l := by
  unfold fput
  by_cases h : nm ∈ l.map (·.1)
  · rw [if_pos h]
    clear h
    induction l with
    | nil => rfl
    | cons z l ih =>
      rw [List.map_cons]
      show (if (if z.1 = nm then (nm, x) else z).1 = y then _ else lk y (l.map _)) = (if z.1 = y then some z.2 else lk y l)
      rw [ih]
      by_cases g : z.1 = nm
      · rw [if_pos g, if_neg fun q => e q.symm, if_neg fun q => e (q.symm.trans g)]
      · rw [if_neg g]
  · rw [if_neg h]
    clear h
    induction l with
    | nil =>
      show (if nm = y then some x else none) = none
      rw [if_neg fun q => e q.symm]
    | cons z l ih =>
      show (if z.1 = y then some z.2 else lk y (l ++ _)) = (if z.1 = y then some z.2 else lk y l)
      rw [ih]
theorem put_names {β : Type} {nm : Str} {x : β} {l : List (Str × β)} : ((fput nm x l).map (·.1)).filter (fun y => decide (y ≠ nm)) = (l.map (·.1)).filter fun y => decide (y ≠ nm) := by
  unfold fput
  by_cases h : nm ∈ l.map (·.1)
  · rw [if_pos h, List.map_map]
    congr 1
    refine List.map_congr_left fun y _ => ?_
    show (if y.1 = nm then (nm, x) else y).1 = y.1
    by_cases g : y.1 = nm
    · rw [if_pos g]; exact g.symm
    · rw [if_neg g]
  · rw [if_neg h, List.map_append, List.filter_append]
    simp
theorem del_names {β : Type} {nm : Str} {l : List (Str × β)} : (fdel nm l).map (·.1) = (l.map (·.1)).filter fun y => decide (y ≠ nm) := by
  unfold fdel
  rw [List.filter_map]
  rfl
theorem Sto.self {K : PySem.W.Frag} {H : Hp} {F : List Addr} {a : Addr} {S : S0} (h : Sto K H F a S) : a ∈ F := by
  obtain ⟨_, _, _, _, _, _, _, _, _, _, rfl, _⟩ := h
  exact List.mem_cons_self ..
theorem flat_bb : ∀ (cs : List (List Int)), (∀ c ∈ cs, Piece c) → (cs.map bnum).flatMap bbytes = cs.flatten
  | [], _ => rfl
  | c :: cs, h => by
    rw [List.map_cons, List.flatMap_cons, List.flatten_cons, bbytes_bnum (h c (List.mem_cons_self ..)), flat_bb cs fun d m => h d (List.mem_cons_of_mem _ m)]
theorem rel_pairs {K : PySem.W.Frag} {H : Hp} {fl : List (Str × (List Int × Int))} : ∀ {us : List V} {M : List Str}, Paired (fun v y => ∃ q t r, v = V.ref q ∧ SqT K H q [.str y, .ref t] ∧ FilA H t r ∧ lk y fl = some r) us M →
    ∃ (qs : List Addr) (w2 : List (Str × Addr)), us = qs.map V.ref ∧ Paired (fun p (kv : Key × V) => SqT K H p [kV kv.1, kv.2]) qs (dct w2) ∧ w2.map (·.1) = M ∧ ∀ x ∈ w2, ∃ r, FilA H x.2 r ∧ lk x.1 fl = some r
  | _, _, .nil => ⟨[], [], rfl, .nil, rfl, fun x m => by cases m⟩
  | _, _, .cons (b := y) h t => by
    obtain ⟨qs, w2, e1, e2, e3, e4⟩ := rel_pairs t
    obtain ⟨q, a, r, rfl, h2, h3, h4⟩ := h
    refine ⟨q :: qs, (y, a) :: w2, by rw [e1]; rfl, .cons h2 e2, by rw [← e3]; rfl, fun x m => ?_⟩
    rcases List.mem_cons.mp m with rfl | m
    · exact ⟨r, h3, h4⟩
    · exact e4 x m
theorem alike_ints : ∀ xs : List Int, PySem.W.alikeAll (Di xs) (Di xs) = true
  | [] => by simp [Di, PySem.W.alikeAll]
  | x :: xs => by
    show PySem.W.alikeAll (.int x :: Di xs) (.int x :: Di xs) = true
    rw [PySem.W.alikeAll, alike_ints xs]
    simp [PySem.W.alike]
theorem filD_alike (r : List Int × Int) : PySem.W.alike (filD r) (filD r) = true := by
  simp [filD, PySem.W.alike, PySem.W.alikeAll, alike_ints]
theorem lk_del_ne {β : Type} {nm y : Str} {l : List (Str × β)} (e : y ≠ nm) : lk y (fdel nm l) = lk y l := by
  induction l with
  | nil => rfl
  | cons z l ih =>
    have ih : lk y (l.filter fun y => decide (y.1 ≠ nm)) = lk y l := ih
    unfold fdel
    rw [List.filter_cons]
    by_cases g : z.1 = nm
    · rw [if_neg (by simp [g]), ih]
      show _ = (if z.1 = y then some z.2 else lk y l)
      rw [if_neg fun q => e (q.symm.trans g)]
    · rw [if_pos (by simp [g])]
      show (if z.1 = y then some z.2 else lk y _) = (if z.1 = y then some z.2 else lk y l)
      rw [ih]
set_option maxHeartbeats 0
def d_block_number : He.DefD := ⟨("block_number", none), "block_number", "block_number", defArgs s_block_number, defBody s_block_number, defScope s_block_number, [], []⟩
def d_block_size : He.DefD := ⟨("block_size", none), "block_size", "block_size", defArgs s_block_size, defBody s_block_size, defScope s_block_size, [], []⟩
def d_is_block : He.DefD := ⟨("is_block", none), "is_block", "is_block", defArgs s_is_block, defBody s_is_block, defScope s_is_block, [], []⟩
def d_block_bytes : He.DefD := ⟨("block_bytes", none), "block_bytes", "block_bytes", defArgs s_block_bytes, defBody s_block_bytes, defScope s_block_bytes, [], []⟩
def d_split : He.DefD := ⟨("split", none), "split", "split", defArgs s_split, defBody s_split, defScope s_split, [], []⟩
def d_joined : He.DefD := ⟨("joined", none), "joined", "joined", defArgs s_joined, defBody s_joined, defScope s_joined, [], []⟩
def d_near_places : He.DefD := ⟨("near_places", none), "near_places", "near_places", defArgs s_near_places, defBody s_near_places, defScope s_near_places, [], []⟩
def d_near_rows : He.DefD := ⟨("_near_rows", none), "_near_rows", "_near_rows", defArgs s_near_rows, defBody s_near_rows, defScope s_near_rows, [], []⟩
def d_kept_blocks : He.DefD := ⟨("kept_blocks", none), "kept_blocks", "kept_blocks", defArgs s_kept_blocks, defBody s_kept_blocks, defScope s_kept_blocks, [], []⟩
def d_missing : He.DefD := ⟨("missing", none), "missing", "missing", defArgs s_missing, defBody s_missing, defScope s_missing, [], []⟩
def d_Pull___init__ : He.DefD := ⟨("Pull", some "__init__"), "__init__", "Pull.__init__", defArgs s_Pull___init__, defBody s_Pull___init__, defScope s_Pull___init__, [], []⟩
def d_Pull_count : He.DefD := ⟨("Pull", some "count"), "count", "Pull.count", defArgs s_Pull_count, defBody s_Pull_count, defScope s_Pull_count, [], []⟩
def d_Pull_is_whole : He.DefD := ⟨("Pull", some "is_whole"), "is_whole", "Pull.is_whole", defArgs s_Pull_is_whole, defBody s_Pull_is_whole, defScope s_Pull_is_whole, [], []⟩
def d_Pull_advance : He.DefD := ⟨("Pull", some "advance"), "advance", "Pull.advance", defArgs s_Pull_advance, defBody s_Pull_advance, defScope s_Pull_advance, [], []⟩
def d_Pull_give : He.DefD := ⟨("Pull", some "give"), "give", "Pull.give", defArgs s_Pull_give, defBody s_Pull_give, defScope s_Pull_give, [], []⟩
def d_Pull_place : He.DefD := ⟨("Pull", some "place"), "place", "Pull.place", defArgs s_Pull_place, defBody s_Pull_place, defScope s_Pull_place, [], []⟩
def d_Entry___init__ : He.DefD := ⟨("Entry", some "__init__"), "__init__", "Entry.__init__", defArgs s_Entry___init__, defBody s_Entry___init__, defScope s_Entry___init__, [], []⟩
def d_Store___init__ : He.DefD := ⟨("Store", some "__init__"), "__init__", "Store.__init__", defArgs s_Store___init__, defBody s_Store___init__, defScope s_Store___init__, [], []⟩
def d_Store_set_budget : He.DefD := ⟨("Store", some "set_budget"), "set_budget", "Store.set_budget", defArgs s_Store_set_budget, defBody s_Store_set_budget, defScope s_Store_set_budget, [], []⟩
def d_Store__count_write : He.DefD := ⟨("Store", some "_count_write"), "_count_write", "Store._count_write", defArgs s_Store__count_write, defBody s_Store__count_write, defScope s_Store__count_write, [], []⟩
def d_Store_names : He.DefD := ⟨("Store", some "names"), "names", "Store.names", defArgs s_Store_names, defBody s_Store_names, defScope s_Store_names, [], []⟩
def d_Store_read : He.DefD := ⟨("Store", some "read"), "read", "Store.read", defArgs s_Store_read, defBody s_Store_read, defScope s_Store_read, [], []⟩
def d_Store_temp : He.DefD := ⟨("Store", some "temp"), "temp", "Store.temp", defArgs s_Store_temp, defBody s_Store_temp, defScope s_Store_temp, [], []⟩
def d_Store_append_temp : He.DefD := ⟨("Store", some "append_temp"), "append_temp", "Store.append_temp", defArgs s_Store_append_temp, defBody s_Store_append_temp, defScope s_Store_append_temp, [], []⟩
def d_Store_cut_temp : He.DefD := ⟨("Store", some "cut_temp"), "cut_temp", "Store.cut_temp", defArgs s_Store_cut_temp, defBody s_Store_cut_temp, defScope s_Store_cut_temp, [], []⟩
def d_Store_place : He.DefD := ⟨("Store", some "place"), "place", "Store.place", defArgs s_Store_place, defBody s_Store_place, defScope s_Store_place, [], []⟩
def d_Store_attic : He.DefD := ⟨("Store", some "attic"), "attic", "Store.attic", defArgs s_Store_attic, defBody s_Store_attic, defScope s_Store_attic, [], []⟩
def d_Store_attic_put : He.DefD := ⟨("Store", some "attic_put"), "attic_put", "Store.attic_put", defArgs s_Store_attic_put, defBody s_Store_attic_put, defScope s_Store_attic_put, [], []⟩
def d_Store_durable : He.DefD := ⟨("Store", some "durable"), "durable", "Store.durable", defArgs s_Store_durable, defBody s_Store_durable, defScope s_Store_durable, [], []⟩
def d_Store__keep : He.DefD := ⟨("Store", some "_keep"), "_keep", "Store._keep", defArgs s_Store__keep, defBody s_Store__keep, defScope s_Store__keep, [], []⟩
def d_from_durable : He.DefD := ⟨("from_durable", none), "from_durable", "from_durable", defArgs s_from_durable, defBody s_from_durable, defScope s_from_durable, [], []⟩
def d_law_draw : He.DefD := ⟨("_law_draw", none), "_law_draw", "_law_draw", defArgs s_law_draw, defBody s_law_draw, defScope s_law_draw, [], []⟩
def d_law_name : He.DefD := ⟨("_law_name", none), "_law_name", "_law_name", defArgs s_law_name, defBody s_law_name, defScope s_law_name, [], []⟩
def d_law_content : He.DefD := ⟨("_law_content", none), "_law_content", "_law_content", defArgs s_law_content, defBody s_law_content, defScope s_law_content, [], []⟩
def d_law_blocks : He.DefD := ⟨("_law_blocks", none), "_law_blocks", "_law_blocks", defArgs s_law_blocks, defBody s_law_blocks, defScope s_law_blocks, [], []⟩
def d_law_bytes : He.DefD := ⟨("_law_bytes", none), "_law_bytes", "_law_bytes", defArgs s_law_bytes, defBody s_law_bytes, defScope s_law_bytes, [], []⟩
def d_law_refused : He.DefD := ⟨("_law_refused", none), "_law_refused", "_law_refused", defArgs s_law_refused, defBody s_law_refused, defScope s_law_refused, [], []⟩
def d_law_pulled : He.DefD := ⟨("_law_pulled", none), "_law_pulled", "_law_pulled", defArgs s_law_pulled, defBody s_law_pulled, defScope s_law_pulled, [], []⟩
def d_law : He.DefD := ⟨("law", none), "law", "law", defArgs s_law, defBody s_law, defScope s_law, [], []⟩
def d_init_FolderkinError : He.DefD := ⟨("FolderkinError", some "__init__"), "__init__", "FolderkinError.__init__", defArgs s_FolderkinError___init__, defBody s_FolderkinError___init__, defScope s_FolderkinError___init__, [], []⟩
def fn : List He.DefD := [d_block_number, d_block_size, d_is_block, d_block_bytes, d_split, d_joined, d_near_places, d_near_rows, d_kept_blocks, d_missing, d_Pull___init__, d_Pull_count, d_Pull_is_whole, d_Pull_advance, d_Pull_give, d_Pull_place, d_Entry___init__, d_Store___init__, d_Store_set_budget, d_Store__count_write, d_Store_names, d_Store_read, d_Store_temp, d_Store_append_temp, d_Store_cut_temp, d_Store_place, d_Store_attic, d_Store_attic_put, d_Store_durable, d_Store__keep, d_from_durable, d_law_draw, d_law_name, d_law_content, d_law_blocks, d_law_bytes, d_law_refused, d_law_pulled, d_law, d_init_FolderkinError]
def ex : List (PySem.W.Frag → Bool) := [errAll "PowerCut" "FolderkinError"]
def fa : List He.Fa := [.glo "block_number", .glo "block_size", .glo "is_block", .glo "block_bytes", .glo "split", .glo "joined", .glo "near_places", .glo "_near_rows", .glo "kept_blocks", .glo "missing", .glo "from_durable", .glo "_law_draw", .glo "_law_name", .glo "_law_content", .glo "_law_blocks", .glo "_law_bytes", .glo "_law_refused", .glo "_law_pulled", .glo "law", .glo "PowerCut", .glo "FolderkinError", .glo "Entry", .glo "Store", .glo "Pull", .free "dict", .free "enumerate", .free "int", .free "len", .free "list", .free "range", .free "reversed", .free "sorted", .free "tuple", .int "BLOCK" 4, .meth "Pull" "count", .meth "Pull" "is_whole", .meth "Pull" "advance", .meth "Pull" "give", .meth "Pull" "place", .meth "Store" "set_budget", .meth "Store" "_count_write", .meth "Store" "names", .meth "Store" "read", .meth "Store" "temp", .meth "Store" "append_temp", .meth "Store" "cut_temp", .meth "Store" "place", .meth "Store" "attic", .meth "Store" "attic_put", .meth "Store" "durable", .meth "Store" "_keep", .cls "Entry", .noat "Entry" "name", .noat "Entry" "vector", .noat "Entry" "height", .noat "Entry" "maker", .noat "Entry" "deleted", .noat "Entry" "time", .noat "Entry" "blocks", .mkr "Entry", .cls "Store", .noat "Store" "_files", .noat "Store" "_temps", .noat "Store" "_attic", .noat "Store" "_log", .noat "Store" "_new_log", .noat "Store" "_budget", .noat "Store" "_done", .mkr "Store", .cls "Pull", .noat "Pull" "_store", .noat "Pull" "_entry", .mkr "Pull"]
abbrev R : PySem.W.OpenRow := PySem.W.OpenLaw.row PySem.Challenge.rw_folderkin_k26_whole_pulls
abbrev hk : PySem.W.Hook := hookX 6 fa fn ex
def ob (s : PySem.W.SharedT) : AlX := obsXG 6 fa fn ex (HandSHeadRun.getT s)
theorem ob_eq (s : PySem.W.SharedT) : ob s = hk.obs s.abs := obsXG_eq (HandSHeadRun.getT_eq s)
theorem run (w : World) : HandSHeadRun.RunEq R (PySem.W.view R.prog [32]) hk ob 10000 ["_wall", "FolderkinError", "PowerCut", "InvalidBlock", "BLOCK", "block_number", "block_size", "is_block", "block_bytes", "split", "joined", "near_places", "_near_rows", "kept_blocks", "missing", "Pull", "Entry", "Store", "from_durable", "_law_draw", "_law_name", "_law_content", "_law_blocks", "_law_bytes", "_law_refused", "_law_pulled"] w := by
  intro os
  kernel_rfl
local macro_rules | `(tactic| walk_at "dr") => `(tactic| first
  | assumption
  | exact Dr.same (by assumption) (same_new (by assumption))
  | exact Dr.same (Dr.same (by assumption) (same_new (by assumption))) (same_new (by assumption)))
local macro_rules | `(tactic| walk_at "ar") => `(tactic| first | omega | (simp only [List.length_cons, List.length_nil, List.length_map, List.length_append]; omega) | (simp only [List.length_cons, List.length_nil, List.length_map, List.length_append] at *; omega) | decide | assumption)
local macro_rules | `(tactic| walk_at "sl") => `(tactic| first
  | exact Dr.seq (by assumption)
  | assumption
  | exact SqL.of (by assumption)
  | exact SqL.of upd_same)
local macro_rules | `(tactic| walk_at "slt") => `(tactic| first
  | assumption
  | exact SqT.of (by assumption)
  | exact SqT.of upd_same)
local macro_rules | `(tactic| walk_at "size") => `(tactic| first
  | assumption
  | (refine sz_of ?_; first | decide | omega | (simp only [List.length_cons, List.length_nil, List.length_map, List.length_append] at *; omega)))
local macro_rules | `(tactic| walk_at "seq") => `(tactic| first
  | assumption
  | exact .inl (Dr.seq (by assumption))
  | exact .inl (by assumption)
  | exact .inl (SqL.of (by assumption))
  | exact .inr (by assumption)
  | exact .inr (SqT.of (by assumption)))
local macro_rules | `(tactic| walk_at "cond") => `(tactic| first
  | ((with_reducible show CMul _ _); first | exact .inr ⟨by decide, by decide⟩ | exact .inl ⟨by decide, by decide⟩ | exact .inr ⟨by omega, by omega⟩ | exact .inl ⟨by omega, by omega⟩)
  | ((with_reducible show CDivW _ _); first | exact ⟨by decide, by decide⟩ | exact wide_div (b := 60) (by omega) (by omega) (by decide) (by decide))
  | ((with_reducible show CDiv _ _); first | exact ⟨by decide, by decide⟩ | exact ⟨by omega, by omega⟩)
  | ((with_reducible show CPow _ _); exact ⟨by decide, by decide, by decide⟩)
  | (show (0 : Int) < _; first | decide | omega)
  | (show (0 : Int) ≤ _; first | decide | omega))
local macro_rules | `(tactic| walk_at "st1") => `(tactic| first
  | ((with_reducible show tVar _ _ _ _); refine e_var rfl ?_)
  | ((with_reducible show tC _ _ _ _); refine e_c ?_)
  | ((with_reducible show tOp _ _ _ _ _ _); refine e_op ?_)
  | ((with_reducible show rI0 _ _ _ _ _); refine e_I0 ?_)
  | ((with_reducible show rI _ _ _ _ _ _); refine e_I (by walk_at "cond") ?_)
  | ((with_reducible show rEq (V.int _) (V.int _) _ _); refine e_eqI ?_)
  | ((with_reducible show rNe (V.int _) (V.int _) _ _); refine e_neI ?_)
  | ((with_reducible show rEq (V.str _) (V.str _) _ _); refine e_eqS ?_)
  | ((with_reducible show rNe (V.str _) (V.str _) _ _); refine e_neS ?_)
  | ((with_reducible show rEq (V.bl _) (V.bl _) _ _); refine e_eqB ?_)
  | ((with_reducible show rNe (V.bl _) (V.bl _) _ _); refine e_neB ?_)
  | ((with_reducible show rEq _ _ _ _); refine e_eq rfl ?_)
  | ((with_reducible show rNe _ _ _ _); refine e_ne rfl ?_)
  | ((with_reducible show tTest _ _ _ _); refine e_test ?_)
  | ((with_reducible show tB _ _ _ _); refine e_B ?_)
  | ((with_reducible show ∃ k, V.bl _ = V.bl k ∧ _); refine e_ex ?_)
  | ((with_reducible show ∃ k, V.int _ = V.int k ∧ _); refine e_exI ?_)
  | ((with_reducible show tAnd _ _ _ _ _); refine e_and ?_)
  | ((with_reducible show tOr _ _ _ _ _); refine e_or ?_)
  | ((with_reducible show tNot _ _ _ _); refine e_not ?_)
  | ((with_reducible show tYes _ _ _); refine e_yes ?_))
local macro_rules | `(tactic| walk_at "st2") => `(tactic| first
  | ((with_reducible show tAndV _ _ _ _ _); refine e_andV ?_)
  | ((with_reducible show tOrV _ _ _ _ _); refine e_orV ?_)
  | ((with_reducible show tNotV _ _ _ _); refine e_notV ?_)
  | ((with_reducible show tIf _ _ _ _ _ _); refine e_if ?_)
  | ((with_reducible show tChain _ _ _ _ _ _ _ _); refine e_chain ?_)
  | ((with_reducible show tSeq _ _ _ _ _); refine e_seq ?_)
  | ((with_reducible show tNext _ _ _); refine e_next ?_)
  | ((with_reducible show tBreak _ _ _); refine e_break ?_)
  | ((with_reducible show tCont _ _ _); refine e_cont ?_)
  | ((with_reducible show tDrop _ _ _ _); refine e_drop ?_)
  | ((with_reducible show tRet _ _ _ _); refine e_ret ?_)
  | ((with_reducible show tRetN _ _ _); refine e_retN ?_)
  | ((with_reducible show tIfS _ _ _ _ _ _); refine e_ifS ?_)
  | ((with_reducible show tAsg _ _ _ _ _); refine e_asg ?_)
  | ((with_reducible show gName _ _ _ _ _); refine e_name ?_)
  | ((with_reducible show gSub _ _ _ _ _ _ _); refine e_sub ?_)
  | ((with_reducible show tNil _ _ _); refine e_nil ?_)
  | ((with_reducible show tCons _ _ _ _ _); refine e_cons ?_)
  | ((with_reducible show tCall _ _ _ _ _ _ _); refine e_call ?_)
  | ((with_reducible show tCB _ _ _ _ _); refine e_CB ?_)
  | ((with_reducible show tTup _ _ _ _); refine e_tup ?_)
  | ((with_reducible show tLst _ _ _ _); refine e_lst ?_)
  | ((with_reducible show tSl _ _ _ _ _ _ _); refine e_sl ?_)
  | ((with_reducible show tNoPart _ _ _); refine e_noP ?_)
  | ((with_reducible show tPart _ _ _ _); refine e_part ?_)
  | ((with_reducible show tBM _ _ _ _ _ _ _ _); refine e_bm ?_)
  | ((with_reducible show tFor _ _ _ _ _ _); refine e_for ?_)
  | ((with_reducible show iList _ _ _ _ _); refine e_iList ?_)
  | ((with_reducible show iTup _ _ _ _ _); refine e_iTup ?_)
  | ((with_reducible show iStr _ _ _ _); refine e_iStr ?_)
  | ((with_reducible show iRng1 _ _ _ _); refine e_iRng1 ?_)
  | ((with_reducible show iRng2 _ _ _ _); refine e_iRng2 ?_)
  | ((with_reducible show (∃ i', [V.int _] = [V.int i'] ∧ _) ∨ ∃ k, [V.int _] = [V.bl k] ∧ _); refine Or.inl ⟨_, rfl, ?_⟩)
  | ((with_reducible show ∃ p ys, [V.ref _] = [V.ref p] ∧ (SqL _ _ p ys ∨ SqT _ _ p ys) ∧ _); refine ⟨_, _, rfl, (by walk_at "seq"), ?_⟩)
  | ((with_reducible show tLc _ _ _ _ _ _ _ _); refine e_lc ?_)
  | ((with_reducible show tM0 _ _ _ _ _); refine e_m0 ?_)
  | ((with_reducible show tM1 _ _ _ _ _ _); refine e_m1 ?_)
  | ((with_reducible show ∃ k, V.str _ = V.str k ∧ _); refine e_exS ?_)
  | ((with_reducible show ∃ k, V.ref _ = V.ref k ∧ (∃ xs, SqL _ _ k xs) ∧ _); refine e_exR (by walk_at "sl") ?_)
  | ((with_reducible show ∃ k, V.ref _ = V.ref k ∧ (∃ xs, SqT _ _ k xs) ∧ _); refine e_exRT (by walk_at "slt") ?_)
  | ((with_reducible show ∃ j, [V.int _] = [V.int j] ∧ _ ≤ j ∧ j < _ ∧ _); refine e_rng1 (by omega) (by omega) ?_)
  | ((with_reducible show ∃ i j, [V.int _, V.int _] = [V.int i, V.int j] ∧ _ ∧ _); refine e_rng2 (by omega) ?_)
  | ((with_reducible show ∃ z', [V.str _] = [V.str z'] ∧ z'.length ≤ sizeLine ∧ _); refine ⟨_, rfl, (by walk_at "size"), ?_⟩)
  | ((with_reducible show (∃ a, V.str _ = V.str a) ∧ _); refine ⟨⟨_, rfl⟩, ?_⟩)
  | ((with_reducible show rSlS (V.str _) _ _ _ _); refine e_slS (by walk_at "size") ?_)
  | ((with_reducible show wipe _ _ = wipe _ _ ∧ _); refine ⟨rfl, ?_⟩)
  | ((with_reducible show List.length _ ≤ sizeLine ∧ ∀ p, _); refine ⟨(by walk_at "size"), fun p hp => ?_⟩)
  | ((with_reducible show rIsi _ _ _ _); first | refine isi_bb ?_ | refine isi_ib ?_ | refine isi_bi ?_ | refine isi_ii ?_ | refine isi_tt (by assumption) ?_ | refine isi_ll (by assumption) ?_)
  | ((with_reducible show spDraw _ _ _ _ _); refine ⟨_, _, _, rfl, _, _, _, _, rfl, rfl, rfl, (by walk_at "dr"), (by walk_at "ar"), (by walk_at "ar"), ?_⟩)
  | ((with_reducible show tUn _ _ _ _ _); refine e_un ?_)
  | ((with_reducible show rU _ (V.int _) _ _); refine e_U ?_)
  | ((with_reducible show ∃ i, [V.int _] = [V.int i] ∧ _); refine ⟨_, rfl, ?_⟩)
  | ((with_reducible show gTup _ _ _ _ _ _ _); refine ⟨_, _, rfl, (by walk_at "slt"), rfl, ?_⟩)
  | ((with_reducible show gCons _ _ _ _ _ _); refine ⟨_, _, rfl, ?_⟩)
  | ((with_reducible show gNil _ _ _ _); refine ⟨rfl, ?_⟩)
  | ((with_reducible show tAug _ _ _ _ _ _); refine e_aug rfl ?_)
  | ((with_reducible show if true = true then _ else _); refine i_T ?_)
  | ((with_reducible show if false = true then _ else _); refine i_F ?_))
local macro_rules | `(tactic| walk_at "st") => `(tactic| first | walk_at "st1" | walk_at "st2" | (dsimp only [List.append_nil, List.nil_append, List.cons_append, Bool.not_true, Bool.not_false]))
local macro_rules | `(tactic| walk_at "go") => `(tactic| repeat walk_at "st")
local macro_rules | `(tactic| walk_at "st") => `(tactic| first
  | ((with_reducible show iRevR _ _ _ _); refine e_iRevR ?_)
  | ((with_reducible show tRg1 _ _ _ _); refine e_rg1 ?_)
  | ((with_reducible show tRg2 _ _ _ _ _); refine e_rg2 ?_)
  | ((with_reducible show iEnum _ _ _ _ _); refine e_iEnum ?_)
  | ((with_reducible show iEnumT _ _ _ _ _); refine e_iEnumT ?_)
  | ((with_reducible show iRng3 _ _ _ _); refine e_iRng3 ?_)
  | ((with_reducible show ∃ p ys, [V.ref _] = [V.ref p] ∧ SqL _ _ p ys ∧ _); refine ⟨_, _, rfl, (by walk_at "sl"), ?_⟩)
  | ((with_reducible show ∃ p ys, [V.ref _] = [V.ref p] ∧ SqT _ _ p ys ∧ _); refine ⟨_, _, rfl, (by walk_at "slt"), ?_⟩)
  | ((with_reducible show tyV _ "list" (V.ref _) _ ∧ _); refine ⟨.inl ⟨rfl, _, (by walk_at "sl")⟩, ?_⟩)
  | ((with_reducible show ∃ a b, V.bl _ = V.bl a ∧ V.bl _ = V.bl b ∧ _); refine ⟨_, _, rfl, rfl, ?_⟩)
  | ((with_reducible show ∃ c, V.bl _ = V.bl c ∧ _); refine ⟨_, rfl, ?_⟩)
  | ((with_reducible show if (!true) = true then _ else _); refine i_F ?_)
  | ((with_reducible show if (!false) = true then _ else _); refine i_T ?_))
local macro_rules | `(tactic| walk_at "ent") => `(tactic| first
  | assumption
  | exact Ent.same (by assumption) (by assumption))
local macro_rules | `(tactic| walk_at "st") => `(tactic| first
  | ((with_reducible show tMake _ _ _ _ _ _ _ _); refine e_tMake ?_)
  | ((with_reducible show tFld _ _ _ _ _ _); refine e_tFld ?_)
  | ((with_reducible show sFld _ _ _ _ _ _ _); refine e_sFld ?_)
  | ((with_reducible show tTupP _ _ _ _); refine e_tupP ?_)
  | ((with_reducible show tJs (_ :: _) _ _ _ _); refine e_js ?_)
  | ((with_reducible show tJs [] _ _ _ _); refine e_js0 ?_)
  | ((with_reducible show tFmt _ _ _ _); refine e_fmt ?_)
  | ((with_reducible show tMaxF _ _ _ _ _ _); refine e_maxF ?_)
  | ((with_reducible show ∃ a C dx fs v, V.ref _ = V.ref a ∧ _); first
    | refine f_name (by assumption) (by walk_at "ent") ?_
    | refine f_height (by assumption) (by walk_at "ent") ?_
    | refine f_deleted (by assumption) (by walk_at "ent") ?_
    | refine f_time (by assumption) (by walk_at "ent") ?_
    | refine f_vector (by assumption) (by walk_at "ent") fun v hv => ?_
    | refine f_maker (by assumption) (by walk_at "ent") fun v hv => ?_
    | refine f_blocks (by assumption) (by walk_at "ent") fun v hv => ?_))
local macro_rules | `(tactic| walk_at "st") => `(tactic| ((with_reducible show tMake _ _ _ _ _ _ _ _); refine e_tMake ?_))
local macro_rules | `(tactic| walk_at "cond") => `(tactic| assumption)
local macro_rules | `(tactic| walk_at "st") => `(tactic| first
  | ((with_reducible show tDGet _ _ _ _ _); refine e_tDGet ?_)
  | ((with_reducible show tDGet2 _ _ _ _ _ _); refine e_tDGet2 ?_)
  | ((with_reducible show sDPut _ _ _ _ _ _); refine e_sDPut ?_)
  | ((with_reducible show tDIn _ _ _ _ _); refine e_tDIn ?_)
  | ((with_reducible show tDNotIn _ _ _ _ _); refine e_tDNotIn ?_)
  | ((with_reducible show tDSetd _ _ _ _ _ _); refine e_tDSetd ?_)
  | ((with_reducible show tDc _ _ _ _ _ _ _ _ _); refine e_dc ?_)
  | ((with_reducible show tLockE _ _ _ _); refine e_lockE ?_)
  | ((with_reducible show iItems _ _ _ _); refine e_iItems ?_)
  | ((with_reducible show sFldAug _ _ _ _ _ _ _ _); refine e_sFldAug ?_)
  | ((with_reducible show tMeth _ _ _ _ _ _ _ _ _ _); refine e_tMeth ?_))
local macro_rules | `(tactic| walk_at "sto") => `(tactic| first
  | assumption
  | exact Sto.same (by assumption) (by assumption)
  | exact Sto.sub (by assumption))
local macro_rules | `(tactic| walk_at "st") => `(tactic| first
  | ((with_reducible show ∃ a C dx fs v, V.ref _ = V.ref a ∧ _); first
    | refine s_files (by assumption) (by assumption) ?_
    | refine s_temps (by assumption) (by assumption) ?_
    | refine s_attic (by assumption) (by assumption) ?_
    | refine s_log (by assumption) (by assumption) ?_
    | refine s_nlog (by assumption) (by assumption) ?_
    | refine s_budget (by assumption) (by assumption) ?_
    | refine s_done (by assumption) (by assumption) ?_)
  | ((with_reducible show if (Option.isSome (some _)) = true then _ else _); refine i_some ?_)
  | ((with_reducible show if (Option.isSome none) = true then _ else _); refine i_none ?_)
  | ((with_reducible show if (!(Option.isSome (some _))) = true then _ else _); refine i_nsome ?_)
  | ((with_reducible show if (!(Option.isSome none)) = true then _ else _); refine i_nnone ?_)
  | ((with_reducible show ∃ a dx fs, V.ref _ = V.ref a ∧ _); refine s_meth (by walk_at "sto") (by decide) ?_))
local macro_rules | `(tactic| walk_at "st") => `(tactic| first
  | ((with_reducible show tRaiseErr _ _ _ _ _ _); refine e_raiseErr ?_)
  | ((with_reducible show tCallS _ _ _ _ _ _); refine e_callS ?_)
  | ((with_reducible show tPlcErr _ _ _ _ _ _ _ _); refine e_plcErr ?_)
  | ((with_reducible show tDPop1 _ _ _ _ _); refine e_tDPop1 ?_)
  | ((with_reducible show tDPop2 _ _ _ _ _ _); refine e_tDPop2 ?_)
  | ((with_reducible show tMethX _ _ _ _ _ _ _ _ _); refine e_tMethX ?_)
  | ((with_reducible show ∃ v, [_] = [v] ∧ ∀ d, _); refine ⟨_, rfl, ?_⟩))
local macro_rules | `(tactic| walk_at "st") => `(tactic| first
  | ((with_reducible show tFld _ _ _ _ _ _); refine e_tFld ?_)
  | ((with_reducible show sFld _ _ _ _ _ _ _); refine e_sFld ?_))
local macro_rules | `(tactic| walk_at "st") => `(tactic| first
  | ((with_reducible show tDGet1 _ _ _ _ _); refine e_tDGet1 ?_))
local macro_rules | `(tactic| walk_at "num") => `(tactic| repeat (first | walk_at "st" | refine i_dT (by decide) ?_ | refine i_dF (by decide) ?_))
local macro_rules | `(tactic| walk_at "st") => `(tactic| first
  | ((with_reducible show tDisp _ _ _ _); refine e_tDisp ?_)
  | ((with_reducible show tDNotIn _ _ _ _ _); refine e_tDNotIn ?_)
  | ((with_reducible show tPairs ((_, _) :: _) _ _ _); refine e_pairs1 ?_)
  | ((with_reducible show tPairs [] _ _ _); refine e_pairs0 ?_))
local macro_rules | `(tactic| walk_at "pul") => `(tactic| first
  | assumption
  | exact Pw.pul (by assumption)
  | exact Pul.same (by assumption) (by assumption))
local macro_rules | `(tactic| walk_at "st") => `(tactic| first
  | ((with_reducible show tMakX _ _ _ _ _ _ _); refine e_tMakX ?_)
  | ((with_reducible show ∃ a C dx fs v, V.ref _ = V.ref a ∧ _); first
    | refine p_store (by assumption) (by walk_at "pul") ?_
    | refine p_entry (by assumption) (by walk_at "pul") ?_)
  | ((with_reducible show ∃ a dx fs, V.ref _ = V.ref a ∧ _); refine p_meth (by walk_at "pul") (by decide) ?_))
local macro_rules | `(tactic| walk_at "st") => `(tactic| first
  | ((with_reducible show iKeys _ _ _ _); refine e_iKeys ?_))
section
variable {P : Program} {w : World} {K : PySem.W.Frag} {mg : Str → Option Value} {base : Heap}
theorem ok_block_number (T : Txt K mg)   {f : Addr} {fd : FuncData} (F : FnP K "block_number" s_block_number f fd) : FnOk P w K mg base CX0 1 f fd ["data"] (sp_block_number K) := by
  refine F.ok sc_block_number (fun vs H Q E h => ?_) (fun cdv A outer s H vs Q E hr h => ?_)
  · obtain ⟨_, rfl, _⟩ := h
    rfl
  · have S := sc_block_number
    refine ⟨_, PSs.nox (pss_cons (ps_set (i := 1) S.nd rfl (by first | exact .inl rfl | exact .inr rfl) pe_int)
    (pss_cons (ps_for PassesOwn.never rfl (pi_list (pv 0)) (pg_name (i := 2) S.nd rfl (by first | exact .inl rfl | exact .inr rfl))
    (pss_one (ps_set (i := 1) S.nd rfl (by first | exact .inl rfl | exact .inr rfl) (pe_op op_add (pe_op op_mul (pv 1) pe_int) (pv 2)))))
    (pss_one (ps_ret (pv 1))))), ?_⟩
    try dsimp only [cxOf, Cx.nox]
    obtain ⟨_, rfl, p, xs, rfl, hS, k⟩ := h
    walk_at "go"
    refine for_ints (ns := xs) (fun pre σ H1 => (∃ v2, σ = [some (.ref p), some (.int (bnum pre)), v2]) ∧ H1 = H) ⟨⟨_, rfl⟩, rfl⟩ (fun pre σ H1 q => by rw [q.2]; exact hS) (fun pre x post σ H1 e q => ?_) (fun σ H1 q => ?_)
    · obtain ⟨⟨v2, rfl⟩, rfl⟩ := q
      walk_at "go"
      refine ⟨⟨some (.int x), ?_⟩, rfl⟩
      have e2 : bnum (pre ++ [x]) = bnum pre * 256 + x := by
        unfold bnum
        rw [List.foldl_append]
        rfl
      rw [e2]
      rfl
    · obtain ⟨⟨v2, rfl⟩, rfl⟩ := q
      walk_at "go"
      exact k
theorem ok_block_size (T : Txt K mg)   {f : Addr} {fd : FuncData} (F : FnP K "block_size" s_block_size f fd) : FnOk P w K mg base CX0 1 f fd ["number"] (sp_block_size K) := by
  refine F.ok sc_block_size (fun vs H Q E h => ?_) (fun cdv A outer s H vs Q E hr h => ?_)
  · obtain ⟨_, rfl, _⟩ := h
    rfl
  · have S := sc_block_size
    refine ⟨_, PSs.nox (pss_cons (ps_for PassesOwn.never rfl (pi_range2 (by rfl) T.f_range (pa_cons pe_int (pa_cons (pe_op op_add (C8.pe_gc (by rfl) T.c_BLOCK) pe_int) pa_nil))) (pg_name (i := 1) S.nd rfl (by first | exact .inl rfl | exact .inr rfl))
    (pss_one (ps_if (pt_cmpR op_eq (pe_op op_shr (pv 0) (pe_op op_mul pe_int (pv 1))) pe_int (nomark _))
      (pss_one (ps_ret (pv 1)))
      pss_nil)))
    (pss_one (ps_ret pe_int))), ?_⟩
    try dsimp only [cxOf, Cx.nox]
    obtain ⟨_, rfl, n, rfl, k⟩ := h
    walk_at "go"
    refine for_rng (fun i σ H1 => (∃ v1, σ = [some (.int n), v1]) ∧ H1 = H ∧ (1 ≤ i → ¬ n / 256 = 1) ∧ (2 ≤ i → ¬ n / 65536 = 1) ∧ (3 ≤ i → ¬ n / 16777216 = 1) ∧ (4 ≤ i → ¬ n / 4294967296 = 1)) ⟨⟨_, rfl⟩, rfl, by omega, by omega, by omega, by omega⟩ (fun i σ H1 hi q => ?_) (fun σ H1 q => ?_)
    · obtain ⟨⟨v1, rfl⟩, rfl, q1, q2, q3, q4⟩ := q
      have hi4 : i < 4 := hi
      walk_at "go"
      match i, hi4 with
      | 0, _ =>
        show if decide (n / 256 = 1) = true then _ else _
        refine i_d (fun h1 => ?_) (fun h1 => ?_)
        · walk_at "go"
          have e : bsize n = 1 := by unfold bsize; rw [if_pos h1]
          rw [e] at k
          exact k
        · walk_at "go"
          exact ⟨⟨_, rfl⟩, rfl, fun _ => h1, by omega, by omega, by omega⟩
      | 1, _ =>
        show if decide (n / 65536 = 1) = true then _ else _
        refine i_d (fun h1 => ?_) (fun h1 => ?_)
        · walk_at "go"
          have e : bsize n = 2 := by unfold bsize; rw [if_neg (q1 (by omega)), if_pos h1]
          rw [e] at k
          exact k
        · walk_at "go"
          exact ⟨⟨_, rfl⟩, rfl, fun _ => q1 (by omega), fun _ => h1, by omega, by omega⟩
      | 2, _ =>
        show if decide (n / 16777216 = 1) = true then _ else _
        refine i_d (fun h1 => ?_) (fun h1 => ?_)
        · walk_at "go"
          have e : bsize n = 3 := by unfold bsize; rw [if_neg (q1 (by omega)), if_neg (q2 (by omega)), if_pos h1]
          rw [e] at k
          exact k
        · walk_at "go"
          exact ⟨⟨_, rfl⟩, rfl, fun _ => q1 (by omega), fun _ => q2 (by omega), fun _ => h1, by omega⟩
      | 3, _ =>
        show if decide (n / 4294967296 = 1) = true then _ else _
        refine i_d (fun h1 => ?_) (fun h1 => ?_)
        · walk_at "go"
          have e : bsize n = 4 := by unfold bsize; rw [if_neg (q1 (by omega)), if_neg (q2 (by omega)), if_neg (q3 (by omega)), if_pos h1]
          rw [e] at k
          exact k
        · walk_at "go"
          exact ⟨⟨_, rfl⟩, rfl, fun _ => q1 (by omega), fun _ => q2 (by omega), fun _ => q3 (by omega), fun _ => h1⟩
    · obtain ⟨⟨v1, rfl⟩, rfl, q1, q2, q3, q4⟩ := q
      walk_at "go"
      have e : bsize n = 0 := by unfold bsize; rw [if_neg (q1 (by decide)), if_neg (q2 (by decide)), if_neg (q3 (by decide)), if_neg (q4 (by decide))]
      rw [e] at k
      exact k
theorem ok_is_block (T : Txt K mg)  (c_block_size : Cal P w K mg base 1 "block_size" (sp_block_size K)) {f : Addr} {fd : FuncData} (F : FnP K "is_block" s_is_block f fd) : FnOk P w K mg base CX0 2 f fd ["number"] (sp_is_block K) := by
  refine F.ok sc_is_block (fun vs H Q E h => ?_) (fun cdv A outer s H vs Q E hr h => ?_)
  · obtain ⟨_, rfl, _⟩ := h
    rfl
  · have S := sc_is_block
    refine ⟨_, PSs.nox (pss_one (ps_ret (pe_cmpR op_gt (pe_c c_block_size hr (by decide) (by rfl) (pa_cons (pv 0) pa_nil)) pe_int (nomark _)))), ?_⟩
    try dsimp only [cxOf, Cx.nox]
    obtain ⟨_, rfl, n, rfl, k⟩ := h
    walk_at "go"
    refine ⟨_, rfl, n, rfl, ?_⟩
    walk_at "go"
    exact k
theorem ok_block_bytes (T : Txt K mg)  (c_block_size : Cal P w K mg base 1 "block_size" (sp_block_size K)) {f : Addr} {fd : FuncData} (F : FnP K "block_bytes" s_block_bytes f fd) : FnOk P w K mg base CX0 2 f fd ["number"] (sp_block_bytes K) := by
  refine F.ok sc_block_bytes (fun vs H Q E h => ?_) (fun cdv A outer s H vs Q E hr h => ?_)
  · obtain ⟨_, rfl, _⟩ := h
    rfl
  · have S := sc_block_bytes
    refine ⟨_, PSs.nox (pss_cons (ps_set (i := 1) S.nd rfl (by first | exact .inl rfl | exact .inr rfl) (pe_c c_block_size hr (by decide) (by rfl) (pa_cons (pv 0) pa_nil)))
    (pss_cons (ps_if (pt_cmpR op_eq (pv 1) pe_int (nomark _))
    (pss_one ps_never)
    pss_nil)
    (pss_one (ps_ret (pe_lc (own := [("behind", 2)]) (g := gName 2) (tt := tYes) rfl S.nd (pi_revR (by rfl) T.f_reversed (prg_1 (by rfl) T.f_range (pv 1))) (blkOk_by (N := N_block_bytes) (sc := defScope s_block_bytes) (by decide +kernel)) (fun _ _ _ _ _ => (pg_name (i := 2) S.nd rfl (by first | exact .inl rfl | exact .inr rfl))) (fun _ _ _ _ _ => pts_nil) (fun _ _ _ _ _ => (pe_op op_andM (pe_op op_shr (pv 0) (pe_op op_mul pe_int (pv 2))) pe_int))))))), ?_⟩
    try dsimp only [cxOf, Cx.nox]
    obtain ⟨_, rfl, n, rfl, hn, k⟩ := h
    walk_at "go"
    refine ⟨_, rfl, n, rfl, ?_⟩
    walk_at "go"
    refine i_d (fun h1 => ?_) (fun h1 => ?_)
    · exfalso; omega
    have h4 := (bsize_le n).2
    walk_at "go"
    refine ⟨by omega, by omega, by omega, by omega, ?_⟩
    intro D hD
    refine lc_map_rngC hD (by omega) (fun i => .int ((bbytes n).getD i 0)) (fun i H2 C E hi s2 hC => ?_) (fun H2 s2 e2 => ?_)
    · walk_at "go"
      refine ⟨_, 8, rfl, rfl, ?_⟩
      rw [byte_at hn hi]
      exact hC H2 (Same.refl H2)
    · refine k D H2 hD s2 ?_
      rw [e2, show (bsize n - 0).toNat = (bbytes n).length by rw [bbytes_length hn]; omega, map_getD]
theorem ok_split (T : Txt K mg)  (c_block_number : Cal P w K mg base 1 "block_number" (sp_block_number K)) {f : Addr} {fd : FuncData} (F : FnP K "split" s_split f fd) : FnOk P w K mg base CX0 2 f fd ["content"] (sp_split K) := by
  refine F.ok sc_split (fun vs H Q E h => ?_) (fun cdv A outer s H vs Q E hr h => ?_)
  · obtain ⟨_, rfl, _⟩ := h
    rfl
  · have S := sc_split
    refine ⟨_, PSs.nox (pss_one (ps_ret (pe_callTy call_tuple_of (by rfl) T.f_tuple (by first | rfl | decide +kernel) (pa_cons (pe_lc (own := [("at", 1)]) (g := gName 1) (tt := tYes) rfl S.nd (pi_range3 (by rfl) T.f_range (pa_cons pe_int (pa_cons (pe_callB call_len_seq (by rfl) T.f_len (by first | rfl | decide +kernel) (pa_cons (pv 0) pa_nil)) (pa_cons (C8.pe_gc (by rfl) T.c_BLOCK) pa_nil)))) (blkOk_by (N := N_split) (sc := defScope s_split) (by decide +kernel)) (fun _ _ _ _ _ => (pg_name (i := 1) S.nd rfl (by first | exact .inl rfl | exact .inr rfl))) (fun _ _ _ _ _ => pts_nil) (fun _ _ _ _ _ => (pe_c c_block_number hr (by decide) (by rfl) (pa_cons (pe_slice (slL K) (pv 0) (po_some (pv 1)) (po_some (pe_op op_add (pv 1) (C8.pe_gc (by rfl) T.c_BLOCK)))) pa_nil)))) pa_nil)))), ?_⟩
    try dsimp only [cxOf, Cx.nox]
    obtain ⟨_, rfl, p, xs, rfl, hS, hl, k⟩ := h
    walk_at "go"
    refine ⟨_, _, _, _, rfl, range4 (by omega) (by rw [List.length_map]; omega), ?_⟩
    intro D hD
    refine lc_map_rngC hD (by rw [List.length_map]; omega) (fun i => .int (bnum ((xs.drop (4 * i)).take 4))) (fun i H2 C E hi s2 hC => ?_) (fun H2 s2 e2 => ?_)
    · walk_at "go"
      refine e_slL (s2.seq hS) fun r hr => ?_
      rw [cut_chunk]
      walk_at "go"
      refine ⟨_, rfl, r, _, rfl, SqL.of upd_same, ?_⟩
      exact hC _ (same_new hr)
    · walk_at "go"
      refine ⟨D, _, rfl, .inl ⟨SqL.of e2, fun l hl2 => ?_⟩⟩
      refine k l _ (s2.free hl2) (s2.trans (same_new hl2)) ?_
      rw [upd_same, nums_range]
      have e : (((xs.map V.int).length : Nat) : Int).toNat = xs.length := by rw [List.length_map]; omega
      rw [e]
theorem ok_joined (T : Txt K mg)  (c_is_block : Cal P w K mg base 2 "is_block" (sp_is_block K)) (c_block_bytes : Cal P w K mg base 2 "block_bytes" (sp_block_bytes K)) {f : Addr} {fd : FuncData} (F : FnP K "joined" s_joined f fd) : FnOk P w K mg base CX0 3 f fd ["numbers"] (sp_joined K) := by
  refine F.ok sc_joined (fun vs H Q E h => ?_) (fun cdv A outer s H vs Q E hr h => ?_)
  · obtain ⟨_, rfl, _⟩ := h
    rfl
  · have S := sc_joined
    refine ⟨_, PSs.nox (pss_cons (ps_set (i := 1) S.nd rfl (by first | exact .inl rfl | exact .inr rfl) (pe_lst pa_nil))
    (pss_cons (ps_for PassesOwn.never rfl (pi_enumT (by rfl) T.f_enumerate (pa_cons (pv 0) pa_nil)) (pg_tup rfl (pgs_cons (pg_name (i := 2) S.nd rfl (by first | exact .inl rfl | exact .inr rfl)) (pgs_cons (pg_name (i := 3) S.nd rfl (by first | exact .inl rfl | exact .inr rfl)) pgs_nil)))
    (pss_cons (ps_if (pt_not (pt_val (pe_c c_is_block hr (by decide) (by rfl) (pa_cons (pv 3) pa_nil))))
      (pss_one ps_never)
      pss_nil)
      (pss_one (ps_expr (pe_bm PySem.F.plainAttrs_list PySem.F.slot_list_extend PySem.F.type_list_extend mt_extend (pv 1) (pa_cons (pe_c c_block_bytes hr (by decide) (by rfl) (pa_cons (pv 3) pa_nil)) pa_nil))))))
    (pss_one (ps_ret (pv 1))))), ?_⟩
    try dsimp only [cxOf, Cx.nox]
    obtain ⟨_, rfl, p, ns, rfl, hS, hl, hb, k⟩ := h
    walk_at "go"
    rename_i D hD
    have sD : Same H (upd H D (.lst [])) := same_new hD
    refine ⟨p, ns.map V.int, rfl, same_tup sD hS, ?_⟩
    refine for_enumIT (ns := ns) (fun pre σ H1 => (∃ v2 v3, σ = [some (.ref p), some (.ref D), v2, v3]) ∧ Same H H1 ∧ H1 D = some (.lst ((pre.flatMap bbytes).map V.int))) ⟨⟨_, _, rfl⟩, sD, upd_same⟩ (fun pre σ H1 q => same_tup q.2.1 hS) (fun pre x post t σ H1 e q ht => ?_) (fun σ H1 q => ?_)
    · obtain ⟨⟨v2, v3, rfl⟩, s1, e1⟩ := q
      have hx : 0 < bsize x := hb x (by rw [e]; simp)
      have s2 : Same H1 (upd H1 t (.tup [.int (pre.length : Nat), .int x])) := same_new ht
      walk_at "go"
      refine ⟨_, rfl, x, rfl, ?_⟩
      walk_at "go"
      refine i_nd (fun h1 => absurd hx h1) (fun h1 => ?_)
      walk_at "go"
      have e3 := s2 _ _ e1
      refine ⟨.inl ⟨rfl, _, SqL.of e3⟩, ?_⟩
      walk_at "go"
      refine ⟨_, rfl, x, rfl, hx, fun r H3 hr s3 e4 => ?_⟩
      walk_at "go"
      have hlen : (pre.flatMap bbytes).length ≤ 80000 := by
        have h5 := flat_len pre
        have h6 : pre.length ≤ ns.length := by rw [e]; simp
        omega
      refine e_ext (s3 _ _ e3) e4 (sz_of (by rw [List.length_map, List.length_map]; have := bbytes_len x; omega)) ?_
      refine ⟨⟨some (.int (pre.length : Nat)), some (.int x), rfl⟩, Same.mut ((s1.trans s2).trans s3) hD, ?_⟩
      rw [upd_same, List.flatMap_append, List.map_append]
      simp
    · obtain ⟨⟨v2, v3, rfl⟩, s1, e1⟩ := q
      walk_at "go"
      exact k D H1 hD s1 e1
theorem ok_near_places (T : Txt K mg)  (c_near_rows : Cal P w K mg base 4 "_near_rows" (sp_near_rows K)) {f : Addr} {fd : FuncData} (F : FnP K "near_places" s_near_places f fd) : FnOk P w K mg base CX0 5 f fd ["store", "entry"] (sp_near_places K) := by
  refine F.ok sc_near_places (fun vs H Q E h => ?_) (fun cdv A outer s H vs Q E hr h => ?_)
  · obtain ⟨_, _, rfl, _⟩ := h
    rfl
  · have S := sc_near_places
    refine ⟨_, PSs.nox (pss_cons (ps_set (i := 2) S.nd rfl (by first | exact .inl rfl | exact .inr rfl) pe_dnewK)
    (pss_cons (ps_for PassesOwn.never rfl (pi_list (pe_c c_near_rows hr (by decide) (by rfl) (pa_cons (pv 0) (pa_cons (pv 1) pa_nil)))) (pg_tup rfl (pgs_cons (pg_name (i := 3) S.nd rfl (by first | exact .inl rfl | exact .inr rfl)) (pgs_cons (pg_name (i := 4) S.nd rfl (by first | exact .inl rfl | exact .inr rfl)) (pgs_cons (pg_name (i := 5) S.nd rfl (by first | exact .inl rfl | exact .inr rfl)) pgs_nil))))
    (pss_one (ps_for PassesOwn.never rfl (pi_enumT (by rfl) T.f_enumerate (pa_cons (pv 5) pa_nil)) (pg_tup rfl (pgs_cons (pg_name (i := 6) S.nd rfl (by first | exact .inl rfl | exact .inr rfl)) (pgs_cons (pg_name (i := 7) S.nd rfl (by first | exact .inl rfl | exact .inr rfl)) pgs_nil)))
      (pss_one (ps_if (pt_cmp (pc_dnotin (hu_of hr) (pv 7) (pv 2)))
        (pss_one (ps_dput (hu_of hr) (pv 2) (pv 7) (pe_tup (pa_cons (pv 3) (pa_cons (pv 4) (pa_cons (pv 6) pa_nil)))) rfl))
        pss_nil)))))
    (pss_one (ps_ret (pv 2))))), ?_⟩
    try dsimp only [cxOf, Cx.nox]
    have st0 : STT K := ⟨T.cl_Store, T.no_Store__files, T.no_Store__temps, T.no_Store__attic, T.no_Store__log, T.no_Store__new_log, T.no_Store__budget, T.no_Store__done⟩
    have t : ET K := ⟨T.cl_Entry, T.no_Entry_name, T.no_Entry_vector, T.no_Entry_height, T.no_Entry_maker, T.no_Entry_deleted, T.no_Entry_time, T.no_Entry_blocks⟩
    obtain ⟨_, _, rfl, a, ea, F, S, p, e, rfl, rfl, hS, hE, hm, k⟩ := h
    walk_at "go"
    refine e_dnewK fun dN hdN => ?_
    have s0 := same_new (o := .dK []) hdN
    walk_at "go"
    refine ⟨_, _, rfl, a, ea, F, S, p, e, rfl, rfl, hS.same s0, hE.same s0, hm, fun r qs ys H2 s2 hr e2 hsr hq => ?_⟩
    walk_at "go"
    have ed0 := s2 _ _ (upd_same (H := H) (a := dN) (o := .dK []))
    have ndr : r ≠ dN := fun z => by rw [z, ed0] at e2; cases e2
    have ntd : ∀ d ∈ [dN], NT H2 d := fun d m => by rw [List.mem_singleton.mp m]; exact nt_dK ed0
    refine for_list (K := K) (xs := qs.map V.ref) (fun i σ H3 => (∃ v3 v4 v5 v6 v7, σ = [some (.ref a), some (.ref ea), some (.ref dN), v3, v4, v5, v6, v7]) ∧ Fr [dN] H2 H3 ∧ Same H H3 ∧ ∃ w, H3 dN = some (.dK (dci w)) ∧ Nrs (hid [dN] H3) w (((rowsOf S e.nm e.bl (keptS S e.nm e.bl) ys).take i).foldl nrow [])) ⟨⟨_, _, _, _, _, rfl⟩, Fr.refl _ _, s0.trans s2, [], ed0, .nil⟩ (fun i σ H3 _ q => SqL.of (q.2.1 _ _ (fun m => ndr (List.mem_singleton.mp m)) e2)) (fun i x σ H3 hx q => ?_) (fun σ H3 q => ?_)
    · obtain ⟨⟨v3, v4, v5, v6, v7, rfl⟩, f3, s3, w, e3, q3⟩ := q
      rw [List.getElem?_map] at hx
      obtain ⟨rq, hrq, rfl⟩ := Option.map_eq_some_iff.mp hx
      obtain ⟨rr, hrr, hra⟩ := paired_get hq i rq hrq
      obtain ⟨b, t1, t2⟩ := hra.fr f3 ntd
      have ntd3 : ∀ d ∈ [dN], NT H3 d := fun d m => by rw [List.mem_singleton.mp m]; exact nt_dK e3
      walk_at "go"
      rw [List.take_add_one, hrr, Option.toList, List.foldl_append, List.foldl_cons, List.foldl_nil]
      have lm0 : (((rowsOf S e.nm e.bl (keptS S e.nm e.bl) ys).take i).foldl nrow []).length ≤ 200000 := by
        obtain ⟨o1, o2⟩ := rows_ok hm hsr.1 e.nm (keptS S e.nm e.bl)
        have := near_len ((rowsOf S e.nm e.bl (keptS S e.nm e.bl) ys).take i) [] fun r h => o1 r (List.mem_of_mem_take h)
        rw [List.length_take] at this
        simp only [List.length_nil, Nat.zero_add] at this
        omega
      have lrr : rr.bl.length ≤ 1000 := (rows_ok hm hsr.1 e.nm (keptS S e.nm e.bl)).1 _ (List.mem_of_getElem? hrr)
      generalize ((rowsOf S e.nm e.bl (keptS S e.nm e.bl) ys).take i).foldl nrow [] = m0 at q3 lm0 ⊢
      refine for_enumIT (ns := rr.bl) (fun pre σ H4 => (∃ v6 v7, σ = [some (.ref a), some (.ref ea), some (.ref dN), some (.str rr.kd), some (kV rr.wh), some (.ref b), v6, v7]) ∧ Fr [dN] H3 H4 ∧ Same H H4 ∧ ∃ w, H4 dN = some (.dK (dci w)) ∧ Nrs (hid [dN] H4) w (pre.zipIdx.foldl (nadd rr.kd rr.wh) m0)) ⟨⟨_, _, rfl⟩, Fr.refl _ _, s3, w, e3, q3⟩ (fun pre σ H4 q => sqT_fr t2 q.2.1 ntd3) (fun pre x post T σ H4 e0 q hT => ?_) (fun σ H4 q => ?_)
      · obtain ⟨⟨v6, v7, rfl⟩, f4, s4, w, e4, q4⟩ := q
        have sT := same_new (o := .tup [.int (pre.length : Nat), .int x]) hT
        have e5 := sT _ _ e4
        rw [List.zipIdx_append, List.foldl_append]
        have lm1 := nadd_len rr.kd rr.wh pre.zipIdx m0
        rw [List.length_zipIdx] at lm1
        have lpre : pre.length ≤ 1000 := by
          have := congrArg List.length e0
          rw [List.length_append] at this
          omega
        generalize pre.zipIdx.foldl (nadd rr.kd rr.wh) m0 = m1 at q4 lm1 ⊢
        have ez : [x].zipIdx (0 + pre.length) = [(x, pre.length)] := by simp
        rw [ez, List.foldl_cons, List.foldl_nil]
        walk_at "go"
        refine ⟨dN, _, rfl, DGet.k (k := Sum.inl x) e5, _, rfl, ?_⟩
        rcases val_dci (R := NearA (hid [dN] H4)) x q4 with ⟨h1, h2⟩ | ⟨q, r, h1, h2, h3, h4⟩
        · rw [h1]
          walk_at "go"
          rename_i tq htq
          have s5 := same_new (o := .tup [.str rr.kd, kV rr.wh, .int (pre.length : Nat)]) htq
          have e6 := s5 _ _ e5
          have lw : w.length ≤ 1000000 := by
            have := paired_len q4
            omega
          refine ⟨dN, _, rfl, DPut.k (k := Sum.inl x) e6 (by unfold dci; rw [List.length_map]; exact Nat.lt_of_le_of_lt lw (by decide)), ⟨_, _, rfl⟩, ((f4.same sT).same s5).put (List.mem_cons_self ..), Same.mut ((s4.trans sT).trans s5) hdN, w ++ [(x, tq)], ?_, ?_⟩
          · rw [upd_same, putK_new _ h1]
            unfold dci
            rw [List.map_append]
            rfl
          · rw [hid_upd_in (List.mem_cons_self ..)]
            unfold nadd
            rw [if_neg h2]
            have nt : tq ∉ [dN] := fun m => by
              rw [List.mem_singleton.mp m, e5] at htq; cases htq
            exact Paired.snoc (paired_imp (fun _ _ z => ⟨z.1, hid_same (sT.trans s5) _ _ z.2⟩) q4) ⟨rfl, by
              show hid [dN] _ tq = _
              rw [hid_at nt]; exact upd_same⟩
        · rw [h1]
          walk_at "go"
          refine ⟨⟨_, _, rfl⟩, f4.same sT, s4.trans sT, w, e5, ?_⟩
          unfold nadd
          rw [if_pos h4]
          exact paired_imp (fun _ _ z => ⟨z.1, hid_same sT _ _ z.2⟩) q4
      · obtain ⟨⟨v6, v7, rfl⟩, f4, s4, w, e4, q4⟩ := q
        exact ⟨⟨_, _, _, _, _, rfl⟩, f3.trans f4, s4, w, e4, q4⟩
    · obtain ⟨⟨v3, v4, v5, v6, v7, rfl⟩, f3, s3, w, e3, q3⟩ := q
      rw [List.length_map, paired_len hq, List.take_length] at q3
      walk_at "go"
      exact k dN w ys H3 s3 hdN e3 hsr (paired_imp (fun _ _ z => ⟨z.1, hid_sub _ _ z.2⟩) q3)
theorem ok_near_rows (T : Txt K mg)  (c_kept_blocks : Cal P w K mg base 3 "kept_blocks" (sp_kept_blocks K)) (m_Store_names : C8.Met P w K mg base 1 (He.ga K "Store") "names" (sp_Store_names K) []) (c_split : Cal P w K mg base 2 "split" (sp_split K)) (m_Store_read : C8.Met P w K mg base 1 (He.ga K "Store") "read" (sp_Store_read K) []) (m_Store_attic : C8.Met P w K mg base 1 (He.ga K "Store") "attic" (sp_Store_attic K) []) {f : Addr} {fd : FuncData} (F : FnP K "_near_rows" s_near_rows f fd) : FnOk P w K mg base CX0 4 f fd ["store", "entry"] (sp_near_rows K) := by
  refine F.ok sc_near_rows (fun vs H Q E h => ?_) (fun cdv A outer s H vs Q E hr h => ?_)
  · obtain ⟨_, _, rfl, _⟩ := h
    rfl
  · have S := sc_near_rows
    refine ⟨_, PSs.nox (pss_cons (ps_set (i := 2) S.nd rfl (by first | exact .inl rfl | exact .inr rfl) (pe_tup (pa_cons pe_str (pa_cons (pe_fld (pv 1) rfl) (pa_cons (pe_slice sl_tupA (pe_fld (pv 1) rfl) po_none (po_some (pe_c c_kept_blocks hr (by decide) (by rfl) (pa_cons (pv 0) (pa_cons (pv 1) pa_nil))))) pa_nil)))))
    (pss_cons (ps_setLc (i := 3) (own := [("name", 5)]) (g := gName 5) (tt := tYes) rfl S.nd rfl rfl (sw_true rfl rfl rfl (by decide +kernel)) (pi_list (C8.pe_mt0 m_Store_names hr (by decide) (pv 0))) (blkOk_by (N := N_near_rows) (sc := defScope s_near_rows) (by decide +kernel)) (fun _ _ _ _ _ => (pg_name (i := 5) S.nd rfl (by first | exact .inl rfl | exact .inr rfl))) (fun _ _ _ _ _ => pts_nil) (fun _ _ _ _ _ => (pe_tup (pa_cons pe_str (pa_cons (pv 5) (pa_cons (pe_c c_split hr (by decide) (by rfl) (pa_cons (pe_ix (ixT K) (C8.pe_mt m_Store_read hr (by decide) (pv 0) (pa_cons (pv 5) pa_nil)) pe_int (fun _ _ => rfl)) pa_nil)) pa_nil))))))
    (pss_cons (ps_setLc (i := 4) (own := [("index", 6), ("row", 7)]) (g := gTup K 2 (gCons (gName 6) (gCons (gName 7) gNil))) (tt := tYes) rfl S.nd rfl rfl (sw_true rfl rfl rfl (by decide +kernel)) (pi_enum (by rfl) T.f_enumerate (pa_cons (C8.pe_mt0 m_Store_attic hr (by decide) (pv 0)) pa_nil)) (blkOk_by (N := N_near_rows) (sc := defScope s_near_rows) (by decide +kernel)) (fun _ _ _ _ _ => (pg_tupK (n := 2) K rfl (pgs_cons (pg_name (i := 6) S.nd rfl (by first | exact .inl rfl | exact .inr rfl)) (pgs_cons (pg_name (i := 7) S.nd rfl (by first | exact .inl rfl | exact .inr rfl)) pgs_nil)))) (fun _ _ _ _ _ => pts_nil) (fun _ _ _ _ _ => (pe_tup (pa_cons pe_str (pa_cons (pv 6) (pa_cons (pe_c c_split hr (by decide) (by rfl) (pa_cons (pe_ix (ixT K) (pv 7) pe_int (fun _ _ => rfl)) pa_nil)) pa_nil))))))
    (pss_one (ps_ret (pe_op op_cat (pe_op op_cat (pe_lst (pa_cons (pv 2) pa_nil)) (pv 3)) (pv 4))))))), ?_⟩
    try dsimp only [cxOf, Cx.nox]
    have st0 : STT K := ⟨T.cl_Store, T.no_Store__files, T.no_Store__temps, T.no_Store__attic, T.no_Store__log, T.no_Store__new_log, T.no_Store__budget, T.no_Store__done⟩
    have t : ET K := ⟨T.cl_Entry, T.no_Entry_name, T.no_Entry_vector, T.no_Entry_height, T.no_Entry_maker, T.no_Entry_deleted, T.no_Entry_time, T.no_Entry_blocks⟩
    obtain ⟨_, _, rfl, a, ea, F, S, p, e, rfl, rfl, hS, hE, hm, k⟩ := h
    walk_at "go"
    rename_i v hv
    refine ⟨_, _, rfl, a, ea, F, S, p, e, rfl, rfl, hS, hE, hm, fun H1 s1 => ?_⟩
    refine ⟨_, rfl, e_slA (same_tup s1 hv) fun r H2 s2 hr => ?_⟩
    walk_at "go"
    rename_i t0 ht0
    have s3 := same_new (o := .tup [.str "temp", .str e.nm, .ref r]) ht0
    have s03 := (s1.trans s2).trans s3
    have hS3 := hS.same s03
    walk_at "go"
    refine ⟨_, rfl, a, F, S, rfl, hS3, hm.f, fun pn H4 ys hpn s4 e4 hpy hsy => ?_⟩
    have yl : ys.length < 64 := by rw [hpy.length_eq, List.length_map]; exact hm.f
    walk_at "go"
    intro D hD
    refine lc_rel (walk_list (K := K) (xs := ys.map V.str)) hD (by rw [List.length_map]; omega) (fun H1 s1 => s1.seq (SqL.of e4)) (fun i v H1 => ∃ q y, v = .ref q ∧ ys[i]? = some y ∧ RowA K H1 q (fRow S y)) (fun i v H1 H2 h s => ?_) (fun i y H1 H2 C E acc hi s1 e1 hy hC => ?_) (fun H5 us s5 e5 l5 hr5 => ?_)
    · obtain ⟨q, y, h1, h2, h3⟩ := h
      exact ⟨q, y, h1, h2, h3.same s⟩
    · obtain ⟨rfl, hx⟩ := hy
      rw [List.getElem?_map] at hx
      obtain ⟨y, hq, rfl⟩ := Option.map_eq_some_iff.mp hx
      obtain ⟨rr, hrr, mr⟩ := lk_mem (hpy.mem_iff.mp (List.mem_of_getElem? hq))
      have hS5 := hS3.same (s4.trans s1)
      walk_at "go"
      refine ⟨_, _, rfl, a, F, S, y, rfl, rfl, hS5, fun hn9 => (by rw [hrr] at hn9; cases hn9), fun r9 hr9 t l H6 _ _ s6 e6 e7 => ?_⟩
      obtain rfl : rr = r9 := Option.some.inj (hrr.symm.trans hr9)
      walk_at "go"
      refine e_ixT (SqT.of e6) rfl ?_
      walk_at "go"
      refine ⟨_, rfl, l, rr.1, rfl, SqL.of e7, Nat.le_trans (hm.fl _ mr) (by decide), fun q H7 hq7 s7 e8 => ?_⟩
      walk_at "go"
      rename_i tt htt
      have s8 := same_new (o := .tup [.str "file", .str y, .ref q]) htt
      refine hC _ _ ((s6.trans s7).trans s8) ⟨tt, y, rfl, hq, ?_⟩
      have nq : q ∉ [D] := fun m => by
        rw [List.mem_singleton.mp m, s6 _ _ e1] at hq7; cases hq7
      have nt : tt ∉ [D] := fun m => by
        rw [List.mem_singleton.mp m, s7 _ _ (s6 _ _ e1)] at htt; cases htt
      unfold fRow
      rw [hrr]
      exact ⟨q, by rw [hid_at nt]; exact upd_same, SqT.of (by rw [hid_at nq]; exact s8 _ _ e8)⟩
    obtain ⟨fq, rfl⟩ := all_refs us fun u m => by
      obtain ⟨i, hi⟩ := List.getElem?_of_mem m
      obtain ⟨q, _, e, _⟩ := hr5 i u hi
      exact ⟨q, e⟩
    rw [List.length_map, List.length_map] at l5
    have pF : Rws K H5 fq (ys.map (fRow S)) := prd_mk (by rw [List.length_map]; exact l5) fun i q r h1 h2 => by
      obtain ⟨q2, y, e2, e3, e4⟩ := hr5 i (.ref q) (by rw [List.getElem?_map, h1]; rfl)
      cases e2
      rw [List.getElem?_map, e3] at h2
      cases h2
      exact e4.same hid_sub
    have s45 := s4.trans s5
    have hS5 := hS3.same s45
    walk_at "go"
    refine ⟨_, rfl, a, F, S, rfl, hS5, Nat.le_trans hm.a (by decide), fun pa qa H6 hpa s6 e6 hAt _ => ?_⟩
    have la := paired_len hAt
    walk_at "go"
    intro D2 hD2
    refine lc_rel (walk_enum (K := K) (xs := qa.map V.ref)) hD2 (by rw [List.length_map]; have := hm.a; omega) (fun H1 s1 => s1.seq (SqL.of e6)) (fun i v H1 => ∃ q, v = .ref q ∧ RowA K H1 q (aRow S i)) (fun i v H1 H2 h s => ?_) (fun i y H1 H2 C E acc hi s1 e1 hy hC => ?_) (fun H7 us s7 e7 l7 hr7 => ?_)
    · obtain ⟨q, h1, h3⟩ := h
      exact ⟨q, h1, h3.same s⟩
    · obtain ⟨T, x, y, rfl, hT, rfl, hx, hy⟩ := hy
      cases (Option.some.inj hx)
      have hy : (qa.map V.ref)[i]? = some y := hy
      rw [List.getElem?_map] at hy
      obtain ⟨q, hq, rfl⟩ := Option.map_eq_some_iff.mp hy
      obtain ⟨rr, hrr, vv, l, t1, t2, t3⟩ := paired_get hAt i q hq
      have sT := same_new (o := .tup [.int (i : Nat), .ref q]) hT
      have t1 := sT _ _ (s1 _ _ t1)
      have t3 := sT _ _ (s1 _ _ t3)
      walk_at "go"
      refine e_ixT (SqT.of t1) rfl ?_
      walk_at "go"
      refine ⟨_, rfl, l, rr.2.2, rfl, SqL.of t3, Nat.le_trans (hm.al _ (List.mem_of_getElem? hrr)) (by decide), fun q7 H7 hq7 s7 e8 => ?_⟩
      walk_at "go"
      rename_i tt htt
      have s8 := same_new (o := .tup [.str "attic", .int (i : Nat), .ref q7]) htt
      refine hC _ _ ((sT.trans s7).trans s8) ⟨tt, rfl, ?_⟩
      have nq : q7 ∉ [D2] := fun m => by
        rw [List.mem_singleton.mp m, sT _ _ e1] at hq7; cases hq7
      have nt : tt ∉ [D2] := fun m => by
        rw [List.mem_singleton.mp m, s7 _ _ (sT _ _ e1)] at htt; cases htt
      unfold aRow
      rw [hrr]
      exact ⟨q7, by rw [hid_at nt]; exact upd_same, SqT.of (by rw [hid_at nq]; exact s8 _ _ e8)⟩
    obtain ⟨gq, rfl⟩ := all_refs us fun u m => by
      obtain ⟨i, hi⟩ := List.getElem?_of_mem m
      obtain ⟨q, e, _⟩ := hr7 i u hi
      exact ⟨q, e⟩
    rw [List.length_map, List.length_map, la] at l7
    have pA : Rws K H7 gq ((List.range S.at_.length).map (aRow S)) := prd_mk (by rw [List.length_map, List.length_range]; exact l7) fun i q r h1 h2 => by
      obtain ⟨q2, e2, e4⟩ := hr7 i (.ref q) (by rw [List.getElem?_map, h1]; rfl)
      cases e2
      have hi := (List.getElem?_eq_some_iff.mp h1).1
      rw [List.getElem?_map, List.getElem?_range (by omega)] at h2
      cases h2
      exact e4.same hid_sub
    walk_at "go"
    rename_i pl hpl
    have s8 := same_new (o := .lst [.ref t0]) hpl
    have s67 := s6.trans s7
    refine e_cat upd_same (s8 _ _ (s67 _ _ e5)) (by rw [List.length_map]; simp; omega) fun p2 hp2 => ?_
    have s9 := same_new (o := .lst ([.ref t0] ++ fq.map V.ref)) hp2
    walk_at "go"
    refine e_cat upd_same (s9 _ _ (s8 _ _ e7)) (by simp; have := hm.a; omega) fun p3 hp3 => ?_
    have s10 := same_new (o := .lst ([.ref t0] ++ fq.map V.ref ++ gq.map V.ref)) hp3
    have s7f := (s8.trans s9).trans s10
    have s5f := s67.trans s7f
    have s3f := s45.trans s5f
    walk_at "go"
    refine k p3 (t0 :: (fq ++ gq)) ys _ (s03.trans s3f) (((s03.trans s45).trans s67).free (s8.free (s9.free hp3))) ?_ ⟨hpy, hsy⟩ ?_
    · rw [upd_same]; simp
    · unfold rowsOf
      refine .cons ⟨r, s3f _ _ upd_same, ?_⟩ (prd_app (paired_imp (fun _ _ q => q.same s5f) pF) (paired_imp (fun _ _ q => q.same s7f) pA))
      refine same_tup (s3.trans s3f) ?_
      rw [← cut_to]
      exact hr
theorem ok_kept_blocks (T : Txt K mg)  (m_Store_temp : C8.Met P w K mg base 1 (He.ga K "Store") "temp" (sp_Store_temp K) []) (c_block_bytes : Cal P w K mg base 2 "block_bytes" (sp_block_bytes K)) {f : Addr} {fd : FuncData} (F : FnP K "kept_blocks" s_kept_blocks f fd) : FnOk P w K mg base CX0 3 f fd ["store", "entry"] (sp_kept_blocks K) := by
  refine F.ok sc_kept_blocks (fun vs H Q E h => ?_) (fun cdv A outer s H vs Q E hr h => ?_)
  · obtain ⟨_, _, rfl, _⟩ := h
    rfl
  · have S := sc_kept_blocks
    refine ⟨_, PSs.nox (pss_cons (ps_set (i := 2) S.nd rfl (by first | exact .inl rfl | exact .inr rfl) (C8.pe_mt m_Store_temp hr (by decide) (pv 0) (pa_cons (pe_fld (pv 1) rfl) pa_nil)))
    (pss_cons (ps_if (pt_cmpR op_isN (pv 2) pe_non (nomark _))
    (pss_one (ps_ret pe_int))
    pss_nil)
    (pss_cons (ps_set (i := 3) S.nd rfl (by first | exact .inl rfl | exact .inr rfl) pe_int)
    (pss_cons (ps_for PassesOwn.never rfl (pi_enumT (by rfl) T.f_enumerate (pa_cons (pe_fld (pv 1) rfl) pa_nil)) (pg_tup rfl (pgs_cons (pg_name (i := 4) S.nd rfl (by first | exact .inl rfl | exact .inr rfl)) (pgs_cons (pg_name (i := 5) S.nd rfl (by first | exact .inl rfl | exact .inr rfl)) pgs_nil)))
    (pss_cons (ps_set (i := 6) S.nd rfl (by first | exact .inl rfl | exact .inr rfl) (pe_c c_block_bytes hr (by decide) (by rfl) (pa_cons (pv 5) pa_nil)))
      (pss_cons (ps_if (pt_cmpR (op_neP hr.units) (pe_slice sl_list (pv 2) (po_some (pv 3)) (po_some (pe_op op_add (pv 3) (pe_callB call_len_seq (by rfl) T.f_len (by first | rfl | decide +kernel) (pa_cons (pv 6) pa_nil))))) (pv 6) (nomark _))
      (pss_one (ps_ret (pv 4)))
      pss_nil)
      (pss_one (ps_aug (i := 3) S.nd rfl (by first | exact .inl rfl | exact .inr rfl) (pe_callB call_len_seq (by rfl) T.f_len (by first | rfl | decide +kernel) (pa_cons (pv 6) pa_nil)) ip_add)))))
    (pss_one (ps_ret (pe_callB call_len_seq (by rfl) T.f_len (by first | rfl | decide +kernel) (pa_cons (pe_fld (pv 1) rfl) pa_nil)))))))), ?_⟩
    try dsimp only [cxOf, Cx.nox]
    have st0 : STT K := ⟨T.cl_Store, T.no_Store__files, T.no_Store__temps, T.no_Store__attic, T.no_Store__log, T.no_Store__new_log, T.no_Store__budget, T.no_Store__done⟩
    have t : ET K := ⟨T.cl_Entry, T.no_Entry_name, T.no_Entry_vector, T.no_Entry_height, T.no_Entry_maker, T.no_Entry_deleted, T.no_Entry_time, T.no_Entry_blocks⟩
    obtain ⟨_, _, rfl, a, ea, F, S, p, e, rfl, rfl, hS, hE, hm, k⟩ := h
    walk_at "go"
    refine ⟨_, _, rfl, a, F, S, e.nm, rfl, rfl, hS, fun hn => ?_, fun bs hb l H1 hl s1 e1 => ?_⟩
    · walk_at "go"
      refine ⟨rfl, _, rfl, i_self ?_⟩
      walk_at "go"
      have := k H (Same.refl _)
      rw [show keptS S e.nm e.bl = 0 by unfold keptS; rw [hn]] at this
      exact this
    have ek : keptS S e.nm e.bl = keptN e.bl bs := by unfold keptS; rw [hb]
    rw [ek] at k
    walk_at "go"
    refine ⟨rfl, _, rfl, i_d (fun z => nomatch z) (fun _ => ?_)⟩
    walk_at "go"
    rename_i v hv
    refine for_enumIT (ns := e.bl) (fun pre σ H2 => (∃ v4 v5 v6, σ = [some (.ref a), some (.ref ea), some (.ref l), some (.int ((pre.flatMap bbytes).length : Nat)), v4, v5, v6]) ∧ Same H1 H2 ∧ keptN e.bl bs = pre.length + keptN (e.bl.drop pre.length) (bs.drop (pre.flatMap bbytes).length)) ⟨⟨_, _, _, rfl⟩, Same.refl _, by simp⟩ (fun pre σ H2 q => same_tup q.2.1 hv) (fun pre x post T σ H2 e0 q hT => ?_) (fun σ H2 q => ?_)
    · obtain ⟨⟨v4, v5, v6, rfl⟩, s2, q⟩ := q
      have sT := same_new (o := .tup [.int (pre.length : Nat), .int x]) hT
      have hx : x ∈ e.bl := by rw [e0]; simp
      rw [show e.bl.drop pre.length = x :: post by rw [e0]; simp] at q
      walk_at "go"
      refine ⟨_, rfl, x, rfl, hm.bb x hx, fun d H3 hd s3 e3 => ?_⟩
      walk_at "go"
      refine e_slL (SqL.of (s3 _ _ (sT _ _ (s2 _ _ e1)))) fun r hr => ?_
      rw [List.length_map, cut_mid]
      have s4 := same_new (o := .lst (((bs.drop (pre.flatMap bbytes).length).take (bbytes x).length).map V.int)) hr
      walk_at "go"
      refine e_nePL (SqL.of upd_same) (SqL.of (s4 _ _ e3)) ?_
      walk_at "go"
      refine i_nd (fun ne => ?_) (fun eq => ?_)
      · walk_at "go"
        rw [keptN_c, if_neg ne] at q
        rw [q] at k
        exact k _ (s1.trans (((s2.trans sT).trans s3).trans s4))
      · walk_at "go"
        rw [keptN_c, if_pos eq] at q
        refine ⟨d, _, rfl, .inl (SqL.of (s4 _ _ e3)), ?_⟩
        walk_at "go"
        refine ⟨_, _, rfl, rfl, ⟨some (.int (pre.length : Nat)), some (.int x), some (.ref d), ?_⟩, ((s2.trans sT).trans s3).trans s4, ?_⟩
        · rw [List.length_map, List.flatMap_append, List.length_append]
          simp only [List.flatMap_cons, List.flatMap_nil, List.append_nil]
          rfl
        · rw [q, e0]
          simp [List.flatMap_append]
          omega
    · obtain ⟨⟨v4, v5, v6, rfl⟩, s2, q⟩ := q
      rw [List.drop_length] at q
      have q : keptN e.bl bs = e.bl.length := by rw [q]; rfl
      rw [q] at k
      have hv2 := same_tup s2 hv
      have hE2 := hE.same (s1.trans s2)
      walk_at "go"
      rw [List.length_map]
      exact k _ (s1.trans s2)
theorem ok_missing (T : Txt K mg)  (c_near_places : Cal P w K mg base 5 "near_places" (sp_near_places K)) (c_kept_blocks : Cal P w K mg base 3 "kept_blocks" (sp_kept_blocks K)) {f : Addr} {fd : FuncData} (F : FnP K "missing" s_missing f fd) : FnOk P w K mg base CX0 6 f fd ["store", "entry"] (sp_missing K) := by
  refine F.ok sc_missing (fun vs H Q E h => ?_) (fun cdv A outer s H vs Q E hr h => ?_)
  · obtain ⟨_, _, rfl, _⟩ := h
    rfl
  · have S := sc_missing
    refine ⟨_, PSs.nox (pss_cons (ps_set (i := 2) S.nd rfl (by first | exact .inl rfl | exact .inr rfl) (pe_c c_near_places hr (by decide) (by rfl) (pa_cons (pv 0) (pa_cons (pv 1) pa_nil))))
    (pss_cons (ps_set (i := 3) S.nd rfl (by first | exact .inl rfl | exact .inr rfl) (pe_lst pa_nil))
    (pss_cons (ps_for PassesOwn.never rfl (pi_tup (pe_slice sl_tupA (pe_fld (pv 1) rfl) (po_some (pe_c c_kept_blocks hr (by decide) (by rfl) (pa_cons (pv 0) (pa_cons (pv 1) pa_nil)))) po_none)) (pg_name (i := 4) S.nd rfl (by first | exact .inl rfl | exact .inr rfl))
    (pss_one (ps_if (pw_and (pt_cmp (pc_dnotin (hu_of hr) (pv 4) (pv 2))) (pw_and1 (pt_cmpR op_notIn_seq (pv 4) (pv 3) (by first | rfl | with_unfolding_all rfl)))).pt
      (pss_one (ps_expr (pe_bm PySem.F.plainAttrs_list PySem.F.slot_list_append PySem.F.type_list_append mt_append (pv 3) (pa_cons (pv 4) pa_nil))))
      pss_nil)))
    (pss_one (ps_ret (pv 3)))))), ?_⟩
    try dsimp only [cxOf, Cx.nox]
    have st0 : STT K := ⟨T.cl_Store, T.no_Store__files, T.no_Store__temps, T.no_Store__attic, T.no_Store__log, T.no_Store__new_log, T.no_Store__budget, T.no_Store__done⟩
    have t : ET K := ⟨T.cl_Entry, T.no_Entry_name, T.no_Entry_vector, T.no_Entry_height, T.no_Entry_maker, T.no_Entry_deleted, T.no_Entry_time, T.no_Entry_blocks⟩
    obtain ⟨_, _, rfl, a, ea, F, S, p, e, rfl, rfl, hS, hE, hm, k⟩ := h
    walk_at "go"
    refine ⟨_, _, rfl, a, ea, F, S, p, e, rfl, rfl, hS, hE, hm, fun d w ys H1 s1 hd e1 hsr hw => ?_⟩
    have hE1 := hE.same s1
    walk_at "go"
    rename_i l hl
    have s2 := same_new (o := .lst []) hl
    have hE2 := hE1.same s2
    have hS2 := hS.same (s1.trans s2)
    walk_at "go"
    rename_i v hv
    refine ⟨_, _, rfl, a, ea, F, S, p, e, rfl, rfl, hS2, hE2, hm, fun H3 s3 => ?_⟩
    refine ⟨_, rfl, ?_⟩
    walk_at "go"
    refine e_slA (same_tup s3 hv) fun r H4 s4 hr => ?_
    rw [cut_from] at hr
    have s34 := s3.trans s4
    have e4 := s34 _ _ (s2 _ _ e1)
    have hw4 : Nrs H4 w _ := paired_imp (fun _ _ z => ⟨z.1, (s2.trans s34) _ _ z.2⟩) hw
    have ndl : d ≠ l := fun z => by rw [z, hl] at e1; cases e1
    have el := s34 _ _ (upd_same (H := H1) (a := l) (o := .lst []))
    have ntl : ∀ d ∈ [l], NT H4 d := fun d m => by rw [List.mem_singleton.mp m]; exact nt_lst el
    walk_at "go"
    generalize hm0 : nearOf (rowsOf S e.nm e.bl (keptS S e.nm e.bl) ys) = m at hw4
    have lb : (e.bl.drop (keptS S e.nm e.bl)).length ≤ 1000 := by
      have := hm.b
      rw [List.length_drop]
      omega
    generalize e.bl.drop (keptS S e.nm e.bl) = bl at k hr lb
    refine for_intsT (ns := bl) (fun pre σ H5 => (∃ v4, σ = [some (.ref a), some (.ref ea), some (.ref d), some (.ref l), v4]) ∧ Fr [l] H4 H5 ∧ Same H1 H5 ∧ H5 l = some (.lst ((missOf m pre).map V.int)) ∧ (missOf m pre).length ≤ pre.length) ⟨⟨_, rfl⟩, Fr.refl _ _, s2.trans s34, el, Nat.le_refl _⟩ (fun pre σ H5 q => sqT_fr hr q.2.1 ntl) (fun pre x post σ H5 e0 q => ?_) (fun σ H5 q => ?_)
    · obtain ⟨⟨v4, rfl⟩, f5, s5, e5, l5⟩ := q
      have ed5 := f5 _ _ (fun z => ndl (List.mem_singleton.mp z)) e4
      have em : missOf m (pre ++ [x]) = if x ∈ m.map (·.1) ∨ x ∈ missOf m pre then missOf m pre else missOf m pre ++ [x] := by
        unfold missOf
        rw [List.foldl_append]
        rfl
      have lp : pre.length ≤ 1000 := by
        have := congrArg List.length e0
        rw [List.length_append] at this
        omega
      walk_at "go"
      refine ⟨d, _, rfl, DGet.k (k := Sum.inl x) ed5, _, rfl, ?_⟩
      rcases val_dci (R := NearA H4) x hw4 with ⟨h1, h2⟩ | ⟨q, r, h1, h2, h3, h4⟩
      · rw [h1]
        walk_at "go"
        refine e_ninL (SqL.of e5) ?_
        walk_at "go"
        refine i_nd (fun n => ?_) (fun y => ?_)
        · rw [if_neg (fun z => z.elim h2 n)] at em
          rw [em]
          walk_at "go"
          refine ⟨l, _, _, rfl, rfl, e5, ?_, ⟨_, rfl⟩, f5.put (List.mem_cons_self ..), Same.mut s5 hl, ?_, by simp only [List.length_append, List.length_singleton]; omega⟩
          · rw [List.length_map]
            exact Nat.lt_of_le_of_lt (by omega : _ ≤ 1000) (by decide)
          · rw [upd_same, List.map_append]; rfl
        · rw [if_pos (.inr y)] at em
          rw [em]
          walk_at "go"
          exact ⟨⟨_, rfl⟩, f5, s5, e5, by rw [List.length_append]; omega⟩
      · rw [if_pos (.inl h4)] at em
        rw [h1, em]
        walk_at "go"
        exact ⟨⟨_, rfl⟩, f5, s5, e5, by rw [List.length_append]; omega⟩
    · obtain ⟨⟨v4, rfl⟩, f5, s5, e5, l5⟩ := q
      walk_at "go"
      rw [← hm0] at e5
      exact k l ys H5 (s1.trans s5) (s1.free hl) hsr e5
theorem ok_Pull___init__ (T : Txt K mg)  (m_Store_temp : C8.Met P w K mg base 1 (He.ga K "Store") "temp" (sp_Store_temp K) []) (c_joined : Cal P w K mg base 3 "joined" (sp_joined K)) (m_Pull_count : C8.Met P w K mg base 4 (He.ga K "Pull") "count" (sp_Pull_count K) []) (m_Store_cut_temp : MetX P w K mg base 4 (He.ga K "Store") "cut_temp" (sp_Store_cut_temp K)) {f : Addr} {fd : FuncData} (F : FunD K "__init__" "Pull.__init__" (defArgs s_Pull___init__) (defBody s_Pull___init__) (defScope s_Pull___init__) [] [] f fd) : FnOk P w K mg base (L2.CX P w) 5 f fd ["self", "store", "entry"] (sp_Pull___init__ K) := by
  refine F.ok sc_Pull___init__ (fun vs H Q E h => ?_) (fun cdv A outer s H vs Q E hr h => ?_)
  · obtain ⟨_, _, _, rfl, _⟩ := h
    rfl
  · have S := sc_Pull___init__
    refine ⟨_, (pss_cons (ps_fld (pv 0) (pv 1) rfl)
    (pss_cons (ps_fld (pv 0) (pv 2) rfl)
    (pss_cons (ps_set (i := 3) S.nd rfl (by first | exact .inl rfl | exact .inr rfl) (C8.pe_mt m_Store_temp hr (by decide) (pv 1) (pa_cons (pe_fld (pv 2) rfl) pa_nil)))
    (pss_cons (ps_set (i := 4) S.nd rfl (by first | exact .inl rfl | exact .inr rfl) (pe_callB call_len_seq (by rfl) T.f_len (by first | rfl | decide +kernel) (pa_cons (pe_c c_joined hr (by decide) (by rfl) (pa_cons (pe_slice sl_tupA (pe_fld (pv 2) rfl) po_none (po_some (C8.pe_mt0 m_Pull_count hr (by decide) (pv 0)))) pa_nil)) pa_nil)))
    (pss_one (ps_if (pw_and (pt_cmpR op_notN (pv 3) pe_non (nomark _)) (pw_and1 (pt_cmpR op_gt (pe_callB call_len_seq (by rfl) T.f_len (by first | rfl | decide +kernel) (pa_cons (pv 3) pa_nil)) (pv 4) (nomark _)))).pt
    (pss_one (ps_expr (pe_mtX m_Store_cut_temp hr (by decide) (takes_of rfl rfl rfl rfl) (pv 1) (pa_cons (pe_fld (pv 2) rfl) (pa_cons (pv 4) pa_nil)))))
    pss_nil)))))), ?_⟩
    try dsimp only [cxOf, Cx.nox]
    have st0 : STT K := ⟨T.cl_Store, T.no_Store__files, T.no_Store__temps, T.no_Store__attic, T.no_Store__log, T.no_Store__new_log, T.no_Store__budget, T.no_Store__done⟩
    have t : ET K := ⟨T.cl_Entry, T.no_Entry_name, T.no_Entry_vector, T.no_Entry_height, T.no_Entry_maker, T.no_Entry_deleted, T.no_Entry_time, T.no_Entry_blocks⟩
    have pt : PT K := ⟨T.cl_Pull, T.no_Pull__store, T.no_Pull__entry⟩
    obtain ⟨_, _, _, rfl, p, a, ea, dx, F, D, S, e, rfl, rfl, rfl, ep, npD, hA, hS, hE, hm, ht, k, kx⟩ := h
    have npF : p ∉ F := hS.notin (List.mem_cons_self ..)
    walk_at "go"
    refine ⟨p, _, dx, _, rfl, ep, pt.cl, pt.n1, by decide, ?_⟩
    walk_at "go"
    refine ⟨p, _, dx, _, rfl, upd_same, pt.cl, pt.n2, (by show 1 < 1000; decide), ?_⟩
    simp only [upd_upd]
    have mp : p ∈ p :: D := List.mem_cons_self ..
    have fG := (Fr.refl [p] H).put (o := .ins (cPul K) dx (putF "_entry" (.ref ea) (putF "_store" (.ref a) []))) (List.mem_singleton.mpr rfl)
    have eG := upd_same (H := H) (a := p) (o := .ins (cPul K) dx (putF "_entry" (.ref ea) (putF "_store" (.ref a) [])))
    have hh : hid (p :: D) (upd H p (.ins (cPul K) dx (putF "_entry" (.ref ea) (putF "_store" (.ref a) [])))) = hid (p :: D) H := hid_upd_in mp
    rw [← hh] at hS hE
    generalize upd H p (.ins (cPul K) dx (putF "_entry" (.ref ea) (putF "_store" (.ref a) []))) = G at fG eG hS hE ⊢
    have sb : Same (hid (p :: D) G) (hid D G) := fun b o z => by
      obtain ⟨n, z⟩ := hid_some z
      rw [hid_at fun m => n (List.mem_cons_of_mem _ m)]
      exact z
    have hwG : Pw K G D F p a ea S e := ⟨hA.kp (fun d m z => npD (by rw [← List.mem_singleton.mp z]; exact m)) fG, hS.same sb, ⟨dx, _, by rw [hid_at npF, hid_at npD]; exact eG, rfl, rfl, fun m hm => by
      simp only [List.mem_cons, not_or, List.not_mem_nil] at hm
      show List.lookup m [("_store", V.ref a), ("_entry", V.ref ea)] = none
      rw [List.lookup_cons, List.lookup_cons, List.lookup_nil]
      rw [show (m == ("_store" : Str)) = false from beq_eq_false_iff_ne.mpr hm.1, show (m == ("_entry" : Str)) = false from beq_eq_false_iff_ne.mpr hm.2.1]⟩, hE.same (hid_same sb)⟩
    have fP : ∀ {H'}, Fr F G H' → Fr (p :: F) H H' := fun f b o n z => f b o (fun m => n (List.mem_cons_of_mem _ m)) (fG b o (fun m => n (by rw [List.mem_singleton.mp m]; exact List.mem_cons_self ..)) z)
    have hF0 : ∀ {H' : Hp} {F' : List Addr}, Same G H' → (∀ b ∈ F', b ∈ F ∨ H' b = none) → ∀ b ∈ F', b ∈ F ∨ H b = none := fun s h b m => (h b m).imp id fun z => fr_back fG (fun mm => by
      have z2 := s.free z
      rw [List.mem_singleton.mp mm, eG] at z2; cases z2) (s.free z)
    clear hS hE
    have hSG := hwG.sto
    have hEG := hwG.ent
    walk_at "go"
    refine e_temp hSG fun tv H1 s1 htv => ?_
    have hw1 := hwG.same s1
    have hE1 := hw1.ent
    walk_at "go"
    rename_i v hv
    refine ⟨_, rfl, p, a, ea, F, D, S, e, rfl, hw1, hm, fun H2 s2 => ?_⟩
    refine ⟨_, rfl, ?_⟩
    walk_at "go"
    refine e_slA (same_tup s2 hv) fun r H3 s3 hr => ?_
    rw [cut_to] at hr
    walk_at "go"
    refine ⟨_, rfl, r, e.bl.take (keptS S e.nm e.bl), rfl, hr, by rw [List.length_take]; have := hm.b; omega, fun n m => hm.bb n (List.mem_of_mem_take m), fun q H4 hq s4 e4 => ?_⟩
    have s14 := s1.trans (s2.trans (s3.trans s4))
    have hw4 := hwG.same s14
    have hS4 := hw4.sto
    have hE4 := hw4.ent
    walk_at "go"
    rw [List.length_map]
    rcases htv with ⟨rfl, hn⟩ | ⟨l, t9, rfl, htl, el⟩
    · refine ⟨rfl, _, rfl, i_nd (fun z => absurd rfl z) (fun _ => ?_)⟩
      walk_at "go"
      refine k F H4 S (fP (Fr.of s14)) (fun b m => .inl m) hw4 (Wk.refl S) ?_
      obtain ⟨o, eo, _⟩ := ht
      rw [eo, lk_tpl] at hn
      subst hn
      have : keptS S e.nm e.bl = 0 := by unfold keptS; rw [eo, lk_tpl]
      rw [this]
      exact ⟨Nat.zero_le _, none, eo, rfl⟩
    · refine ⟨rfl, _, rfl, i_nd (fun _ => ?_) (fun z => by cases z)⟩
      walk_at "go"
      refine ⟨l, _, rfl, .inl (SqL.of ((s2.trans (s3.trans s4)) _ _ el)), ?_⟩
      rw [List.length_map]
      walk_at "go"
      refine i_d (fun lt => ?_) (fun nlt => ?_)
      · walk_at "go"
        refine ⟨_, _, _, rfl, a, F, D, S, e.nm, ((e.bl.take (keptS S e.nm e.bl)).flatMap bbytes).length, rfl, rfl, rfl, hw4.al, hw4.st, Nat.le_trans ht.len.1 (by decide), fun hb F' H' f hF hS' => ?_, fun hb => ?_⟩
        · walk_at "go"
          refine k F' H' _ (fP (fun x o n z => f x o n (s14 _ _ z))) (hF0 s14 hF) (hw4.step f hF hS') ⟨rfl, rfl, rfl, rfl, fun z => by show S.bd.map _ = none; rw [z]; rfl⟩ ?_
          exact cut_clean ht htl _ (.inl rfl)
        · exact kx (fun z => by rw [z] at hb; cases hb) H4 (fP (Fr.of s14)) hw4.st _
      · walk_at "go"
        exact k F H4 S (fP (Fr.of s14)) (fun b m => .inl m) hw4 (Wk.refl S) (cut_clean ht htl _ (.inr ⟨rfl, by omega⟩))
theorem ok_Pull_count (T : Txt K mg)  (c_kept_blocks : Cal P w K mg base 3 "kept_blocks" (sp_kept_blocks K)) {f : Addr} {fd : FuncData} (F : FunD K "count" "Pull.count" (defArgs s_Pull_count) (defBody s_Pull_count) (defScope s_Pull_count) [] [] f fd) : FnOk P w K mg base CX0 4 f fd ["self"] (sp_Pull_count K) := by
  refine F.ok sc_Pull_count (fun vs H Q E h => ?_) (fun cdv A outer s H vs Q E hr h => ?_)
  · obtain ⟨_, rfl, _⟩ := h
    rfl
  · have S := sc_Pull_count
    refine ⟨_, PSs.nox (pss_one (ps_ret (pe_c c_kept_blocks hr (by decide) (by rfl) (pa_cons (pe_fld (pv 0) rfl) (pa_cons (pe_fld (pv 0) rfl) pa_nil))))), ?_⟩
    try dsimp only [cxOf, Cx.nox]
    have st0 : STT K := ⟨T.cl_Store, T.no_Store__files, T.no_Store__temps, T.no_Store__attic, T.no_Store__log, T.no_Store__new_log, T.no_Store__budget, T.no_Store__done⟩
    have t : ET K := ⟨T.cl_Entry, T.no_Entry_name, T.no_Entry_vector, T.no_Entry_height, T.no_Entry_maker, T.no_Entry_deleted, T.no_Entry_time, T.no_Entry_blocks⟩
    have pt : PT K := ⟨T.cl_Pull, T.no_Pull__store, T.no_Pull__entry⟩
    obtain ⟨_, rfl, p, a, ea, F, D, S, e, rfl, hw, hm, k⟩ := h
    walk_at "go"
    refine ⟨_, _, rfl, a, ea, F, S, false, e, rfl, rfl, hw.sto, hw.ent, hm, fun H1 s1 => ?_⟩
    walk_at "go"
    exact k H1 s1
theorem ok_Pull_is_whole (T : Txt K mg)  (m_Pull_count : C8.Met P w K mg base 4 (He.ga K "Pull") "count" (sp_Pull_count K) []) {f : Addr} {fd : FuncData} (F : FunD K "is_whole" "Pull.is_whole" (defArgs s_Pull_is_whole) (defBody s_Pull_is_whole) (defScope s_Pull_is_whole) [] [] f fd) : FnOk P w K mg base CX0 5 f fd ["self"] (sp_Pull_is_whole K) := by
  refine F.ok sc_Pull_is_whole (fun vs H Q E h => ?_) (fun cdv A outer s H vs Q E hr h => ?_)
  · obtain ⟨_, rfl, _⟩ := h
    rfl
  · have S := sc_Pull_is_whole
    refine ⟨_, PSs.nox (pss_one (ps_ret (pe_cmpR op_eq (C8.pe_mt0 m_Pull_count hr (by decide) (pv 0)) (pe_callB call_len_seq (by rfl) T.f_len (by first | rfl | decide +kernel) (pa_cons (pe_fld (pe_fld (pv 0) rfl) rfl) pa_nil)) (nomark _)))), ?_⟩
    try dsimp only [cxOf, Cx.nox]
    have st0 : STT K := ⟨T.cl_Store, T.no_Store__files, T.no_Store__temps, T.no_Store__attic, T.no_Store__log, T.no_Store__new_log, T.no_Store__budget, T.no_Store__done⟩
    have t : ET K := ⟨T.cl_Entry, T.no_Entry_name, T.no_Entry_vector, T.no_Entry_height, T.no_Entry_maker, T.no_Entry_deleted, T.no_Entry_time, T.no_Entry_blocks⟩
    have pt : PT K := ⟨T.cl_Pull, T.no_Pull__store, T.no_Pull__entry⟩
    obtain ⟨_, rfl, p, a, ea, F, D, S, e, rfl, hw, hm, k⟩ := h
    walk_at "go"
    refine ⟨_, rfl, p, a, ea, F, D, S, e, rfl, hw, hm, fun H1 s1 => ?_⟩
    have hw1 := hw.same s1
    have hE1 := hw1.ent
    walk_at "go"
    rw [List.length_map]
    have z := k H1 s1
    rw [show decide ((keptS S e.nm e.bl : Int) = (e.bl.length : Int)) = decide (keptS S e.nm e.bl = e.bl.length) by rw [decide_eq_decide]; omega]
    exact z
theorem ok_Pull_advance (T : Txt K mg)  (c_near_places : Cal P w K mg base 5 "near_places" (sp_near_places K)) (m_Pull_count : C8.Met P w K mg base 4 (He.ga K "Pull") "count" (sp_Pull_count K) []) (m_Store_append_temp : MetX P w K mg base 4 (He.ga K "Store") "append_temp" (sp_Store_append_temp K)) (c_block_bytes : Cal P w K mg base 2 "block_bytes" (sp_block_bytes K)) {f : Addr} {fd : FuncData} (F : FunD K "advance" "Pull.advance" (defArgs s_Pull_advance) (defBody s_Pull_advance) (defScope s_Pull_advance) [] [] f fd) : FnOk P w K mg base (L2.CX P w) 6 f fd ["self"] (sp_Pull_advance K) := by
  refine F.ok sc_Pull_advance (fun vs H Q E h => ?_) (fun cdv A outer s H vs Q E hr h => ?_)
  · obtain ⟨_, rfl, _⟩ := h
    rfl
  · have S := sc_Pull_advance
    refine ⟨_, (pss_cons (ps_set (i := 1) S.nd rfl (by first | exact .inl rfl | exact .inr rfl) (pe_c c_near_places hr (by decide) (by rfl) (pa_cons (pe_fld (pv 0) rfl) (pa_cons (pe_fld (pv 0) rfl) pa_nil))))
    (pss_cons (ps_for (passes_of rfl) rfl (pi_tup (pe_slice sl_tupA (pe_fld (pe_fld (pv 0) rfl) rfl) (po_some (C8.pe_mt0 m_Pull_count hr (by decide) (pv 0))) po_none)) (pg_name (i := 2) S.nd rfl (by first | exact .inl rfl | exact .inr rfl))
    (pss_cons (ps_if (pt_cmp (pc_dnotin (hu_of hr) (pv 2) (pv 1)))
      (PSs.nox (pss_one (ps_ret (pv 2))))
      pss_nil)
      (pss_one (ps_expr (pe_mtX m_Store_append_temp hr (by decide) (takes_of rfl rfl rfl rfl) (pe_fld (pv 0) rfl) (pa_cons (pe_fld (pe_fld (pv 0) rfl) rfl) (pa_cons (pe_c c_block_bytes hr (by decide) (by rfl) (pa_cons (pv 2) pa_nil)) pa_nil)))))))
    (PSs.nox (pss_one (ps_ret pe_non))))), ?_⟩
    try dsimp only [cxOf, Cx.nox]
    have st0 : STT K := ⟨T.cl_Store, T.no_Store__files, T.no_Store__temps, T.no_Store__attic, T.no_Store__log, T.no_Store__new_log, T.no_Store__budget, T.no_Store__done⟩
    have t : ET K := ⟨T.cl_Entry, T.no_Entry_name, T.no_Entry_vector, T.no_Entry_height, T.no_Entry_maker, T.no_Entry_deleted, T.no_Entry_time, T.no_Entry_blocks⟩
    have pt : PT K := ⟨T.cl_Pull, T.no_Pull__store, T.no_Pull__entry⟩
    obtain ⟨_, rfl, p, a, ea, F, D, S, e, c, rfl, hw, hm, hc, k0, k1, kx⟩ := h
    walk_at "go"
    refine ⟨_, _, rfl, a, ea, F, S, false, e, rfl, rfl, hw.sto, hw.ent, hm, fun d w ys H1 s1 hd e1 hsr hq => ?_⟩
    have hw1 := hw.same s1
    have hE1 := hw1.ent
    walk_at "go"
    rename_i v hv
    refine ⟨_, rfl, p, a, ea, F, D, S, e, rfl, hw1, hm, fun H2 s2 => ?_⟩
    rw [hc.kept hm.bb]
    rw [hc.kept hm.bb] at hq
    refine ⟨_, rfl, ?_⟩
    walk_at "go"
    refine e_slA (same_tup s2 hv) fun r H4 s4 hr => ?_
    rw [cut_from] at hr
    have s24 := s2.trans s4
    have s14 := s1.trans s24
    have hw4 := hw1.same s24
    have ed := s24 _ _ e1
    have hq4 : Nrs H4 w _ := paired_imp (fun _ _ z => ⟨z.1, s24 _ _ z.2⟩) hq
    have hnm := hw.sto.names
    have ntF : ∀ b ∈ F, NT H4 b := fun b m => (hw4.sto.has b m).2
    have ndF : d ∉ F := fun m => by
      obtain ⟨⟨o, z⟩, _⟩ := hw.sto.has d m
      rw [hd] at z; cases z
    have hkey : ∀ x, x ∈ (nearOf (rowsOf S e.nm e.bl c ys)).map (·.1) ↔ x ∈ e.bl.take c ∨ x ∈ kbOf S := fun x => near_base hsr.1 hnm x
    generalize nearOf (rowsOf S e.nm e.bl c ys) = m at hq4 hkey
    have bck : ∀ {b : Addr} {F' : List Addr}, (b ∈ F ∨ H4 b = none) → b ∈ F ∨ H b = none := fun h => h.imp id fun z => s14.free z
    walk_at "go"
    refine for_intsT (ns := e.bl.drop c) (fun pre σ H5 => (∃ v2, σ = [some (.ref p), some (.ref d), v2]) ∧ Fr F H4 H5 ∧ ∃ F5 S5, (∀ b ∈ F5, b ∈ F ∨ H4 b = none) ∧ Pw K H5 D F5 p a ea S5 e ∧ Wk S S5 ∧ Cl e.nm e.bl S5 (c + pre.length) ∧ Dk S e.bl c = Dk S e.bl (c + pre.length) ∧ ∀ x ∈ pre, x ∈ m.map (·.1))
      ⟨⟨_, rfl⟩, Fr.refl _ _, F, S, fun b m => .inl m, hw4, Wk.refl S, by simpa using hc, by simp, fun x m => by cases m⟩ (fun pre σ H5 q => sqT_fr hr q.2.1 ntF) (fun pre x post σ H5 e0 q => ?_) (fun σ H5 q => ?_)
    · obtain ⟨⟨v2, rfl⟩, f5, F5, S5, hF5, hw5, wk5, hc5, hd5, hp5⟩ := q
      have ed5 := f5 _ _ ndF ed
      have hi : e.bl[c + pre.length]? = some x := by
        rw [← List.getElem?_drop, e0]
        simp
      have hx : x ∈ e.bl := List.mem_of_getElem? hi
      have htk : ∀ y, y ∈ e.bl.take (c + pre.length) ↔ y ∈ e.bl.take c ∨ y ∈ pre := fun y => by
        rw [List.take_add, List.mem_append, e0]
        simp
      walk_at "go"
      refine ⟨d, _, rfl, DGet.k (k := Sum.inl x) ed5, _, rfl, ?_⟩
      rcases val_dci (R := NearA H4) x hq4 with ⟨h1, h2⟩ | ⟨q, r, h1, h2, h3, h4⟩
      · rw [h1]
        walk_at "go"
        refine k1 F5 H5 S5 (c + pre.length) x ((Fr.of s14).trans f5) (fun b m => bck (F' := F5) (hF5 b m)) hw5 wk5 hc5 (by omega) hi hd5 ?_
        refine Dk_new hi fun z => h2 ((hkey x).mpr ?_)
        rcases z with z | z
        · rcases (htk x).mp z with z | z
          · exact .inl z
          · exact (hkey x).mp (hp5 x z)
        · exact .inr z
      · rw [h1]
        have hS5 := hw5.sto
        have hE5 := hw5.ent
        walk_at "go"
        refine ⟨_, rfl, x, rfl, hm.bb x hx, fun q6 H6 hq6 s6 e6 => ?_⟩
        have hw6 := hw5.same s6
        have hS6 := hw6.sto
        have tp5 := hc5.tp1 hm.b
        have f6 : Fr F H4 H6 := f5.same s6
        have nq6 : q6 ∉ F5 := fun mm => by
          obtain ⟨⟨o, z⟩, _⟩ := hS5.has q6 mm
          rw [hq6] at z; cases z
        walk_at "go"
        have h56 : ∀ {F7 : List Addr}, (∀ b ∈ F7, b ∈ F5 ∨ H6 b = none) → ∀ b ∈ F7, b ∈ F ∨ H4 b = none := fun h b mm => by
          rcases h b mm with z | z
          · exact hF5 b z
          · by_cases y : b ∈ F
            · exact .inl y
            · exact .inr (fr_back f6 y z)
        have f47 : ∀ {H7 : Hp}, Fr F5 H6 H7 → Fr F H4 H7 := fun f b o nb eb => f b o (fun mm => by
          rcases hF5 b mm with z | z
          · exact nb z
          · rw [eb] at z; cases z) (f6 b o nb eb)
        refine ⟨_, _, _, rfl, a, q6, F5, D, S5, e.nm, bbytes x, rfl, rfl, rfl, hw6.al, hw6.st, e6, nq6, Nat.le_trans (bbytes_len x) (by decide), Nat.le_trans tp5.len.1 (by decide), fun r hr => Nat.le_trans (tp5.len.2 r hr) (by decide), fun _ F7 H7 f7 hF7 hS7 => ?_, fun k hk hl F7 H7 f7 hF7 hS7 => ?_⟩
        · walk_at "go"
          refine ⟨⟨_, rfl⟩, f47 f7, F7, _, h56 hF7, hw6.step f7 hF7 hS7, wk5.trans (Wk.apt S5 e.nm (bbytes x) _), ?_, ?_, fun y my => ?_⟩
          · have := hc5.next hi
            rw [List.length_append]
            exact this
          · rw [hd5, List.length_append]
            refine Dk_in hi ?_
            rcases (hkey x).mp h4 with z | z
            · exact .inl ((htk x).mpr (.inl z))
            · exact .inr z
          · rcases List.mem_append.mp my with z | z
            · exact hp5 y z
            · rw [List.mem_singleton.mp z]; exact h4
        · have hpt := hc5.part hi hm.bb hm.b hl
          refine kx F7 H7 _ _ (fun z => ?_) ((Fr.of s14).trans (f47 f7)) (fun b mm => bck (F' := F7) (h56 hF7 b mm)) hS7 (wk5.trans (Wk.apt S5 e.nm (bbytes x) k)) hpt.2 ?_
          · rw [wk5.bd z] at hk; cases hk
          · rw [hpt.1]; exact hd5
    · obtain ⟨⟨v2, rfl⟩, f5, F5, S5, hF5, hw5, wk5, hc5, hd5, hp5⟩ := q
      have hl : c + (e.bl.drop c).length = e.bl.length := by
        have := hc.le
        rw [List.length_drop]; omega
      rw [hl] at hc5 hd5
      walk_at "go"
      refine k0 F5 H5 S5 ((Fr.of s14).trans f5) (fun b m => bck (F' := F5) (hF5 b m)) hw5 wk5 hc5 ?_
      rw [hd5, Dk_end]
theorem ok_Pull_give (T : Txt K mg)  (m_Pull_count : C8.Met P w K mg base 4 (He.ga K "Pull") "count" (sp_Pull_count K) []) (c_block_bytes : Cal P w K mg base 2 "block_bytes" (sp_block_bytes K)) (m_Store_append_temp : MetX P w K mg base 4 (He.ga K "Store") "append_temp" (sp_Store_append_temp K)) {f : Addr} {fd : FuncData} (F : FunD K "give" "Pull.give" (defArgs s_Pull_give) (defBody s_Pull_give) (defScope s_Pull_give) [] [] f fd) : FnOk P w K mg base (L2.CX P w) 5 f fd ["self", "block", "data"] (sp_Pull_give K) := by
  refine F.ok sc_Pull_give (fun vs H Q E h => ?_) (fun cdv A outer s H vs Q E hr h => ?_)
  · obtain ⟨_, _, _, rfl, _⟩ := h
    rfl
  · have S := sc_Pull_give
    refine ⟨_, (pss_cons (ps_set (i := 3) S.nd rfl (by first | exact .inl rfl | exact .inr rfl) (C8.pe_mt0 m_Pull_count hr (by decide) (pv 0)))
    (pss_cons (ps_if (pw_or (pt_cmpR (op_neP hr.units) (pe_slice sl_tupA (pe_fld (pe_fld (pv 0) rfl) rfl) (po_some (pv 3)) (po_some (pe_op op_add (pv 3) pe_int))) (pe_tup (pa_cons (pv 1) pa_nil)) (nomark _)) (pw_or1 (pt_cmpR (op_neP hr.units) (pe_callTy call_list_of (by rfl) T.f_list (by first | rfl | decide +kernel) (pa_cons (pv 2) pa_nil)) (pe_c c_block_bytes hr (by decide) (by rfl) (pa_cons (pv 1) pa_nil)) (nomark _)))).pt
    (PSs.nox (pss_one (ps_ret pe_bl)))
    pss_nil)
    (pss_cons (ps_expr (pe_mtX m_Store_append_temp hr (by decide) (takes_of rfl rfl rfl rfl) (pe_fld (pv 0) rfl) (pa_cons (pe_fld (pe_fld (pv 0) rfl) rfl) (pa_cons (pv 2) pa_nil))))
    (PSs.nox (pss_one (ps_ret pe_bl)))))), ?_⟩
    try dsimp only [cxOf, Cx.nox]
    have st0 : STT K := ⟨T.cl_Store, T.no_Store__files, T.no_Store__temps, T.no_Store__attic, T.no_Store__log, T.no_Store__new_log, T.no_Store__budget, T.no_Store__done⟩
    have t : ET K := ⟨T.cl_Entry, T.no_Entry_name, T.no_Entry_vector, T.no_Entry_height, T.no_Entry_maker, T.no_Entry_deleted, T.no_Entry_time, T.no_Entry_blocks⟩
    have pt : PT K := ⟨T.cl_Pull, T.no_Pull__store, T.no_Pull__entry⟩
    obtain ⟨_, _, _, rfl, p, a, ea, l, F, D, S, e, c, b, ds, rfl, rfl, rfl, hw, hm, hc, el, nl, dl, kn, ky⟩ := h
    walk_at "go"
    refine ⟨_, rfl, p, a, ea, F, D, S, e, rfl, hw, hm, fun H1 s1 => ?_⟩
    rw [hc.kept hm.bb]
    have hw1 := hw.same s1
    have hE1 := hw1.ent
    walk_at "go"
    rename_i v hv
    refine e_slA hv fun r H2 s2 hr => ?_
    rw [show ((c : Int) + 1) = (c : Int) + ((1 : Nat) : Int) from rfl, cut_mid] at hr
    walk_at "go"
    rename_i tp htp
    have s3 := same_new (o := .tup [.int b]) htp
    have s13 := s1.trans (s2.trans s3)
    refine e_nePT (ys := [b]) (same_tup s3 hr) (SqT.of upd_same) ?_
    walk_at "go"
    refine i_nd (fun ne => ?_) (fun eq => ?_)
    · walk_at "go"
      refine kn (fun z => ne ?_) _ s13
      rw [drop_at z.1]; rfl
    have hb : e.bl[c]? = some b := by
      have h0 : ((e.bl.drop c).take 1)[0]? = some b := by rw [eq]; rfl
      rw [List.getElem?_take, if_pos (by decide), List.getElem?_drop] at h0
      exact h0
    have hx : b ∈ e.bl := List.mem_of_getElem? hb
    walk_at "go"
    refine ⟨l, _, rfl, .inl (SqL.of (s13 _ _ el)), fun l2 hl2 => ?_⟩
    have s4 := same_new (o := .lst (ds.map V.int)) hl2
    walk_at "go"
    refine ⟨_, rfl, b, rfl, hm.bb b hx, fun q H5 hq s5 e5 => ?_⟩
    have s15 := s13.trans (s4.trans s5)
    walk_at "go"
    refine e_nePL (SqL.of (s5 _ _ upd_same)) (SqL.of e5) ?_
    walk_at "go"
    refine i_nd (fun ne => ?_) (fun eq2 => ?_)
    · walk_at "go"
      exact kn (fun z => ne z.2) _ s15
    obtain ⟨ko, kx⟩ := ky hb eq2
    have hw5 := hw.same s15
    have hS5 := hw5.sto
    have hE5 := hw5.ent
    have tp5 := hc.tp1 hm.b
    walk_at "go"
    subst eq2
    refine ⟨_, _, _, rfl, a, l, F, D, S, e.nm, bbytes b, rfl, rfl, rfl, hw5.al, hw5.st, s15 _ _ el, nl, dl, Nat.le_trans tp5.len.1 (by decide), fun r hr => Nat.le_trans (tp5.len.2 r hr) (by decide), fun _ F7 H7 f7 hF7 hS7 => ?_, fun k hk hl F7 H7 f7 hF7 hS7 => ?_⟩
    · walk_at "go"
      exact ko F7 H7 _ (fun x o n z => f7 x o n (s15 _ _ z)) (fun b m => (hF7 b m).imp id fun z => s15.free z) (hw5.step f7 hF7 hS7) (Wk.apt S e.nm (bbytes b) _) (hc.next hb)
    · have hpt := hc.part hb hm.bb hm.b hl
      exact kx F7 H7 _ _ (fun z => by rw [z] at hk; cases hk) (fun x o n z => f7 x o n (s15 _ _ z)) (fun b m => (hF7 b m).imp id fun z => s15.free z) hS7 (Wk.apt S e.nm (bbytes b) k) hpt.2 hpt.1
theorem ok_Pull_place (T : Txt K mg)  (m_Store_place : MetX P w K mg base 4 (He.ga K "Store") "place" (sp_Store_place K)) {f : Addr} {fd : FuncData} (F : FunD K "place" "Pull.place" (defArgs s_Pull_place) (defBody s_Pull_place) (defScope s_Pull_place) [] [] f fd) : FnOk P w K mg base (L2.CX P w) 5 f fd ["self"] (sp_Pull_place K) := by
  refine F.ok sc_Pull_place (fun vs H Q E h => ?_) (fun cdv A outer s H vs Q E hr h => ?_)
  · obtain ⟨_, rfl, _⟩ := h
    rfl
  · have S := sc_Pull_place
    refine ⟨_, (pss_one (ps_expr (pe_mtX m_Store_place hr (by decide) (takes_of rfl rfl rfl rfl) (pe_fld (pv 0) rfl) (pa_cons (pe_fld (pe_fld (pv 0) rfl) rfl) (pa_cons (pe_fld (pe_fld (pv 0) rfl) rfl) pa_nil))))), ?_⟩
    try dsimp only [cxOf, Cx.nox]
    have st0 : STT K := ⟨T.cl_Store, T.no_Store__files, T.no_Store__temps, T.no_Store__attic, T.no_Store__log, T.no_Store__new_log, T.no_Store__budget, T.no_Store__done⟩
    have t : ET K := ⟨T.cl_Entry, T.no_Entry_name, T.no_Entry_vector, T.no_Entry_height, T.no_Entry_maker, T.no_Entry_deleted, T.no_Entry_time, T.no_Entry_blocks⟩
    have pt : PT K := ⟨T.cl_Pull, T.no_Pull__store, T.no_Pull__entry⟩
    obtain ⟨_, rfl, p, a, ea, F, D, S, e, rfl, hw, hl, k, kx⟩ := h
    have hS := hw.sto
    have hE := hw.ent
    walk_at "go"
    refine ⟨_, _, _, rfl, a, F, D, S, e.nm, e.tm, rfl, rfl, rfl, hw.al, hw.st, hl, fun hb F' H' f hF hS' => ?_, fun hb => ?_⟩
    · walk_at "go"
      exact k hb F' H' f hF hS'
    · exact kx hb
theorem ok_Entry___init__ (T : Txt K mg)   {f : Addr} {fd : FuncData} (F : FunD K "__init__" "Entry.__init__" (defArgs s_Entry___init__) (defBody s_Entry___init__) (defScope s_Entry___init__) [] [] f fd) : FnOk P w K mg base CX0 1 f fd ["self", "name", "vector", "height", "maker", "deleted", "time", "blocks"] (sp_Entry___init__ K) := by
  refine F.ok sc_Entry___init__ (fun vs H Q E h => ?_) (fun cdv A outer s H vs Q E hr h => ?_)
  · obtain ⟨_, _, _, _, _, _, _, _, rfl, _⟩ := h
    rfl
  · have S := sc_Entry___init__
    refine ⟨_, PSs.nox (pss_cons (ps_fld (pv 0) (pv 1) rfl)
    (pss_cons (ps_fld (pv 0) (pv 2) rfl)
    (pss_cons (ps_fld (pv 0) (pv 3) rfl)
    (pss_cons (ps_fld (pv 0) (pv 4) rfl)
    (pss_cons (ps_fld (pv 0) (pv 5) rfl)
    (pss_cons (ps_fld (pv 0) (pv 6) rfl)
    (pss_one (ps_fld (pv 0) (pv 7) rfl)))))))), ?_⟩
    try dsimp only [cxOf, Cx.nox]
    obtain ⟨_, _, _, _, _, _, _, _, rfl, a, dx, rfl, ha, k⟩ := h
    walk_at "go"
    refine ⟨a, _, dx, _, rfl, ha, T.cl_Entry, T.no_Entry_name, lt_put (by decide), ?_⟩
    walk_at "go"
    refine ⟨a, _, dx, _, rfl, upd_same, T.cl_Entry, T.no_Entry_vector, lt_put (Nat.le_trans (len_put (n := 0) (Nat.le_refl 0)) (by decide)), ?_⟩
    walk_at "go"
    refine ⟨a, _, dx, _, rfl, upd_same, T.cl_Entry, T.no_Entry_height, lt_put (Nat.le_trans (len_put (len_put (n := 0) (Nat.le_refl 0))) (by decide)), ?_⟩
    walk_at "go"
    refine ⟨a, _, dx, _, rfl, upd_same, T.cl_Entry, T.no_Entry_maker, lt_put (Nat.le_trans (len_put (len_put (len_put (n := 0) (Nat.le_refl 0)))) (by decide)), ?_⟩
    walk_at "go"
    refine ⟨a, _, dx, _, rfl, upd_same, T.cl_Entry, T.no_Entry_deleted, lt_put (Nat.le_trans (len_put (len_put (len_put (len_put (n := 0) (Nat.le_refl 0))))) (by decide)), ?_⟩
    walk_at "go"
    refine ⟨a, _, dx, _, rfl, upd_same, T.cl_Entry, T.no_Entry_time, lt_put (Nat.le_trans (len_put (len_put (len_put (len_put (len_put (n := 0) (Nat.le_refl 0)))))) (by decide)), ?_⟩
    walk_at "go"
    refine ⟨a, _, dx, _, rfl, upd_same, T.cl_Entry, T.no_Entry_blocks, lt_put (Nat.le_trans (len_put (len_put (len_put (len_put (len_put (len_put (n := 0) (Nat.le_refl 0))))))) (by decide)), ?_⟩
    simp only [upd_upd]
    exact k
theorem ok_Store___init__ (T : Txt K mg)   {f : Addr} {fd : FuncData} (F : FunD K "__init__" "Store.__init__" (defArgs s_Store___init__) (defBody s_Store___init__) (defScope s_Store___init__) [] [] f fd) : FnOk P w K mg base CX0 1 f fd ["self", "files", "log"] (sp_Store___init__ K) := by
  refine F.ok sc_Store___init__ (fun vs H Q E h => ?_) (fun cdv A outer s H vs Q E hr h => ?_)
  · obtain ⟨_, _, _, rfl, _⟩ := h
    rfl
  · have S := sc_Store___init__
    refine ⟨_, PSs.nox (pss_cons (ps_fld (pv 0) (pe_lock (pe_dc (own := [("name", 3), ("content", 4), ("time", 5)]) (g := gTup K 2 (gCons (gName 3) (gCons (gTup K 2 (gCons (gName 4) (gCons (gName 5) gNil))) gNil))) (tt := tYes) rfl S.nd (pi_items (pv 1)) (blkOk_by (N := N_Store___init__) (sc := defScope s_Store___init__) (by decide +kernel)) (fun _ _ _ _ _ => (pg_tupK (n := 2) K rfl (pgs_cons (pg_name (i := 3) S.nd rfl (by first | exact .inl rfl | exact .inr rfl)) (pgs_cons (pg_tupK (n := 2) K rfl (pgs_cons (pg_name (i := 4) S.nd rfl (by first | exact .inl rfl | exact .inr rfl)) (pgs_cons (pg_name (i := 5) S.nd rfl (by first | exact .inl rfl | exact .inr rfl)) pgs_nil))) pgs_nil)))) (fun _ _ _ _ _ => pts_nil) (fun _ _ _ _ _ => (pv 3)) (fun _ _ _ _ _ => (pe_tup (pa_cons (pe_callTy (lstOK K) (by rfl) T.f_list (by first | rfl | decide +kernel) (pa_cons (pv 4) pa_nil)) (pa_cons (pv 5) pa_nil)))))) rfl)
    (pss_cons (ps_fld (pv 0) pe_dnewK rfl)
    (pss_cons (ps_fld (pv 0) (pe_lst pa_nil) rfl)
    (pss_cons (ps_fld (pv 0) (pe_callTy call_list_of (by rfl) T.f_list (by first | rfl | decide +kernel) (pa_cons (pv 2) pa_nil)) rfl)
    (pss_cons (ps_fld (pv 0) (pe_lst pa_nil) rfl)
    (pss_cons (ps_fld (pv 0) pe_non rfl)
    (pss_one (ps_fld (pv 0) pe_int rfl)))))))), ?_⟩
    try dsimp only [cxOf, Cx.nox]
    have st0 : STT K := ⟨T.cl_Store, T.no_Store__files, T.no_Store__temps, T.no_Store__attic, T.no_Store__log, T.no_Store__new_log, T.no_Store__budget, T.no_Store__done⟩
    obtain ⟨_, _, _, rfl, a, d0, lg, dx, w0, fl, bs, D, rfl, rfl, rfl, hi, hd, hfl, hnd, hlen, hlg, hA, aD, k⟩ := h
    walk_at "go"
    refine ⟨d0, _, hd, trivial, fun od => ?_⟩
    walk_at "go"
    refine ⟨d0, od, dct w0, rfl, upd_same, fun Dn hDn => ?_⟩
    have nd0 : Dn ≠ d0 := fun z => by rw [z, upd_same] at hDn; cases hDn
    have hDn0 : H Dn = none := by rwa [upd_ne nd0] at hDn
    have lw : w0.length = fl.length := paired_len hfl
    have ad0 : a ≠ d0 := fun z => by rw [z, hd] at hi; cases hi
    have hA0 : Al D (upd H d0 (.frz od (.dK (dct w0)))) := fun d m => by
      obtain ⟨⟨o, e⟩, nt⟩ := hA d m
      by_cases z : d = d0
      · rw [z]
        exact ⟨⟨_, upd_same⟩, fun xs z => (by rw [upd_same] at z; cases z), fun c xs z => (by rw [upd_same] at z; cases z)⟩
      · exact ⟨⟨o, by rw [upd_ne z]; exact e⟩, nt_of nt e (by rw [upd_ne z]; exact e)⟩
    refine dc_it walk_items (fun i H1 => Same (upd H d0 (.frz od (.dK (dct w0)))) H1 ∧ ∃ w1, H1 Dn = some (.dK (dct w1)) ∧ Fls (hid (Dn :: D) H1) w1 (fl.take i)) ⟨same_new hDn, [], upd_same, .nil⟩ (fun i H1 _ p => p.1 _ _ upd_same) (fun i x H1 H2 hi2 p hy => ?_) (fun H1 p => ?_)
    · obtain ⟨s1, w1, e1, q1⟩ := p
      obtain ⟨t0, kx, vx, rfl, ht0, rfl, hkx, hvx⟩ := hy
      have hi3 : i < w0.length := by
        unfold dct at hi2
        rwa [List.length_map] at hi2
      have hw := List.getElem?_eq_getElem hi3
      obtain ⟨r, hr, hrn, l, g1, g2⟩ := paired_get hfl i _ hw
      have hk : kx = .str r.1 ∧ vx = .ref w0[i].2 := by
        have hkx : (dct w0)[i]?.map (fun kv => kV kv.1) = some kx := hkx
        have hvx : (dct w0)[i]?.map Prod.snd = some vx := hvx
        unfold dct at hkx hvx
        rw [List.getElem?_map, hw] at hkx hvx
        cases hkx
        cases hvx
        rw [← hrn]
        exact ⟨rfl, rfl⟩
      obtain ⟨rfl, rfl⟩ := hk
      have nq : ∀ {y : Addr} {o : HO}, H y = some o → y ≠ d0 → H1 y = some o := fun h n => s1 _ _ (by rw [upd_ne n]; exact h)
      have g1 := nq g1 (fun z => by rw [z, hd] at g1; cases g1)
      have g2 := sq2_same s1 (sq2_upd (o := .frz od (.dK (dct w0))) hd g2)
      have st := same_new (o := .tup [.str r.1, .ref w0[i].2]) ht0
      have g1 := st _ _ g1
      have g2 := sq2_same st g2
      walk_at "go"
      intro l2 hl2
      walk_at "go"
      rename_i t ht3
      have s2 := same_new (o := .lst (r.2.1.map V.int)) hl2
      have s3 := same_new (o := .tup [.ref l2, .int r.2.2]) ht3
      have sA := (st.trans s2).trans s3
      have hA1 := hA0.same s1
      have hD1 := same_new (o := .tup [.str r.1, .ref w0[i].2]) ht0
      have nm0 : lk r.1 (fl.take i) = none := lk_none fun m => by
        have hri := (List.getElem?_eq_some_iff.mp hr)
        rw [← List.take_append_drop i fl, List.map_append] at hnd
        have hd2 := List.nodup_append.mp hnd
        refine hd2.2.2 _ m r.1 ?_ rfl
        rw [List.drop_eq_getElem_cons hri.1, hri.2]
        exact List.mem_cons_self ..
      have vn : valV (dct w1) (Sum.inr r.1) = none := by
        rcases val_dct (R := FilA (hid (Dn :: D) H1)) r.1 q1 with ⟨h1, _⟩ | ⟨_, _, _, h2, _⟩
        · exact h1
        · rw [nm0] at h2; cases h2
      have lw1 : w1.length ≤ 100 := by
        have := paired_len q1
        rw [List.length_take] at this
        omega
      refine ⟨dct w1, Sum.inr r.1, rfl, sA _ _ e1, ?_, Same.mut (s1.trans sA) hDn, w1 ++ [(r.1, t)], ?_, ?_⟩
      · unfold dct
        rw [List.length_map]
        exact Nat.lt_of_le_of_lt (by omega : _ ≤ 100) (by decide)
      · rw [upd_same, putK_new _ vn]
        unfold dct
        rw [List.map_append]
        rfl
      · rw [hid_upd_in (List.mem_cons_self ..)]
        have s4 : Same (hid (Dn :: D) H1) (hid (Dn :: D) (upd (upd (upd H1 t0 (.tup [.str r.1, .ref w0[i].2])) l2 (.lst (r.2.1.map V.int))) t (.tup [.ref l2, .int r.2.2]))) := hid_same sA
        have etk : fl.take (i + 1) = fl.take i ++ [r] := by rw [List.take_add_one, hr]; rfl
        rw [etk]
        have fresh : ∀ {y : Addr}, H1 y = none → y ∉ Dn :: D := fun h m => by
          rcases List.mem_cons.mp m with z | m
          · rw [z, e1] at h; cases h
          · exact hA1.free h m
        have l2n : H1 l2 = none := st.free hl2
        have tn : H1 t = none := (st.trans s2).free ht3
        exact Paired.snoc (fls_same q1 s4) ⟨rfl, l2, by rw [hid_at (fresh tn), upd_same], by rw [hid_at (fresh l2n)]; exact s3 _ _ upd_same⟩
    · obtain ⟨s1, w1, e1, q1⟩ := p
      have hl0 : (dct w0).length = fl.length := by
        unfold dct
        rw [List.length_map, lw]
      rw [hl0, List.take_length] at q1
      have fz := s1 _ _ upd_same
      have f0 : Fr [a] H (upd H1 d0 (.dK (dct w0))) := fun y o _ e => by
        by_cases z : y = d0
        · rw [z, upd_same, ← hd, ← z, e]
        · rw [upd_ne z]
          exact s1 _ _ (by rw [upd_ne z]; exact e)
      have i0 : upd H1 d0 (.dK (dct w0)) a = some (.ins (cSto K) dx []) := by
        rw [upd_ne ad0]
        exact s1 _ _ (by rw [upd_ne ad0]; exact hi)
      have e0 : upd H1 d0 (.dK (dct w0)) Dn = some (.dK (dct w1)) := by rw [upd_ne nd0]; exact e1
      have g0 : ∀ x o, x ≠ d0 → H1 x = some o → upd H1 d0 (.dK (dct w0)) x = some o := fun x o n e => by rw [upd_ne n]; exact e
      refine ⟨fz, ?_⟩
      walk_at "go"
      have ma : a ∈ [a] := List.mem_cons_self ..
      have nla : ∀ d ∈ [a], NL H d := fun d m => by rw [List.mem_singleton.mp m]; exact nl_ins hi
      generalize upd H1 d0 (.dK (dct w0)) = G0 at f0 i0 e0 g0 ⊢
      refine ⟨a, _, dx, _, rfl, i0, st0.cl, st0.n1, by decide, ?_⟩
      walk_at "go"
      refine e_dnewK fun td htd => ?_
      have fT : Fr [a] G0 (upd (upd G0 a (.ins (cSto K) dx (putF "_files" (.ref Dn) []))) td (.dK [])) := ((Fr.refl [a] G0).put ma).same (same_new htd)
      obtain ⟨ntd, zT⟩ := upd_none htd
      have iT : upd (upd G0 a (.ins (cSto K) dx (putF "_files" (.ref Dn) []))) td (.dK []) a = some (.ins (cSto K) dx (putF "_files" (.ref Dn) [])) := by rw [upd_ne (Ne.symm ntd)]; exact upd_same
      have eT : upd (upd G0 a (.ins (cSto K) dx (putF "_files" (.ref Dn) []))) td (.dK []) td = some (.dK []) := upd_same
      generalize upd (upd G0 a (.ins (cSto K) dx (putF "_files" (.ref Dn) []))) td (.dK []) = G1 at fT iT eT ⊢
      walk_at "go"
      refine ⟨a, _, dx, _, rfl, iT, st0.cl, st0.n2, lt_put (Nat.le_trans (len_put (n := 0) (Nat.le_refl 0)) (by decide)), ?_⟩
      walk_at "go"
      rename_i ad had
      have fD : Fr [a] G1 (upd (upd G1 a (.ins (cSto K) dx (putF "_temps" (.ref td) (putF "_files" (.ref Dn) [])))) ad (.lst [])) := ((Fr.refl [a] G1).put ma).same (same_new had)
      obtain ⟨nad, zD⟩ := upd_none had
      have iD : upd (upd G1 a (.ins (cSto K) dx (putF "_temps" (.ref td) (putF "_files" (.ref Dn) [])))) ad (.lst []) a = some (.ins (cSto K) dx (putF "_temps" (.ref td) (putF "_files" (.ref Dn) []))) := by rw [upd_ne (Ne.symm nad)]; exact upd_same
      have eD : upd (upd G1 a (.ins (cSto K) dx (putF "_temps" (.ref td) (putF "_files" (.ref Dn) [])))) ad (.lst []) ad = some (.lst []) := upd_same
      generalize upd (upd G1 a (.ins (cSto K) dx (putF "_temps" (.ref td) (putF "_files" (.ref Dn) [])))) ad (.lst []) = G2 at fD iD eD ⊢
      refine ⟨a, _, dx, _, rfl, iD, st0.cl, st0.n3, lt_put (Nat.le_trans (len_put (len_put (n := 0) (Nat.le_refl 0))) (by decide)), ?_⟩
      walk_at "go"
      refine ⟨lg, _, rfl, sqL_fr hi hlg (((f0.trans fT).trans fD).put ma), fun ld hld => ?_⟩
      have fL : Fr [a] G2 (upd (upd G2 a (.ins (cSto K) dx (putF "_attic" (.ref ad) (putF "_temps" (.ref td) (putF "_files" (.ref Dn) []))))) ld (.lst (bs.map V.int))) := ((Fr.refl [a] G2).put ma).same (same_new hld)
      obtain ⟨nld, zL⟩ := upd_none hld
      have iL : upd (upd G2 a (.ins (cSto K) dx (putF "_attic" (.ref ad) (putF "_temps" (.ref td) (putF "_files" (.ref Dn) []))))) ld (.lst (bs.map V.int)) a = some (.ins (cSto K) dx (putF "_attic" (.ref ad) (putF "_temps" (.ref td) (putF "_files" (.ref Dn) [])))) := by rw [upd_ne (Ne.symm nld)]; exact upd_same
      have eL : upd (upd G2 a (.ins (cSto K) dx (putF "_attic" (.ref ad) (putF "_temps" (.ref td) (putF "_files" (.ref Dn) []))))) ld (.lst (bs.map V.int)) ld = some (.lst (bs.map V.int)) := upd_same
      generalize upd (upd G2 a (.ins (cSto K) dx (putF "_attic" (.ref ad) (putF "_temps" (.ref td) (putF "_files" (.ref Dn) []))))) ld (.lst (bs.map V.int)) = G3 at fL iL eL ⊢
      walk_at "go"
      refine ⟨a, _, dx, _, rfl, iL, st0.cl, st0.n4, lt_put (Nat.le_trans (len_put (len_put (len_put (n := 0) (Nat.le_refl 0)))) (by decide)), ?_⟩
      walk_at "go"
      rename_i nd hnd2
      have fN : Fr [a] G3 (upd (upd G3 a (.ins (cSto K) dx (putF "_log" (.ref ld) (putF "_attic" (.ref ad) (putF "_temps" (.ref td) (putF "_files" (.ref Dn) [])))))) nd (.lst [])) := ((Fr.refl [a] G3).put ma).same (same_new hnd2)
      obtain ⟨nnd, zN⟩ := upd_none hnd2
      have iN : upd (upd G3 a (.ins (cSto K) dx (putF "_log" (.ref ld) (putF "_attic" (.ref ad) (putF "_temps" (.ref td) (putF "_files" (.ref Dn) [])))))) nd (.lst []) a = some (.ins (cSto K) dx (putF "_log" (.ref ld) (putF "_attic" (.ref ad) (putF "_temps" (.ref td) (putF "_files" (.ref Dn) []))))) := by rw [upd_ne (Ne.symm nnd)]; exact upd_same
      have eN : upd (upd G3 a (.ins (cSto K) dx (putF "_log" (.ref ld) (putF "_attic" (.ref ad) (putF "_temps" (.ref td) (putF "_files" (.ref Dn) [])))))) nd (.lst []) nd = some (.lst []) := upd_same
      generalize upd (upd G3 a (.ins (cSto K) dx (putF "_log" (.ref ld) (putF "_attic" (.ref ad) (putF "_temps" (.ref td) (putF "_files" (.ref Dn) [])))))) nd (.lst []) = G4 at fN iN eN ⊢
      refine ⟨a, _, dx, _, rfl, iN, st0.cl, st0.n5, lt_put (Nat.le_trans (len_put (len_put (len_put (len_put (n := 0) (Nat.le_refl 0))))) (by decide)), ?_⟩
      walk_at "go"
      refine ⟨a, _, dx, _, rfl, upd_same, st0.cl, st0.n6, lt_put (Nat.le_trans (len_put (len_put (len_put (len_put (len_put (n := 0) (Nat.le_refl 0)))))) (by decide)), ?_⟩
      walk_at "go"
      refine ⟨a, _, dx, _, rfl, upd_same, st0.cl, st0.n7, lt_put (Nat.le_trans (len_put (len_put (len_put (len_put (len_put (len_put (n := 0) (Nat.le_refl 0))))))) (by decide)), ?_⟩
      walk_at "go"
      simp only [upd_upd]
      have sa : ∀ {p : Addr}, p ≠ a → p ∉ [a] := fun n m => n (List.mem_singleton.mp m)
      have nDa : Dn ≠ a := fun z => by rw [z, i0] at e0; cases e0
      -- what stands at the end
      have F4 := (Fr.refl [a] G4).put (o := .ins (cSto K) dx (putF "_done" (.int 0) (putF "_budget" .non (putF "_new_log" (.ref nd) (putF "_log" (.ref ld) (putF "_attic" (.ref ad) (putF "_temps" (.ref td) (putF "_files" (.ref Dn) [])))))))) ma
      have F3 := fN.trans F4
      have F2 := fL.trans F3
      have F1 := fD.trans F2
      have F0 := fT.trans F1
      generalize hfs : putF "_done" (.int 0) (putF "_budget" .non (putF "_new_log" (.ref nd) (putF "_log" (.ref ld) (putF "_attic" (.ref ad) (putF "_temps" (.ref td) (putF "_files" (.ref Dn) [])))))) = fs at F4 F3 F2 F1 F0 ⊢
      generalize hG5 : upd G4 a (.ins (cSto K) dx fs) = G5 at F4 F3 F2 F1 F0 ⊢
      have i5 : G5 a = some (.ins (cSto K) dx fs) := by rw [← hG5]; exact upd_same
      have eDn := F0 _ _ (sa nDa) e0
      have etd := F1 _ _ (sa ntd) eT
      have ead := F2 _ _ (sa nad) eD
      have eld := F3 _ _ (sa nld) eL
      have end_ := F4 _ _ (sa nnd) eN
      have z0 : ∀ {p : Addr}, p ≠ a → G0 p = none → H p = none := fun n h => fr_back f0 (sa n) h
      have zD0 := fr_back fT (sa nad) zD
      have zL0 := fr_back fT (sa nld) (fr_back fD (sa nld) zL)
      have zN0 := fr_back fT (sa nnd) (fr_back fD (sa nnd) (fr_back fL (sa nnd) zN))
      have nD : ∀ {p : Addr}, p ≠ a → G0 p = none → p ∉ D := fun n h => hA.free (z0 n h)
      have DnD : Dn ∉ D := hA.free hDn0
      -- their differences
      have d1 : td ≠ Dn := fun z => by rw [z, e0] at zT; cases zT
      have d2 : ad ≠ Dn := fun z => by rw [z, e0] at zD0; cases zD0
      have d3 : ad ≠ td := fun z => by rw [z, eT] at zD; cases zD
      have d4 : ld ≠ Dn := fun z => by rw [z, e0] at zL0; cases zL0
      have d5 : ld ≠ td := fun z => by rw [z, fD _ _ (sa ntd) eT] at zL; cases zL
      have d6 : ld ≠ ad := fun z => by rw [z, eD] at zL; cases zL
      have d7 : nd ≠ Dn := fun z => by rw [z, e0] at zN0; cases zN0
      have d8 : nd ≠ td := fun z => by rw [z, fL _ _ (sa ntd) (fD _ _ (sa ntd) eT)] at zN; cases zN
      have d9 : nd ≠ ad := fun z => by rw [z, fL _ _ (sa nad) eD] at zN; cases zN
      have keep : ∀ (y : Addr) (o : HO), (∀ C e fs, o ≠ .ins C e fs) → (∀ c o2, o ≠ .frz c o2) → hid (Dn :: D) H1 y = some o → hid (foot a Dn td ad ld nd []) (hid D G5) y = some o := fun y o no1 no2 h => by
        obtain ⟨n, h⟩ := hid_some h
        have n1 : y ∉ D := fun m => n (List.mem_cons_of_mem _ m)
        have n2 : y ≠ Dn := fun z => n (by rw [z]; exact List.mem_cons_self ..)
        have n3 : y ≠ d0 := fun z => by rw [z, fz] at h; cases h; exact no2 _ _ rfl
        have h0 := g0 y o n3 h
        have n4 : y ≠ a := fun z => by rw [z, i0] at h0; cases h0; exact no1 _ _ _ rfl
        have n5 : y ≠ td := fun z => by rw [z, zT] at h0; cases h0
        have n6 : y ≠ ad := fun z => by rw [z, zD0] at h0; cases h0
        have n7 : y ≠ ld := fun z => by rw [z, zL0] at h0; cases h0
        have n8 : y ≠ nd := fun z => by rw [z, zN0] at h0; cases h0
        rw [hid_at (by simp [foot, n2, n4, n5, n6, n7, n8]), hid_at n1]
        exact F0 _ _ (sa n4) h0
      refine k (foot a Dn td ad ld nd []) G5 (fun b nb o e => F0 _ _ (sa nb) (f0 _ _ (sa nb) e)) (fun b m => ?_) ⟨dx, Dn, td, ad, ld, nd, fs, w1, [], [], rfl, ?_⟩
      · simp only [foot, List.mem_cons, List.map_nil, List.not_mem_nil, or_false] at m
        rcases m with z | z | z | z | z | z
        · exact .inl z
        · rw [z]; exact .inr hDn0
        · rw [z]; exact .inr (z0 ntd zT)
        · rw [z]; exact .inr (z0 nad zD0)
        · rw [z]; exact .inr (z0 nld zL0)
        · rw [z]; exact .inr (z0 nnd zN0)
      · refine ⟨by rw [hid_at aD]; exact i5, ?_, ?_, ?_, ?_, ?_, ?_, ?_, ?_, fun m hm => ?_, by rw [hid_at DnD]; exact eDn, by rw [hid_at (nD ntd zT)]; exact etd, by rw [hid_at (nD nad zD0)]; exact ead, ?_, .nil, .nil, ?_, ?_, ?_, hnd, by simp⟩
        · rw [← hfs]
          exact len_put (len_put (len_put (len_put (len_put (len_put (len_put (n := 1) (by decide)))))))
        · rw [← hfs]; simp only [lookup_putF]; rfl
        · rw [← hfs]; simp only [lookup_putF]; rfl
        · rw [← hfs]; simp only [lookup_putF]; rfl
        · rw [← hfs]; simp only [lookup_putF]; rfl
        · rw [← hfs]; simp only [lookup_putF]; rfl
        · rw [← hfs]; simp only [lookup_putF]; rfl
        · rw [← hfs]; simp only [lookup_putF]; rfl
        · simp only [List.mem_cons, not_or] at hm
          obtain ⟨m1, m2, m3, m4, m5, m6, m7, _⟩ := hm
          rw [← hfs]
          simp only [lookup_putF]
          rw [if_neg m7, if_neg m6, if_neg m5, if_neg m4, if_neg m3, if_neg m2, if_neg m1]
          rfl
        · exact paired_imp (fun x r q => ⟨q.1, by
            obtain ⟨l, h1, h2⟩ := q.2
            exact ⟨l, keep _ _ (by intros; exact fun z => by cases z) (by intros; exact fun z => by cases z) h1, keep _ _ (by intros; exact fun z => by cases z) (by intros; exact fun z => by cases z) h2⟩⟩) q1
        · rw [hid_at (nD nld zL0)]; exact eld
        · rw [hid_at (nD nnd zN0)]; exact end_
        · have d10 : nd ≠ ld := fun z => by rw [z, eL] at zN; cases zN
          simp [foot, Ne.symm nDa, Ne.symm ntd, Ne.symm nad, Ne.symm nld, Ne.symm nnd, Ne.symm d1, Ne.symm d2, Ne.symm d3, Ne.symm d4, Ne.symm d5, Ne.symm d6, Ne.symm d7, Ne.symm d8, Ne.symm d9, Ne.symm d10]
theorem ok_Store_set_budget (T : Txt K mg)   {f : Addr} {fd : FuncData} (F : FunD K "set_budget" "Store.set_budget" (defArgs s_Store_set_budget) (defBody s_Store_set_budget) (defScope s_Store_set_budget) [] [] f fd) : FnOk P w K mg base CX0 1 f fd ["self", "count"] (sp_Store_set_budget K) := by
  refine F.ok sc_Store_set_budget (fun vs H Q E h => ?_) (fun cdv A outer s H vs Q E hr h => ?_)
  · obtain ⟨_, _, rfl, _⟩ := h
    rfl
  · have S := sc_Store_set_budget
    refine ⟨_, PSs.nox (pss_one (ps_fld (pv 0) (pv 1) rfl)), ?_⟩
    try dsimp only [cxOf, Cx.nox]
    have st0 : STT K := ⟨T.cl_Store, T.no_Store__files, T.no_Store__temps, T.no_Store__attic, T.no_Store__log, T.no_Store__new_log, T.no_Store__budget, T.no_Store__done⟩
    obtain ⟨_, _, rfl, a, F, D, S, o, rfl, rfl, hA, hS, k⟩ := h
    obtain ⟨dx, fd, td, ad, ld, nd, fs, fw, tw, aq, rfl, x0⟩ := id hS
    have x := x0.same' hid_sub
    have na : a ∉ D := fun m => hS.notin m (List.mem_cons_self ..)
    walk_at "go"
    refine ⟨a, _, dx, fs, rfl, x.ins, st0.cl, st0.n6, Nat.lt_of_le_of_lt x.len (by decide), ?_⟩
    have c := x0.bud o
    rw [← hid_upd na] at c
    refine k _ ?_ ⟨dx, fd, td, ad, ld, nd, _, fw, tw, aq, rfl, c⟩
    exact (Fr.refl _ _).put (List.mem_cons_self ..)
theorem ok_Store__count_write (T : Txt K mg)   {f : Addr} {fd : FuncData} (F : FunD K "_count_write" "Store._count_write" (defArgs s_Store__count_write) (defBody s_Store__count_write) (defScope s_Store__count_write) [] [] f fd) : FnOk P w K mg base (L2.CX P w) 3 f fd ["self"] (sp_Store__count_write K) := by
  refine F.ok sc_Store__count_write (fun vs H Q E h => ?_) (fun cdv A outer s H vs Q E hr h => ?_)
  · obtain ⟨_, rfl, _⟩ := h
    rfl
  · have S := sc_Store__count_write
    refine ⟨_, (C8.pss_cut (ps_if (pt_cmpR op_notN (pe_fld (pv 0) rfl) pe_non (nomark _))
    (pss_cons (ps_if (pt_cmpR op_le (pe_fld (pv 0) rfl) pe_int (nomark _))
      (pss_one (ps_raiseErr rfl T.er_PowerCut.er hr (takes_of rfl rfl rfl rfl) (pa_cons (pe_fld (pv 0) rfl) pa_nil)))
      pss_nil)
      (PSs.nox (pss_one (ps_fldaug (pv 0) pe_int in_sub))))
    pss_nil)
    (PSs.nox (pss_one (ps_fldaug (pv 0) pe_int in_add)))), ?_⟩
    try dsimp only [cxOf, Cx.nox]
    have st0 : STT K := ⟨T.cl_Store, T.no_Store__files, T.no_Store__temps, T.no_Store__attic, T.no_Store__log, T.no_Store__new_log, T.no_Store__budget, T.no_Store__done⟩
    obtain ⟨_, rfl, a, F, D, S, rfl, hA, hS, k1, k2⟩ := h
    obtain ⟨dx, fd, td, ad, ld, nd, fs, fw, tw, aq, rfl, x0⟩ := id hS
    have x := x0.same' hid_sub
    have na : a ∉ D := fun m => hS.notin m (List.mem_cons_self ..)
    refine e_cut (Mid := fun σ' H' => σ' = [some (.ref a)] ∧ S.bd ≠ some 0 ∧ Fr [a] H H' ∧ ∃ fs', StoX K (hid D H') a { S with bd := S.bd.map fun k => k - 1 } dx fd td ad ld nd fs' fw tw aq) ?_ ?_
    · have l6 := x.l6
      walk_at "go"
      refine ⟨rfl, ?_⟩
      cases ho : S.bd with
      | none =>
        walk_at "go"
        refine i_nd (fun z => absurd rfl z) (fun _ => ?_)
        walk_at "go"
        exact ⟨rfl, nofun, Fr.refl _ _, fs, { x0 with l6 := by rw [x0.l6, ho]; rfl }⟩
      | some n =>
        walk_at "go"
        refine i_nd (fun _ => ?_) (fun z => nomatch z)
        walk_at "go"
        rw [ho]
        refine ⟨_, _, rfl, rfl, ?_⟩
        walk_at "go"
        refine i_d (fun hn => ?_) (fun hn => ?_)
        · have hn0 : n = 0 := by omega
          subst hn0
          walk_at "go"
          exact k2 ho
        · walk_at "go"
          refine ⟨a, _, dx, fs, _, rfl, x.ins, st0.cl, st0.n6, x.l6, ?_⟩
          rw [ho]
          walk_at "go"
          refine ⟨_, _, rfl, rfl, ?_⟩
          refine ⟨dx, fs, x.ins, Nat.lt_of_le_of_lt x.len (by decide), ?_⟩
          have c := x0.bud (some (n - 1))
          have e1 : bdV (some (n - 1)) = .int ((n : Nat) - 1 : Int) := by
            show V.int _ = V.int _
            congr 1
            omega
          rw [← hid_upd na, e1] at c
          exact ⟨rfl, fun z => hn (by cases z; decide), (Fr.refl _ _).put (List.mem_cons_self ..), _, c⟩
    rintro σ' H' ⟨rfl, hb, f1, fs', y0⟩
    have y := y0.same' hid_sub
    walk_at "go"
    refine ⟨a, _, dx, fs', _, rfl, y.ins, st0.cl, st0.n7, y.l7, ?_⟩
    walk_at "go"
    refine ⟨_, _, rfl, rfl, ?_⟩
    walk_at "go"
    refine ⟨dx, fs', y.ins, Nat.lt_of_le_of_lt y.len (by decide), ?_⟩
    have c := y0.don (S.n + 1)
    rw [← hid_upd na] at c
    refine k1 hb _ ?_ ⟨dx, fd, td, ad, ld, nd, _, fw, tw, aq, rfl, c⟩
    exact f1.put (List.mem_cons_self ..)
theorem ok_Store_names (T : Txt K mg)   {f : Addr} {fd : FuncData} (F : FunD K "names" "Store.names" (defArgs s_Store_names) (defBody s_Store_names) (defScope s_Store_names) [] [] f fd) : FnOk P w K mg base CX0 1 f fd ["self"] (sp_Store_names K) := by
  refine F.ok sc_Store_names (fun vs H Q E h => ?_) (fun cdv A outer s H vs Q E hr h => ?_)
  · obtain ⟨_, rfl, _⟩ := h
    rfl
  · have S := sc_Store_names
    refine ⟨_, PSs.nox (pss_one (ps_ret (pe_callB (call_sortedD rfl) (by rfl) T.f_sorted (by first | rfl | decide +kernel) (pa_cons (pe_fld (pv 0) rfl) pa_nil)))), ?_⟩
    try dsimp only [cxOf, Cx.nox]
    have st0 : STT K := ⟨T.cl_Store, T.no_Store__files, T.no_Store__temps, T.no_Store__attic, T.no_Store__log, T.no_Store__new_log, T.no_Store__budget, T.no_Store__done⟩
    obtain ⟨_, rfl, a, F, S, rfl, hS, hl, k⟩ := h
    obtain ⟨dx, fd, td, ad, ld, nd, fs, fw, tw, aq, rfl, x⟩ := id hS
    walk_at "go"
    refine ⟨fd, dct fw, S.fl.map (·.1), rfl, .inl x.f1, dct_keys x.f2, by rw [List.length_map]; exact hl, fun ys p hp hs hpn => ?_⟩
    exact k p _ ys hpn (same_new hpn) upd_same hp hs
theorem ok_Store_read (T : Txt K mg)   {f : Addr} {fd : FuncData} (F : FunD K "read" "Store.read" (defArgs s_Store_read) (defBody s_Store_read) (defScope s_Store_read) [] [] f fd) : FnOk P w K mg base CX0 1 f fd ["self", "name"] (sp_Store_read K) := by
  refine F.ok sc_Store_read (fun vs H Q E h => ?_) (fun cdv A outer s H vs Q E hr h => ?_)
  · obtain ⟨_, _, rfl, _⟩ := h
    rfl
  · have S := sc_Store_read
    refine ⟨_, PSs.nox (pss_cons (ps_if (pt_cmp (pc_dnotin (hu_of hr) (pv 1) (pe_fld (pv 0) rfl)))
    (pss_one (ps_ret pe_non))
    pss_nil)
    (pss_cons (ps_asg (pe_dget (hu_of hr) (pe_fld (pv 0) rfl) (pv 1) (fun _ _ => rfl)) (pg_tup rfl (pgs_cons (pg_name (i := 2) S.nd rfl (by first | exact .inl rfl | exact .inr rfl)) (pgs_cons (pg_name (i := 3) S.nd rfl (by first | exact .inl rfl | exact .inr rfl)) pgs_nil))))
    (pss_one (ps_ret (pe_tup (pa_cons (pe_callTy call_list_of (by rfl) T.f_list (by first | rfl | decide +kernel) (pa_cons (pv 2) pa_nil)) (pa_cons (pv 3) pa_nil))))))), ?_⟩
    try dsimp only [cxOf, Cx.nox]
    have st0 : STT K := ⟨T.cl_Store, T.no_Store__files, T.no_Store__temps, T.no_Store__attic, T.no_Store__log, T.no_Store__new_log, T.no_Store__budget, T.no_Store__done⟩
    obtain ⟨_, _, rfl, a, F, S, nm, rfl, rfl, hS, k1, k2⟩ := h
    obtain ⟨dx, fd, td, ad, ld, nd, fs, fw, tw, aq, rfl, x⟩ := id hS
    walk_at "go"
    refine ⟨fd, _, rfl, DGet.k (k := Sum.inr nm) x.f1, ?_⟩
    rcases val_dct nm x.f2 with ⟨h1, h2⟩ | ⟨q, r2, h1, h2, ⟨l, g1, g2⟩, h4⟩
    · rw [h1]
      walk_at "go"
      exact k1 h2
    rw [h1]
    have g1 := (hid_some g1).2
    have g2 := (hid_some g2).2
    walk_at "go"
    refine ⟨fd, .ref q, rfl, by rw [← h1]; exact DGet.k (k := Sum.inr nm) x.f1, ?_⟩
    walk_at "go"
    intro l2 hl2
    walk_at "go"
    rename_i t ht
    refine k2 r2 h2 t l2 _ hl2 ((same_new hl2).free ht) ((same_new hl2).trans (same_new ht)) upd_same ?_
    exact same_new ht _ _ upd_same
theorem ok_Store_temp (T : Txt K mg)   {f : Addr} {fd : FuncData} (F : FunD K "temp" "Store.temp" (defArgs s_Store_temp) (defBody s_Store_temp) (defScope s_Store_temp) [] [] f fd) : FnOk P w K mg base CX0 1 f fd ["self", "name"] (sp_Store_temp K) := by
  refine F.ok sc_Store_temp (fun vs H Q E h => ?_) (fun cdv A outer s H vs Q E hr h => ?_)
  · obtain ⟨_, _, rfl, _⟩ := h
    rfl
  · have S := sc_Store_temp
    refine ⟨_, PSs.nox (pss_one (ps_ret (pe_ifExp (pt_cmp (pc_din (hu_of hr) (pv 1) (pe_fld (pv 0) rfl))) (pe_callTy call_list_of (by rfl) T.f_list (by first | rfl | decide +kernel) (pa_cons (pe_dget (hu_of hr) (pe_fld (pv 0) rfl) (pv 1) (fun _ _ => rfl)) pa_nil)) pe_non))), ?_⟩
    try dsimp only [cxOf, Cx.nox]
    have st0 : STT K := ⟨T.cl_Store, T.no_Store__files, T.no_Store__temps, T.no_Store__attic, T.no_Store__log, T.no_Store__new_log, T.no_Store__budget, T.no_Store__done⟩
    obtain ⟨_, _, rfl, a, F, S, nm, rfl, rfl, hS, k1, k2⟩ := h
    obtain ⟨dx, fd, td, ad, ld, nd, fs, fw, tw, aq, rfl, x⟩ := id hS
    walk_at "go"
    refine ⟨td, _, rfl, DGet.k (k := Sum.inr nm) x.t1, ?_⟩
    rcases val_dct (R := fun (q : Addr) (r : List Int) => H q = some (.lst (r.map V.int))) nm x.t2 with ⟨h1, h2⟩ | ⟨q, r2, h1, h2, h3, h4⟩
    · rw [h1]
      walk_at "go"
      exact k1 h2
    · rw [h1]
      walk_at "go"
      refine ⟨td, .ref q, rfl, by rw [← h1]; exact DGet.k (k := Sum.inr nm) x.t1, ?_⟩
      walk_at "go"
      intro l hl
      exact k2 r2 h2 l _ hl (same_new hl) upd_same
theorem ok_Store_append_temp (T : Txt K mg)  (m_Store__count_write : MetX P w K mg base 3 (He.ga K "Store") "_count_write" (sp_Store__count_write K)) {f : Addr} {fd : FuncData} (F : FunD K "append_temp" "Store.append_temp" (defArgs s_Store_append_temp) (defBody s_Store_append_temp) (defScope s_Store_append_temp) [] [] f fd) : FnOk P w K mg base (L2.CX P w) 4 f fd ["self", "name", "data"] (sp_Store_append_temp K) := by
  refine F.ok sc_Store_append_temp (fun vs H Q E h => ?_) (fun cdv A outer s H vs Q E hr h => ?_)
  · obtain ⟨_, _, _, rfl, _⟩ := h
    rfl
  · have S := sc_Store_append_temp
    refine ⟨_, (pss_one (ps_for (passes_of rfl) rfl (pi_list (pv 2)) (pg_name (i := 3) S.nd rfl (by first | exact .inl rfl | exact .inr rfl))
    (pss_cons (ps_expr (pe_mtX0 m_Store__count_write hr (by decide) (takes_of rfl rfl rfl rfl) (pv 0)))
      (PSs.nox (pss_one (ps_expr (pe_bm PySem.F.plainAttrs_list PySem.F.slot_list_append PySem.F.type_list_append mt_append (pe_dsetd (pe_fld (pv 0) rfl) (pv 1) (pe_lst pa_nil) ⟨by rfl, by rfl, by rfl, by rfl⟩) (pa_cons (pv 3) pa_nil)))))))), ?_⟩
    try dsimp only [cxOf, Cx.nox]
    have st0 : STT K := ⟨T.cl_Store, T.no_Store__files, T.no_Store__temps, T.no_Store__attic, T.no_Store__log, T.no_Store__new_log, T.no_Store__budget, T.no_Store__done⟩
    obtain ⟨_, _, _, rfl, a, d, F, D, S, nm, bs, rfl, rfl, rfl, hA, hS, hd, hdF, hn, hn2, hn3, k1, k2⟩ := h
    walk_at "go"
    refine for_list (K := K) (xs := bs.map V.int) (fun i σ H1 => (∃ v, σ = [some (.ref a), some (.str nm), some (.ref d), v]) ∧ ∃ F1, Fr F H H1 ∧ (∀ b ∈ F1, b ∈ F ∨ H b = none) ∧ Sto K (hid D H1) F1 a (S.apt nm bs i) ∧ i ≤ bs.length ∧ ∀ k, S.bd = some k → i ≤ k) ⟨⟨_, rfl⟩, F, Fr.refl _ _, fun b m => .inl m, by rw [apt_zero]; exact hS, Nat.zero_le _, fun k _ => Nat.zero_le k⟩ (fun i σ H1 _ p => ?_) (fun i x σ H1 hx p => ?_) (fun σ H1 p => ?_)
    · obtain ⟨_, F1, f1, _⟩ := p
      exact SqL.of (f1 d _ hdF hd)
    · obtain ⟨⟨v, rfl⟩, F1, f1, n1, hS1, hi, hk⟩ := p
      rw [List.getElem?_map] at hx
      obtain ⟨b, hb, rfl⟩ := Option.map_eq_some_iff.mp hx
      have hbl := (List.getElem?_eq_some_iff.mp hb).1
      obtain ⟨b1, b2⟩ := app_len nm (bs.take i) S.tp 100 10000 hn2 hn3
      have bl : (bs.take i).length = i := by rw [List.length_take]; omega
      rw [bl] at b1 b2
      have hS1s := hS1.sub
      have hAk : ∀ {Hx : Hp}, Fr F H Hx → Al D Hx := fun f => hA.fr hS f
      walk_at "go"
      refine ⟨_, rfl, a, F1, D, _, rfl, hAk f1, hS1, fun hbd H2 f2 hS2 => ?_, fun hbd d2 hd2 => ?_⟩
      · obtain ⟨dx, fd, td, ad, ld, nd, fs, fw, tw, aq, rfl, x1⟩ := id hS2
        have x := x1.same' hid_sub
        have f12 : Fr F H H2 := fun y o n e => by
          have ya : y ≠ a := fun z => n (by
            obtain ⟨_, _, _, _, _, _, _, _, _, _, rfl, _⟩ := hS
            rw [z]; exact List.mem_cons_self ..)
          exact f2 y o (fun m => ya (List.mem_singleton.mp m)) (f1 y o n e)
        have hA2 := hAk f12
        have e0 := apt_succ S nm hb
        have p := x.sep
        have hkk : ∀ k, S.bd = some k → i + 1 ≤ k := fun k hk2 => by
          have h1 := hk k hk2
          have h2 : (S.apt nm bs i).bd = some (k - i) := by show Option.map _ S.bd = _; rw [hk2]; rfl
          have h3 : k - i ≠ 0 := fun z => hbd (by rw [h2, z])
          omega
        walk_at "go"
        refine ⟨td, rfl, .inl ⟨_, .inl x.t1⟩, ?_⟩
        walk_at "go"
        rename_i l0 hl0
        have s0 := same_new (o := .lst []) hl0
        have y0 := x1.same' (hid_same s0)
        have lw : tw.length ≤ 100 + i := by rw [paired_len x.t2]; exact b1
        have mt : td ∈ foot a fd td ad ld nd tw := by simp [foot]
        refine ⟨dct tw, Sum.inr nm, s0 _ _ x.t1, rfl, ?_, fun v2 hv => ?_, fun hv => ?_⟩
        · unfold dct
          rw [List.length_map]
          exact Nat.lt_of_le_of_lt (by omega : _ ≤ 1100) (by decide)
        · rcases val_dct (R := fun (q : Addr) (r : List Int) => hid D (upd H2 l0 (.lst [])) q = some (.lst (r.map V.int))) nm y0.t2 with ⟨h1, h2⟩ | ⟨q, r2, h1, h2, h3, h4⟩
          · rw [hv] at h1; cases h1
          rw [hv] at h1
          cases h1
          have h2 : lk nm (S.apt nm bs i).tp = some r2 := h2
          have h3' := (hid_some h3).2
          have mq : q ∈ tw.map (·.2) := List.mem_map.mpr ⟨_, h4, rfl⟩
          have hm : q ∈ foot a fd td ad ld nd tw := by simp [foot, mq]
          refine ⟨.inl ⟨rfl, _, SqL.of h3'⟩, ?_⟩
          walk_at "go"
          have r2l : r2.length ≤ 10000 + i := b2 _ (lk_in h2)
          refine ⟨q, _, _, rfl, rfl, h3', by rw [List.length_map]; exact Nat.lt_of_le_of_lt (by omega : _ ≤ 11000) (by decide), ⟨_, rfl⟩, foot a fd td ad ld nd tw, (f12.same s0).put2 (n1 q hm), n1, ?_, by omega, hkk⟩
          have ea : ap1 nm (S.apt nm bs i).tp b = (S.apt nm bs i).tp.map fun y => if y.1 = nm then (nm, r2 ++ [b]) else y := by
            unfold ap1 fput
            rw [h2, if_pos (List.mem_map.mpr ⟨_, lk_in h2, rfl⟩)]
            rfl
          rw [← e0, hid_upd fun m => hS2.notin m hm, show r2.map V.int ++ [V.int b] = (r2 ++ [b]).map V.int by rw [List.map_append]; rfl, ea]
          have hw : (tw.map (·.1)).Nodup := by rw [prd_fst (R := fun (q : Addr) (r : List Int) => hid D H2 q = some (.lst (r.map V.int))) x1.t2]; exact x1.tn
          refine ⟨dx, fd, td, ad, ld, nd, fs, fw, tw, aq, rfl, y0.tmp ((Fr.refl _ _).put hm) (fun b m => .inl m) x1.nd (fun b m o2 e => ?_) (by rw [upd_ne fun z => p.s3.2.2.2 (by rw [z]; exact mq)]; exact y0.t1) (tps_put y0.t2 h4 hw p.s7) ?_⟩
          · rw [upd_ne fun z => ?_]
            · exact e
            · simp only [List.mem_cons, List.not_mem_nil, or_false] at m
              rw [z] at m
              rcases m with m | m | m | m | m
              · exact p.s1.2.2.2.2.2 (by rw [← m]; exact mq)
              · exact p.s2.2.2.2.2 (by rw [← m]; exact mq)
              · exact p.s4.2.2 (by rw [← m]; exact mq)
              · exact p.s5.2 (by rw [← m]; exact mq)
              · exact p.s6 (by rw [← m]; exact mq)
          · rw [← ea]
            exact fput_nodup x1.tn
        · rcases val_dct (R := fun (q : Addr) (r : List Int) => hid D H2 q = some (.lst (r.map V.int))) nm x1.t2 with ⟨h1, h2⟩ | ⟨q, r2, h1, h2, h3, h4⟩
          case inr => rw [hv] at h1; cases h1
          have h2 : lk nm (S.apt nm bs i).tp = none := h2
          have nlt : l0 ≠ td := fun z => by rw [z, x.t1] at hl0; cases hl0
          have l0f : l0 ∈ F ∨ H l0 = none := by
            cases hc : H l0 with
            | none => exact .inr rfl
            | some o =>
              refine .inl (Decidable.byContradiction fun nf => ?_)
              rw [f12 _ _ nf hc] at hl0; cases hl0
          have nl := hA2.free hl0
          have w9 := x.free hl0
          have ea : ap1 nm (S.apt nm bs i).tp b = fput nm [b] (S.apt nm bs i).tp := by
            unfold ap1
            rw [h2]
            rfl
          have s1 : Same (hid D H2) (upd (hid D H2) l0 (.lst [.int b])) := same_new (hid_none hl0)
          obtain ⟨g1, g2⟩ := put_dct (R := fun (q' : Addr) (r' : List Int) => upd (hid D H2) l0 (.lst [.int b]) q' = some (.lst (r'.map V.int))) (nm := nm) (t := l0) (x := [b]) (x1.same' s1).t2 (by rw [upd_same]; rfl)
          rw [g1]
          refine ⟨.inl ⟨rfl, _, SqL.of (by rw [upd_ne nlt]; exact upd_same)⟩, ?_⟩
          walk_at "go"
          refine ⟨l0, [], _, rfl, rfl, by rw [upd_ne nlt]; exact upd_same, by decide, ⟨_, rfl⟩, foot a fd td ad ld nd (fput nm l0 tw), (((f12.same s0).put2 (n1 _ mt)).put2 l0f), fun b m => ?_, ?_, by omega, hkk⟩
          · rcases foot_put b m with z | z
            · exact n1 b z
            · rw [z]; exact l0f
          · rw [← e0, ea, upd3 nlt, hid_upd nl, hid_upd fun m => hS2.notin m mt]
            have hne : ∀ b ∈ [a, fd, ad, ld, nd], b ≠ td := fun b m z => by
              simp only [List.mem_cons, List.not_mem_nil, or_false] at m
              rcases m with m | m | m | m | m
              · exact p.s1.2.1 (m.symm.trans z)
              · exact p.s2.1 (m.symm.trans z)
              · exact p.s3.1 (z.symm.trans m)
              · exact p.s3.2.1 (z.symm.trans m)
              · exact p.s3.2.2.1 (z.symm.trans m)
            have hw : (tw.map (·.1)).Nodup := by rw [prd_fst (R := fun (q : Addr) (r : List Int) => hid D H2 q = some (.lst (r.map V.int))) x1.t2]; exact x1.tn
            have eu : upd (upd (hid D H2) td (.dK (dct (fput nm l0 tw)))) l0 (.lst ([] ++ [V.int b])) = upd (upd (hid D H2) l0 (.lst [.int b])) td (.dK (dct (fput nm l0 tw))) := by
              funext y
              by_cases z : y = l0
              · rw [z, upd_same, upd_ne nlt, upd_same]; rfl
              · rw [upd_ne z]
                by_cases z2 : y = td
                · rw [z2, upd_same, upd_same]
                · rw [upd_ne z2, upd_ne z2, upd_ne z]
            rw [eu]
            exact ⟨dx, fd, td, ad, ld, nd, fs, fw, fput nm l0 tw, aq, rfl, x1.tmp ((Fr.of s1).put mt) (fun b m => (foot_put b m).imp id fun e => by rw [e]; exact hid_none hl0) (x1.sep.put hw w9).ft (fun b m o2 e => by rw [upd_ne (hne b m)]; exact s1 _ _ e) upd_same (tps_upd g2 fun b m e => (fput_in b m).elim (fun z => p.s3.2.2.2 (by rw [← e]; exact z)) fun z => nlt (z.symm.trans e)) (fput_nodup x1.tn)⟩
      · have h2 : (S.apt nm bs i).bd = S.bd.map fun k => k - i := rfl
        cases hbb : S.bd with
        | none => rw [h2, hbb] at hbd; cases hbd
        | some k =>
          rw [h2, hbb] at hbd
          have h3 : k - i = 0 := Option.some.inj hbd
          have h4 := hk k hbb
          have h5 : k = i := by omega
          subst h5
          exact k2 k hbb hbl F1 H1 f1 n1 hS1 d2 hd2
    · obtain ⟨⟨v, rfl⟩, F1, f1, n1, hS1, hi, hk⟩ := p
      rw [List.length_map] at *
      walk_at "go"
      exact k1 hk F1 H1 f1 n1 hS1
theorem ok_Store_cut_temp (T : Txt K mg)  (m_Store__count_write : MetX P w K mg base 3 (He.ga K "Store") "_count_write" (sp_Store__count_write K)) {f : Addr} {fd : FuncData} (F : FunD K "cut_temp" "Store.cut_temp" (defArgs s_Store_cut_temp) (defBody s_Store_cut_temp) (defScope s_Store_cut_temp) [] [] f fd) : FnOk P w K mg base (L2.CX P w) 4 f fd ["self", "name", "count"] (sp_Store_cut_temp K) := by
  refine F.ok sc_Store_cut_temp (fun vs H Q E h => ?_) (fun cdv A outer s H vs Q E hr h => ?_)
  · obtain ⟨_, _, _, rfl, _⟩ := h
    rfl
  · have S := sc_Store_cut_temp
    refine ⟨_, (pss_cons (ps_expr (pe_mtX0 m_Store__count_write hr (by decide) (takes_of rfl rfl rfl rfl) (pv 0)))
    (PSs.nox (pss_one (ps_if (pt_cmp (pc_din (hu_of hr) (pv 1) (pe_fld (pv 0) rfl)))
    (pss_one (ps_if (pt_cmpR op_eq (pv 2) pe_int (nomark _))
      (pss_one (ps_ddel (pe_fld (pv 0) rfl) (pv 1)))
      (pss_one (ps_dput (hu_of hr) (pe_fld (pv 0) rfl) (pv 1) (pe_slice (SlR.or sl_list sl_tupA) (pe_dget (hu_of hr) (pe_fld (pv 0) rfl) (pv 1) (fun _ _ => rfl)) po_none (po_some (pv 2))) rfl))))
    pss_nil)))), ?_⟩
    try dsimp only [cxOf, Cx.nox]
    have st0 : STT K := ⟨T.cl_Store, T.no_Store__files, T.no_Store__temps, T.no_Store__attic, T.no_Store__log, T.no_Store__new_log, T.no_Store__budget, T.no_Store__done⟩
    obtain ⟨_, _, _, rfl, a, F, D, S, nm, n, rfl, rfl, rfl, hA, hS, hl, k1, k2⟩ := h
    have hS0 := hS.sub
    walk_at "go"
    refine ⟨_, rfl, a, F, D, S, rfl, hA, hS, fun hbd H1 f1 hS1 => ?_, fun hbd d2 hd2 => k2 hbd d2 hd2⟩
    obtain ⟨dx, fd, td, ad, ld, nd, fs, fw, tw, aq, rfl, x1⟩ := id hS1
    have x := x1.same' hid_sub
    have fN : Fr (foot a fd td ad ld nd tw) H H1 := f1.mono fun y m => by rw [List.mem_singleton.mp m]; exact List.mem_cons_self ..
    have hm : td ∈ foot a fd td ad ld nd tw := by simp [foot]
    unfold S0.cutT at k1
    rcases val_dct (R := fun (q : Addr) (r : List Int) => H1 q = some (.lst (r.map V.int))) nm x.t2 with ⟨v1, v2⟩ | ⟨q, r, v1, v2, v3, v4⟩
    · have v2 : lk nm S.tp = none := v2
      rw [v2] at k1
      walk_at "go"
      refine ⟨td, none, rfl, ?_, ?_⟩
      · have := DGet.k (k := Sum.inr nm) x.t1
        rw [v1] at this
        exact this
      walk_at "go"
      exact k1 hbd _ H1 fN (fun b m => .inl m) hS1
    · have v2 : lk nm S.tp = some r := v2
      rw [v2] at k1
      walk_at "go"
      refine ⟨td, some (.ref q), rfl, ?_, ?_⟩
      · have := DGet.k (k := Sum.inr nm) x.t1
        rw [v1] at this
        exact this
      walk_at "go"
      have hne : ∀ b ∈ [a, fd, ad, ld, nd], b ≠ td := fun b m z => by
        have p := x.sep
        simp only [List.mem_cons, List.not_mem_nil, or_false] at m
        rcases m with m | m | m | m | m
        · exact p.s1.2.1 (m.symm.trans z)
        · exact p.s2.1 (m.symm.trans z)
        · exact p.s3.1 (z.symm.trans m)
        · exact p.s3.2.1 (z.symm.trans m)
        · exact p.s3.2.2.1 (z.symm.trans m)
      refine i_d (fun hn => ?_) (fun hn => ?_)
      · have hn0 : n = 0 := by omega
        dsimp only at k1
        rw [if_pos hn0] at k1
        unfold sDDel
        walk_at "go"
        refine ⟨td, _, Sum.inr nm, rfl, x.t1, rfl, by rw [v1]; rfl, ?_⟩
        obtain ⟨g1, g2⟩ := del_dct (R := fun (q : Addr) (r : List Int) => hid D H1 q = some (.lst (r.map V.int))) (nm := nm) x1.t2
        rw [g1]
        refine k1 hbd (foot a fd td ad ld nd (fdel nm tw)) _ (fN.put hm) (fun b m => .inl (foot_sub fdel_sub b m)) ⟨dx, fd, td, ad, ld, nd, fs, fw, fdel nm tw, aq, rfl, ?_⟩
        rw [hid_upd fun m => hS1.notin m hm]
        exact x1.tmp ((Fr.refl _ _).put hm) (fun b m => .inl (foot_sub fdel_sub b m)) (foot_del x1.nd) (fun b m o2 e => by rw [upd_ne (hne b m)]; exact e) upd_same (tps_upd g2 fun b m e => x.sep.s3.2.2.2 (by rw [← e]; exact fdel_sub b m)) (fdel_nodup x1.tn)
      · have hn0 : ¬ n = 0 := by omega
        dsimp only at k1
        rw [if_neg hn0] at k1
        walk_at "go"
        refine ⟨td, .ref q, rfl, by have := DGet.k (k := Sum.inr nm) x.t1; rw [v1] at this; exact this, ?_⟩
        walk_at "go"
        refine .inl (e_slL (SqL.of v3) fun q2 hq2 => ?_)
        rw [cut_toV, ← List.map_take]
        have s2 := same_new (o := .lst ((r.take n).map V.int)) hq2
        have x2 := x.same' s2
        have hA1 := hA.fr hS fN
        have nq := hA1.free hq2
        have e2 : hid D (upd H1 q2 (.lst ((r.take n).map V.int))) q2 = some (.lst ((r.take n).map V.int)) := by rw [hid_at nq]; exact upd_same
        have y2 := x1.same' (hid_same s2)
        have w9 := x.free hq2
        have lw : tw.length = S.tp.length := paired_len x.t2
        obtain ⟨g1, g2⟩ := put_dct (R := fun (q' : Addr) (r' : List Int) => hid D (upd H1 q2 (.lst ((List.take n r).map V.int))) q' = some (.lst (r'.map V.int))) (nm := nm) (x := r.take n) y2.t2 e2
        walk_at "go"
        refine ⟨td, _, rfl, DPut.k (k := Sum.inr nm) x2.t1 (by unfold dct; rw [List.length_map]; exact Nat.lt_of_le_of_lt (by omega : _ ≤ 100) (by decide)), ?_⟩
        rw [g1]
        refine k1 hbd (foot a fd td ad ld nd (fput nm q2 tw)) _ ((fN.same s2).put hm) (fun b m => (foot_put b m).imp id fun e => by rw [e]; exact fr_none f1 x.ins hq2) ⟨dx, fd, td, ad, ld, nd, fs, fw, fput nm q2 tw, aq, rfl, ?_⟩
        rw [hid_upd fun m => hS1.notin m hm]
        exact x1.tmp ((Fr.of (hid_same s2)).put hm) (fun b m => (foot_put b m).imp id fun e => by rw [e]; exact hid_none hq2) (x1.sep.put (by rw [prd_fst (R := fun (q : Addr) (r : List Int) => hid D H1 q = some (.lst (r.map V.int))) x1.t2]; exact x1.tn) w9).ft (fun b m o2 e => by rw [upd_ne (hne b m)]; exact hid_same s2 _ _ e) upd_same (tps_upd g2 fun b m e => (fput_in b m).elim (fun z => x.sep.s3.2.2.2 (by rw [← e]; exact z)) fun z => w9.2.2.1 (z.symm.trans e)) (fput_nodup x1.tn)
theorem ok_Store_place (T : Txt K mg)  (m_Store__count_write : MetX P w K mg base 3 (He.ga K "Store") "_count_write" (sp_Store__count_write K)) {f : Addr} {fd : FuncData} (F : FunD K "place" "Store.place" (defArgs s_Store_place) (defBody s_Store_place) (defScope s_Store_place) [] [] f fd) : FnOk P w K mg base (L2.CX P w) 4 f fd ["self", "name", "time"] (sp_Store_place K) := by
  refine F.ok sc_Store_place (fun vs H Q E h => ?_) (fun cdv A outer s H vs Q E hr h => ?_)
  · obtain ⟨_, _, _, rfl, _⟩ := h
    rfl
  · have S := sc_Store_place
    refine ⟨_, (pss_cons (ps_expr (pe_mtX0 m_Store__count_write hr (by decide) (takes_of rfl rfl rfl rfl) (pv 0)))
    (PSs.nox (pss_one (ps_dput (hu_of hr) (pe_fld (pv 0) rfl) (pv 1) (pe_tup (pa_cons (pe_dpop2 (pe_fld (pv 0) rfl) (pv 1) (pe_lst pa_nil) ⟨by rfl, by rfl, by rfl, by rfl⟩) (pa_cons (pv 2) pa_nil))) rfl)))), ?_⟩
    try dsimp only [cxOf, Cx.nox]
    have st0 : STT K := ⟨T.cl_Store, T.no_Store__files, T.no_Store__temps, T.no_Store__attic, T.no_Store__log, T.no_Store__new_log, T.no_Store__budget, T.no_Store__done⟩
    obtain ⟨_, _, _, rfl, a, F, D, S, nm, tm, rfl, rfl, rfl, hA, hS, hl, k1, k2⟩ := h
    have hS0 := hS.sub
    walk_at "go"
    refine ⟨_, rfl, a, F, D, S, rfl, hA, hS, fun hbd H1 f1 hS1 => ?_, fun hbd d2 hd2 => k2 hbd d2 hd2⟩
    obtain ⟨dx, fd, td, ad, ld, nd, fs, fw, tw, aq, rfl, x1⟩ := id hS1
    have x := x1.same' hid_sub
    have fN : Fr (foot a fd td ad ld nd tw) H H1 := f1.mono fun y m => by rw [List.mem_singleton.mp m]; exact List.mem_cons_self ..
    have hA1 := hA.fr hS fN
    have lw : fw.length = S.fl.length := paired_len x.f2
    have hm : td ∈ foot a fd td ad ld nd tw := by simp [foot]
    have hm2 : fd ∈ foot a fd td ad ld nd tw := by simp [foot]
    have p := x.sep
    walk_at "go"
    refine ⟨td, rfl, .inl ⟨_, .inl x.t1⟩, ?_⟩
    walk_at "go"
    rename_i l0 hl0
    have s0 := same_new (o := .lst []) hl0
    have y0 := x1.same' (hid_same s0)
    have z0 := x.same' s0
    refine ⟨_, Sum.inr nm, z0.t1, rfl, fun v hv => ?_, fun hv => ?_⟩
    · rcases val_dct (R := fun (q : Addr) (r : List Int) => hid D (upd H1 l0 (.lst [])) q = some (.lst (r.map V.int))) nm y0.t2 with ⟨v1, v2⟩ | ⟨q, r, v1, v2, v3, v4⟩
      · rw [hv] at v1; cases v1
      rw [hv] at v1
      cases v1
      have v2 : lk nm S.tp = some r := v2
      rw [v2] at k1
      obtain ⟨g1, g2⟩ := del_dct (R := fun (q : Addr) (r : List Int) => hid D (upd H1 l0 (.lst [])) q = some (.lst (r.map V.int))) (nm := nm) y0.t2
      rw [g1]
      have hne : ∀ b ∈ [a, fd, ad, ld, nd], b ≠ td := fun b m z => by
        simp only [List.mem_cons, List.not_mem_nil, or_false] at m
        rcases m with m | m | m | m | m
        · exact p.s1.2.1 (m.symm.trans z)
        · exact p.s2.1 (m.symm.trans z)
        · exact p.s3.1 (z.symm.trans m)
        · exact p.s3.2.1 (z.symm.trans m)
        · exact p.s3.2.2.1 (z.symm.trans m)
      have mq : q ∈ tw.map (·.2) := List.mem_map.mpr ⟨_, v4, rfl⟩
      have qt : q ≠ td := fun z => p.s3.2.2.2 (by rw [← z]; exact mq)
      have yT := y0.tmp (H2 := upd (hid D (upd H1 l0 (.lst []))) td (.dK (dct (fdel nm tw)))) ((Fr.refl _ _).put hm) (fun b m => .inl (foot_sub fdel_sub b m)) (foot_del x1.nd) (fun b m o2 e => by rw [upd_ne (hne b m)]; exact e) upd_same (tps_upd g2 fun b m e => p.s3.2.2.2 (by rw [← e]; exact fdel_sub b m)) (fdel_nodup x1.tn)
      rw [← hid_upd fun m => hS1.notin m hm] at yT
      have hq : upd (upd H1 l0 (.lst [])) td (.dK (dct (fdel nm tw))) q = some (.lst (r.map V.int)) := by rw [upd_ne qt]; exact (hid_some v3).2
      have qD : q ∉ D := (hid_some v3).1
      have fT : Fr (foot a fd td ad ld nd tw) H (upd (upd H1 l0 (.lst [])) td (.dK (dct (fdel nm tw)))) := (fN.same s0).put hm
      have hA2 := hA.fr hS fT
      generalize upd (upd H1 l0 (.lst [])) td (.dK (dct (fdel nm tw))) = H2 at yT hq fT hA2 ⊢
      walk_at "go"
      rename_i t ht
      have sT := same_new (o := .tup [.ref q, .int tm]) ht
      have xT := yT.same' hid_sub
      have xT2 := xT.same' sT
      have yT2 := yT.same' (hid_same sT)
      have nt := hA2.free ht
      have mt : t ∉ foot a fd td ad ld nd (fdel nm tw) := fun m => by
        obtain ⟨⟨o, e⟩, _⟩ := xT.has t m
        rw [ht] at e; cases e
      have mq2 : q ∉ foot a fd td ad ld nd (fdel nm tw) := fun m => by
        simp only [foot, List.mem_cons] at m
        rcases m with m | m | m | m | m | m | m
        · exact p.s1.2.2.2.2.2 (by rw [← m]; exact mq)
        · exact p.s2.2.2.2.2 (by rw [← m]; exact mq)
        · exact qt m
        · exact p.s4.2.2 (by rw [← m]; exact mq)
        · exact p.s5.2 (by rw [← m]; exact mq)
        · exact p.s6 (by rw [← m]; exact mq)
        · exact fdel_out v4 p.s7 m
      have hF : FilA (hid (foot a fd td ad ld nd (fdel nm tw)) (hid D (upd H2 t (.tup [.ref q, .int tm])))) t (r, tm) := ⟨q, by rw [hid_at mt, hid_at nt, upd_same], by rw [hid_at mq2, hid_at qD]; exact sT _ _ hq⟩
      obtain ⟨g3, g4⟩ := put_dct (nm := nm) yT2.f2 hF
      walk_at "go"
      refine ⟨fd, _, rfl, DPut.k (k := Sum.inr nm) xT2.f1 (by unfold dct; rw [List.length_map]; exact Nat.lt_of_le_of_lt (by omega : _ ≤ 100) (by decide)), ?_⟩
      rw [g3]
      refine k1 hbd (foot a fd td ad ld nd (fdel nm tw)) _ ((fT.same sT).put hm2) (fun b m => .inl (foot_sub fdel_sub b m)) ⟨dx, fd, td, ad, ld, nd, fs, fput nm t fw, fdel nm tw, aq, rfl, ?_⟩
      rw [hid_upd fun m => hS1.notin m hm2]
      exact yT2.fil g4 (fput_nodup x1.fn)
    · rcases val_dct (R := fun (q : Addr) (r : List Int) => hid D (upd H1 l0 (.lst [])) q = some (.lst (r.map V.int))) nm y0.t2 with ⟨v1, v2⟩ | ⟨q, r, v1, v2, v3, v4⟩
      case inr => rw [hv] at v1; cases v1
      have v2 : lk nm S.tp = none := v2
      rw [v2, fdel_none v2] at k1
      walk_at "go"
      rename_i t ht
      have sT := same_new (o := .tup [.ref l0, .int tm]) ht
      have xT2 := z0.same' sT
      have yT2 := y0.same' (hid_same sT)
      have ht1 : H1 t = none := s0.free ht
      have nt := hA1.free ht1
      have nl := hA1.free hl0
      have mt := hS1.new ht1
      have ml := hS1.new hl0
      have hF : FilA (hid (foot a fd td ad ld nd tw) (hid D (upd (upd H1 l0 (.lst [])) t (.tup [.ref l0, .int tm])))) t ([], tm) := ⟨l0, by rw [hid_at mt, hid_at nt, upd_same], by rw [hid_at ml, hid_at nl]; exact sT _ _ upd_same⟩
      obtain ⟨g3, g4⟩ := put_dct (nm := nm) yT2.f2 hF
      walk_at "go"
      refine ⟨fd, _, rfl, DPut.k (k := Sum.inr nm) xT2.f1 (by unfold dct; rw [List.length_map]; exact Nat.lt_of_le_of_lt (by omega : _ ≤ 100) (by decide)), ?_⟩
      rw [g3]
      refine k1 hbd (foot a fd td ad ld nd tw) _ ((fN.same (s0.trans sT)).put hm2) (fun b m => .inl m) ⟨dx, fd, td, ad, ld, nd, fs, fput nm t fw, tw, aq, rfl, ?_⟩
      rw [hid_upd fun m => hS1.notin m hm2]
      exact yT2.fil g4 (fput_nodup x1.fn)
theorem ok_Store_attic (T : Txt K mg)   {f : Addr} {fd : FuncData} (F : FunD K "attic" "Store.attic" (defArgs s_Store_attic) (defBody s_Store_attic) (defScope s_Store_attic) [] [] f fd) : FnOk P w K mg base CX0 1 f fd ["self"] (sp_Store_attic K) := by
  refine F.ok sc_Store_attic (fun vs H Q E h => ?_) (fun cdv A outer s H vs Q E hr h => ?_)
  · obtain ⟨_, rfl, _⟩ := h
    rfl
  · have S := sc_Store_attic
    refine ⟨_, PSs.nox (pss_one (ps_ret (pe_lc (own := [("name", 1), ("vector", 2), ("content", 3)]) (g := gTup K 3 (gCons (gName 1) (gCons (gName 2) (gCons (gName 3) gNil)))) (tt := tYes) rfl S.nd (pi_list (pe_fld (pv 0) rfl)) (blkOk_by (N := N_Store_attic) (sc := defScope s_Store_attic) (by decide +kernel)) (fun _ _ _ _ _ => (pg_tupK (n := 3) K rfl (pgs_cons (pg_name (i := 1) S.nd rfl (by first | exact .inl rfl | exact .inr rfl)) (pgs_cons (pg_name (i := 2) S.nd rfl (by first | exact .inl rfl | exact .inr rfl)) (pgs_cons (pg_name (i := 3) S.nd rfl (by first | exact .inl rfl | exact .inr rfl)) pgs_nil))))) (fun _ _ _ _ _ => pts_nil) (fun _ _ _ _ _ => (pe_tup (pa_cons (pv 1) (pa_cons (pv 2) (pa_cons (pe_callTy (lstOK K) (by rfl) T.f_list (by first | rfl | decide +kernel) (pa_cons (pv 3) pa_nil)) pa_nil)))))))), ?_⟩
    try dsimp only [cxOf, Cx.nox]
    have st0 : STT K := ⟨T.cl_Store, T.no_Store__files, T.no_Store__temps, T.no_Store__attic, T.no_Store__log, T.no_Store__new_log, T.no_Store__budget, T.no_Store__done⟩
    obtain ⟨_, rfl, a, F, S, rfl, hS, hl, k⟩ := h
    obtain ⟨dx, fd, td, ad, ld, nd, fs, fw, tw, aq, rfl, x⟩ := id hS
    walk_at "go"
    refine ⟨ad, rfl, ⟨_, SqL.of x.a1⟩, fun D hD => ?_⟩
    have la := paired_len x.a2
    refine lc_rel (walk_list (K := K) (xs := aq.map V.ref)) hD (by rw [List.length_map]; omega) (fun H1 s1 => s1.seq (SqL.of x.a1)) (fun i v H1 => ∃ q r, v = .ref q ∧ S.at_[i]? = some r ∧ ∀ E : List Addr, (∀ d ∈ E, (∃ o, H d = some o) ∧ NT H d) → AttA K (hid E H1) q r) (fun i v H1 H2 h s => ?_) (fun i y H1 H2 C E acc hi s1 e1 hy hC => ?_) (fun H1 us s1 e1 l1 hr => ?_)
    · obtain ⟨q, r, h1, h2, h3⟩ := h
      exact ⟨q, r, h1, h2, fun E hE => (h3 E hE).same (hid_same s)⟩
    · obtain ⟨rfl, hx⟩ := hy
      rw [List.getElem?_map] at hx
      obtain ⟨q, hq, rfl⟩ := Option.map_eq_some_iff.mp hx
      obtain ⟨r, hr, v, l, t1, t2, t3⟩ := paired_get x.a2 i q hq
      have t1 := s1 _ _ (hid_some t1).2
      have t3 := s1 _ _ (hid_some t3).2
      walk_at "go"
      intro l2 hl2
      walk_at "go"
      rename_i t ht
      have s2 := same_new (o := .lst (r.2.2.map V.int)) hl2
      have s3 := same_new (o := .tup [.str r.1, .ref v, .ref l2]) ht
      refine hC _ _ (s2.trans s3) ⟨t, r, rfl, hr, fun E0 has => ?_⟩
      have t2 := vec_hid (t2.same hid_sub) fun d m => (has d m).2
      have fr : ∀ b ∈ E0, ∃ o, H2 b = some o := fun b m => by
        obtain ⟨⟨o, z⟩, _⟩ := has b m
        exact ⟨o, s1 _ _ z⟩
      have nl : l2 ∉ E0 := fun m => by
        obtain ⟨o, z⟩ := fr _ m
        rw [hl2] at z; cases z
      have nt : t ∉ E0 := fun m => by
        obtain ⟨o, z⟩ := fr _ m
        rw [s2 _ _ z] at ht; cases ht
      have n1 : l2 ∉ [D] := fun m => by rw [List.mem_singleton.mp m, e1] at hl2; cases hl2
      have n2 : t ∉ [D] := fun m => by rw [List.mem_singleton.mp m, s2 _ _ e1] at ht; cases ht
      refine ⟨v, l2, by rw [hid_at nt, hid_at n2, upd_same], t2.same ?_, by rw [hid_at nl, hid_at n1]; exact s3 _ _ upd_same⟩
      intro y o hy
      obtain ⟨ny, hy⟩ := hid_some hy
      have nD : y ∉ [D] := fun m => by rw [List.mem_singleton.mp m, hD] at hy; cases hy
      rw [hid_at ny, hid_at nD]
      exact s3 _ _ (s2 _ _ (s1 _ _ hy))
    obtain ⟨qs, rfl⟩ := all_refs us fun u m => by
      obtain ⟨i, hi⟩ := List.getElem?_of_mem m
      obtain ⟨q, _, e, _⟩ := hr i u hi
      exact ⟨q, e⟩
    have hA : ∀ E : List Addr, (∀ d ∈ E, (∃ o, H d = some o) ∧ NT H d) → Ats K (hid E H1) qs S.at_ := fun E hE => prd_mk (by rw [List.length_map] at l1; rw [List.length_map] at l1; omega) fun i q r h1 h2 => by
      obtain ⟨q2, r2, e2, e3, e4⟩ := hr i (.ref q) (by rw [List.getElem?_map, h1]; rfl)
      cases e2
      rw [h2] at e3
      cases e3
      exact (e4 E hE).same (hid_same hid_sub)
    exact k D qs H1 hD s1 e1 (by
      have := hA [] fun d m => by cases m
      rwa [hid_nil] at this) hA
theorem ok_Store_attic_put (T : Txt K mg)  (m_Store__count_write : MetX P w K mg base 3 (He.ga K "Store") "_count_write" (sp_Store__count_write K)) {f : Addr} {fd : FuncData} (F : FunD K "attic_put" "Store.attic_put" (defArgs s_Store_attic_put) (defBody s_Store_attic_put) (defScope s_Store_attic_put) [] [] f fd) : FnOk P w K mg base (L2.CX P w) 4 f fd ["self", "name", "vector", "content"] (sp_Store_attic_put K) := by
  refine F.ok sc_Store_attic_put (fun vs H Q E h => ?_) (fun cdv A outer s H vs Q E hr h => ?_)
  · obtain ⟨_, _, _, _, rfl, _⟩ := h
    rfl
  · have S := sc_Store_attic_put
    refine ⟨_, (pss_cons (ps_expr (pe_mtX0 m_Store__count_write hr (by decide) (takes_of rfl rfl rfl rfl) (pv 0)))
    (PSs.nox (pss_one (ps_expr (pe_bm PySem.F.plainAttrs_list PySem.F.slot_list_append PySem.F.type_list_append mt_append (pe_fld (pv 0) rfl) (pa_cons (pe_tup (pa_cons (pv 1) (pa_cons (pv 2) (pa_cons (pe_callTy call_list_of (by rfl) T.f_list (by first | rfl | decide +kernel) (pa_cons (pv 3) pa_nil)) pa_nil)))) pa_nil)))))), ?_⟩
    try dsimp only [cxOf, Cx.nox]
    have st0 : STT K := ⟨T.cl_Store, T.no_Store__files, T.no_Store__temps, T.no_Store__attic, T.no_Store__log, T.no_Store__new_log, T.no_Store__budget, T.no_Store__done⟩
    obtain ⟨_, _, _, _, rfl, a, w, l, F, D, S, z, vc, bs, rfl, rfl, rfl, rfl, hA, hS, hv, hl, hn, k1, k2⟩ := h
    have hS0 := hS.sub
    have ia : ∃ dx fs, H a = some (.ins (cSto K) dx fs) := by
      obtain ⟨dx, fd, td, ad, ld, nd, fs, fw, tw, aq, _, y⟩ := hS0
      exact ⟨dx, fs, y.ins⟩
    obtain ⟨dx0, fs0, ia⟩ := ia
    walk_at "go"
    refine ⟨_, rfl, a, F, D, S, rfl, hA, hS, fun hbd H1 f1 hS1 => ?_, fun hbd d2 hd2 => k2 hbd d2 hd2⟩
    obtain ⟨dx, fd, td, ad, ld, nd, fs, fw, tw, aq, rfl, x1⟩ := id hS1
    have x := x1.same' hid_sub
    have fN : Fr (foot a fd td ad ld nd tw) H H1 := f1.mono fun y m => by rw [List.mem_singleton.mp m]; exact List.mem_cons_self ..
    have hA1 := hA.fr hS fN
    have na : ∀ d ∈ [a], NT H d := fun d m => by rw [List.mem_singleton.mp m]; exact nt_ins ia
    have nb : ∀ d ∈ [a], NL H d := fun d m => by rw [List.mem_singleton.mp m]; exact nl_ins ia
    have hv1 := vec_fr hv f1 na
    have hl1 := seq_fr hl f1 nb
    walk_at "go"
    refine ⟨.inl ⟨rfl, _, SqL.of x.a1⟩, ?_⟩
    walk_at "go"
    intro l2 hl2
    walk_at "go"
    rename_i t ht
    have s2 := same_new (o := .lst (bs.map V.int)) hl2
    have s3 := same_new (o := .tup [.str z, .ref w, .ref l2]) ht
    have ht1 : H1 t = none := s2.free ht
    refine ⟨ad, _, _, rfl, rfl, s3 _ _ (s2 _ _ x.a1), ?_, ?_⟩
    · have := paired_len x.a2
      have h3 : aq.length = S.at_.length := this
      rw [List.length_map]
      exact Nat.lt_of_le_of_lt (by omega : _ ≤ 1000) (by decide)
    have hm : ad ∈ foot a fd td ad ld nd tw := by simp [foot]
    refine k1 hbd _ ((fN.same (s2.trans s3)).put hm) ⟨dx, fd, td, ad, ld, nd, fs, fw, tw, aq ++ [t], rfl, ?_⟩
    have nl := hA1.free hl2
    have nt := hA1.free ht1
    have ml := hS1.new hl2
    have mt := hS1.new ht1
    have hat : AttA K (hid (foot a fd td ad ld nd tw) (hid D (upd (upd H1 l2 (.lst (bs.map V.int))) t (.tup [.str z, .ref w, .ref l2])))) t (z, (vc, bs)) :=
      ⟨w, l2, by rw [hid_at mt, hid_at nt, upd_same], (vec_hid (vec_hid hv1 hA1.nt) fun d m => (x1.has d m).2).same (hid_same (hid_same (s2.trans s3))), by rw [hid_at ml, hid_at nl]; exact s3 _ _ upd_same⟩
    have c := (x1.same' (hid_same (s2.trans s3))).att (Paired.snoc (x1.same' (hid_same (s2.trans s3))).a2 hat)
    rw [List.map_append, ← hid_upd fun m => hS1.notin m hm] at c
    exact c
theorem ok_Store_durable (T : Txt K mg)   {f : Addr} {fd : FuncData} (F : FunD K "durable" "Store.durable" (defArgs s_Store_durable) (defBody s_Store_durable) (defScope s_Store_durable) [] [] f fd) : FnOk P w K mg base CX0 1 f fd ["self"] (sp_Store_durable K) := by
  refine F.ok sc_Store_durable (fun vs H Q E h => ?_) (fun cdv A outer s H vs Q E hr h => ?_)
  · obtain ⟨_, rfl, _⟩ := h
    rfl
  · have S := sc_Store_durable
    refine ⟨_, PSs.nox (pss_cons (ps_set (i := 1) S.nd rfl (by first | exact .inl rfl | exact .inr rfl) (pe_callTy call_tuple_of (by rfl) T.f_tuple (by first | rfl | decide +kernel) (pa_cons (pe_lc (own := [("name", 4)]) (g := gName 4) (tt := tYes) rfl S.nd (pi_list (pe_callB (call_sortedD rfl) (by rfl) T.f_sorted (by first | rfl | decide +kernel) (pa_cons (pe_fld (pv 0) rfl) pa_nil))) (blkOk_by (N := N_Store_durable) (sc := defScope s_Store_durable) (by decide +kernel)) (fun _ _ _ _ _ => (pg_name (i := 4) S.nd rfl (by first | exact .inl rfl | exact .inr rfl))) (fun _ _ _ _ _ => pts_nil) (fun _ _ _ _ _ => (pe_tup (pa_cons (pv 4) (pa_cons (pe_callTy (tupOK K) (by rfl) T.f_tuple (by first | rfl | decide +kernel) (pa_cons (pe_ix (ixT K) (pe_dget (hu_of hr) (pe_fldK K (pv 0) rfl) (pv 4) (fun _ _ => rfl)) pe_int (fun _ _ => rfl)) pa_nil)) (pa_cons (pe_ix (ixT K) (pe_dget (hu_of hr) (pe_fldK K (pv 0) rfl) (pv 4) (fun _ _ => rfl)) pe_int (fun _ _ => rfl)) pa_nil)))))) pa_nil)))
    (pss_cons (ps_set (i := 2) S.nd rfl (by first | exact .inl rfl | exact .inr rfl) (pe_callTy call_tuple_of (by rfl) T.f_tuple (by first | rfl | decide +kernel) (pa_cons (pe_lc (own := [("name", 4)]) (g := gName 4) (tt := tYes) rfl S.nd (pi_list (pe_callB (call_sortedD rfl) (by rfl) T.f_sorted (by first | rfl | decide +kernel) (pa_cons (pe_fld (pv 0) rfl) pa_nil))) (blkOk_by (N := N_Store_durable) (sc := defScope s_Store_durable) (by decide +kernel)) (fun _ _ _ _ _ => (pg_name (i := 4) S.nd rfl (by first | exact .inl rfl | exact .inr rfl))) (fun _ _ _ _ _ => pts_nil) (fun _ _ _ _ _ => (pe_tup (pa_cons (pv 4) (pa_cons (pe_callTy (tupOK K) (by rfl) T.f_tuple (by first | rfl | decide +kernel) (pa_cons (pe_dget (hu_of hr) (pe_fldK K (pv 0) rfl) (pv 4) (fun _ _ => rfl)) pa_nil)) pa_nil))))) pa_nil)))
    (pss_cons (ps_set (i := 3) S.nd rfl (by first | exact .inl rfl | exact .inr rfl) (pe_callTy call_tuple_of (by rfl) T.f_tuple (by first | rfl | decide +kernel) (pa_cons (pe_lc (own := [("name", 4), ("vector", 5), ("content", 6)]) (g := gTup K 3 (gCons (gName 4) (gCons (gName 5) (gCons (gName 6) gNil)))) (tt := tYes) rfl S.nd (pi_list (pe_fld (pv 0) rfl)) (blkOk_by (N := N_Store_durable) (sc := defScope s_Store_durable) (by decide +kernel)) (fun _ _ _ _ _ => (pg_tupK (n := 3) K rfl (pgs_cons (pg_name (i := 4) S.nd rfl (by first | exact .inl rfl | exact .inr rfl)) (pgs_cons (pg_name (i := 5) S.nd rfl (by first | exact .inl rfl | exact .inr rfl)) (pgs_cons (pg_name (i := 6) S.nd rfl (by first | exact .inl rfl | exact .inr rfl)) pgs_nil))))) (fun _ _ _ _ _ => pts_nil) (fun _ _ _ _ _ => (pe_tup (pa_cons (pv 4) (pa_cons (pv 5) (pa_cons (pe_callTy (tupOK K) (by rfl) T.f_tuple (by first | rfl | decide +kernel) (pa_cons (pv 6) pa_nil)) pa_nil)))))) pa_nil)))
    (pss_one (ps_ret (pe_tup (pa_cons (pv 1) (pa_cons (pv 2) (pa_cons (pv 3) (pa_cons (pe_callTy call_tuple_of (by rfl) T.f_tuple (by first | rfl | decide +kernel) (pa_cons (pe_fld (pv 0) rfl) pa_nil)) (pa_cons (pe_callTy call_tuple_of (by rfl) T.f_tuple (by first | rfl | decide +kernel) (pa_cons (pe_fld (pv 0) rfl) pa_nil)) pa_nil))))))))))), ?_⟩
    try dsimp only [cxOf, Cx.nox]
    have st0 : STT K := ⟨T.cl_Store, T.no_Store__files, T.no_Store__temps, T.no_Store__attic, T.no_Store__log, T.no_Store__new_log, T.no_Store__budget, T.no_Store__done⟩
    obtain ⟨_, rfl, a, F, S, rfl, hS, hf, ht, ha, k⟩ := h
    obtain ⟨dx, fd, td, ad, ld, nd, fs, fw, tw, aq, rfl, x⟩ := id hS
    walk_at "go"
    refine ⟨fd, dct fw, S.fl.map (·.1), rfl, .inl x.f1, dct_keys x.f2, by rw [List.length_map]; exact hf, fun ys p hpy hsy hp => ?_⟩
    have yl : ys.length < 64 := by rw [hpy.length_eq, List.length_map]; exact hf
    have sp := same_new (o := .lst (ys.map V.str)) hp
    refine ⟨p, rfl, ⟨_, SqL.of upd_same⟩, fun D hD => ?_⟩
    have hD0 : H D = none := sp.free hD
    refine lc_rel (walk_list (K := K) (xs := ys.map V.str)) hD (by rw [List.length_map]; omega) (fun H1 s1 => s1.seq (SqL.of upd_same)) (fun i v H1 => ∃ y, ys[i]? = some y ∧ Dp K H1 v (durF S y)) (fun i v H1 H2 h s => ?_) (fun i y H1 H2 C E acc hi s1 e1 hy hC => ?_) (fun H1 us s1 e1 l1 hr => ?_)
    · obtain ⟨y, h1, h2⟩ := h
      exact ⟨y, h1, dp_same s h2⟩
    · obtain ⟨rfl, hx⟩ := hy
      rw [List.getElem?_map] at hx
      obtain ⟨y, hq, rfl⟩ := Option.map_eq_some_iff.mp hx
      have my : y ∈ S.fl.map (·.1) := hpy.mem_iff.mp (List.mem_of_getElem? hq)
      obtain ⟨r, hr, _⟩ := lk_mem my
      rcases val_dct y x.f2 with ⟨h1, h2⟩ | ⟨q, r2, h1, h2, ⟨l, g1, g2⟩, h4⟩
      · rw [hr] at h2; cases h2
      rw [hr] at h2
      cases h2
      have s01 := sp.trans s1
      have x2 := x.same s01
      have g1 := s01 _ _ (hid_some g1).2
      have g2 := s01 _ _ (hid_some g2).2
      walk_at "go"
      refine ⟨fd, .ref q, rfl, by rw [← h1]; exact DGet.k (k := Sum.inr y) x2.f1, ?_⟩
      walk_at "go"
      refine e_ixT (SqT.of g1) rfl ?_
      walk_at "go"
      refine ⟨l, _, rfl, .inl ⟨SqL.of g2, fun l2 hl2 => ?_⟩⟩
      have s2 := same_new (o := .tup (r.1.map V.int)) hl2
      have x3 := x2.same s2
      walk_at "go"
      refine ⟨fd, .ref q, rfl, by rw [← h1]; exact DGet.k (k := Sum.inr y) x3.f1, ?_⟩
      walk_at "go"
      refine e_ixT (SqT.of (s2 _ _ g1)) rfl ?_
      walk_at "go"
      rename_i t ht3
      have s3 := same_new (o := .tup [.str y, .ref l2, .int r.2]) ht3
      refine hC _ _ (s2.trans s3) ⟨y, hq, ?_⟩
      have hN : (upd (hid [D] H2) l2 (.tup (r.1.map V.int))) t = none := by rw [← hid_new e1 hl2]; exact hid_none ht3
      rw [hid_new (s2 _ _ e1) ht3, hid_new e1 hl2]
      unfold durF
      rw [hr]
      exact .tup (SqT.of upd_same) (.cons (.str _) (.cons (dp_ti (SqT.of ((same_new hN) _ _ upd_same))) (.cons (.int _) .nil)))
    rw [List.length_map] at l1
    have dF : DpAll K H1 us (ys.map (durF S)) := dpa_mk (by rw [List.length_map]; exact l1) fun i v d h1 h2 => by
      obtain ⟨y, e2, e3⟩ := hr i v h1
      rw [List.getElem?_map, e2] at h2
      cases h2
      exact dp_same hid_sub e3
    walk_at "go"
    refine ⟨D, us, rfl, .inl ⟨SqL.of e1, fun tF htF => ?_⟩⟩
    have sF := same_new (o := .tup us) htF
    have s1F := (sp.trans s1).trans sF
    have xF := x.same s1F
    walk_at "go"
    refine ⟨td, dct tw, S.tp.map (·.1), rfl, .inl xF.t1, dct_keys (R := fun (q : Addr) (r : List Int) => H q = some (.lst (r.map V.int))) x.t2, by rw [List.length_map]; exact ht, fun zs p2 hpz hsz hp2 => ?_⟩
    have zl : zs.length < 64 := by rw [hpz.length_eq, List.length_map]; exact ht
    have sp2 := same_new (o := .lst (zs.map V.str)) hp2
    refine ⟨p2, rfl, ⟨_, SqL.of upd_same⟩, fun D2 hD2 => ?_⟩
    refine lc_rel (walk_list (K := K) (xs := zs.map V.str)) hD2 (by rw [List.length_map]; omega) (fun H1 s1 => s1.seq (SqL.of upd_same)) (fun i v H1 => ∃ y, zs[i]? = some y ∧ Dp K H1 v (durT S y)) (fun i v H1 H2 h s => ?_) (fun i y H1 H2 C E acc hi s1 e1 hy hC => ?_) (fun H2 us2 s2 e2 l2 hr2 => ?_)
    · obtain ⟨y, h1, h2⟩ := h
      exact ⟨y, h1, dp_same s h2⟩
    · obtain ⟨rfl, hx⟩ := hy
      rw [List.getElem?_map] at hx
      obtain ⟨y, hq, rfl⟩ := Option.map_eq_some_iff.mp hx
      have my : y ∈ S.tp.map (·.1) := hpz.mem_iff.mp (List.mem_of_getElem? hq)
      obtain ⟨r, hr, _⟩ := lk_mem my
      have s01 := (s1F.trans sp2).trans s1
      have x2 := x.same s01
      rcases val_dct (R := fun (q : Addr) (r : List Int) => H2 q = some (.lst (r.map V.int))) y x2.t2 with ⟨h1, h2⟩ | ⟨q, r2, h1, h2, g2, h4⟩
      · rw [hr] at h2; cases h2
      rw [hr] at h2
      cases h2
      walk_at "go"
      refine ⟨td, .ref q, rfl, by rw [← h1]; exact DGet.k (k := Sum.inr y) x2.t1, ?_⟩
      walk_at "go"
      refine ⟨q, _, rfl, .inl ⟨SqL.of g2, fun l2 hl2 => ?_⟩⟩
      have s2 := same_new (o := .tup (r.map V.int)) hl2
      walk_at "go"
      rename_i t ht3
      refine hC _ _ (s2.trans (same_new ht3)) ⟨y, hq, ?_⟩
      have hN : (upd (hid [D2] H2) l2 (.tup (r.map V.int))) t = none := by rw [← hid_new e1 hl2]; exact hid_none ht3
      rw [hid_new (s2 _ _ e1) ht3, hid_new e1 hl2]
      unfold durT
      rw [hr]
      exact .tup (SqT.of upd_same) (.cons (.str _) (.cons (dp_ti (SqT.of ((same_new hN) _ _ upd_same))) .nil))
    rw [List.length_map] at l2
    have dT : DpAll K H2 us2 (zs.map (durT S)) := dpa_mk (by rw [List.length_map]; exact l2) fun i v d h1 h2 => by
      obtain ⟨y, e2, e3⟩ := hr2 i v h1
      rw [List.getElem?_map, e2] at h2
      cases h2
      exact dp_same hid_sub e3
    walk_at "go"
    refine ⟨D2, us2, rfl, .inl ⟨SqL.of e2, fun tT htT => ?_⟩⟩
    have sT := same_new (o := .tup us2) htT
    have s12 := (sp2.trans s2).trans sT
    have s2T := s1F.trans s12
    have xT := x.same s2T
    walk_at "go"
    refine ⟨ad, rfl, ⟨_, SqL.of xT.a1⟩, fun D3 hD3 => ?_⟩
    have la := paired_len x.a2
    refine lc_rel (walk_list (K := K) (xs := aq.map V.ref)) hD3 (by rw [List.length_map]; omega) (fun H1 s1 => s1.seq (SqL.of xT.a1)) (fun i v H1 => ∃ r, S.at_[i]? = some r ∧ Dp K H1 v (durA r)) (fun i v H1 H2 h s => ?_) (fun i y H1 H2 C E acc hi s1 e1 hy hC => ?_) (fun H3 us3 s3 e3 l3 hr3 => ?_)
    · obtain ⟨y, h1, h2⟩ := h
      exact ⟨y, h1, dp_same s h2⟩
    · obtain ⟨rfl, hx⟩ := hy
      rw [List.getElem?_map] at hx
      obtain ⟨q, hq, rfl⟩ := Option.map_eq_some_iff.mp hx
      obtain ⟨r, hr, v, l, t1, t2, t3⟩ := paired_get xT.a2 i q hq
      have t1 := s1 _ _ (hid_some t1).2
      have t3 := s1 _ _ (hid_some t3).2
      walk_at "go"
      refine ⟨l, _, rfl, .inl ⟨SqL.of t3, fun l2 hl2 => ?_⟩⟩
      have s2 := same_new (o := .tup (r.2.2.map V.int)) hl2
      walk_at "go"
      rename_i t ht3
      refine hC _ _ (s2.trans (same_new ht3)) ⟨r, hr, ?_⟩
      have hN : (upd (hid [D3] H2) l2 (.tup (r.2.2.map V.int))) t = none := by rw [← hid_new e1 hl2]; exact hid_none ht3
      rw [hid_new (s2 _ _ e1) ht3, hid_new e1 hl2]
      have hv := ((t2.same hid_sub).same (same_hidN hD3 s1)).same ((same_new (o := .tup (r.2.2.map V.int)) (hid_none hl2)).trans (same_new (o := .tup [.str r.1, .ref v, .ref l2]) hN))
      exact .tup (SqT.of upd_same) (.cons (.str _) (.cons (dp_vec hv) (.cons (dp_ti (SqT.of ((same_new hN) _ _ upd_same))) .nil)))
    rw [List.length_map] at l3
    have dA : DpAll K H3 us3 (S.at_.map durA) := dpa_mk (by rw [List.length_map, l3, la]) fun i v d h1 h2 => by
      obtain ⟨y, e2, e3⟩ := hr3 i v h1
      rw [List.getElem?_map, e2] at h2
      cases h2
      exact dp_same hid_sub e3
    walk_at "go"
    refine ⟨D3, us3, rfl, .inl ⟨SqL.of e3, fun tA htA => ?_⟩⟩
    have sA := same_new (o := .tup us3) htA
    have s3A := s3.trans sA
    have xA := xT.same s3A
    walk_at "go"
    refine ⟨ld, S.lg.map V.int, rfl, .inl ⟨SqL.of xA.g1, fun tL htL => ?_⟩⟩
    have sL := same_new (o := .tup (S.lg.map V.int)) htL
    have xL := xA.same sL
    walk_at "go"
    refine ⟨nd, S.nw.map V.int, rfl, .inl ⟨SqL.of xL.g2, fun tN htN => ?_⟩⟩
    have sN := same_new (o := .tup (S.nw.map V.int)) htN
    walk_at "go"
    rename_i t ht3
    have sR := same_new (o := .tup [.ref tF, .ref tT, .ref tA, .ref tL, .ref tN]) ht3
    have sLR := sN.trans sR
    have sAR := sL.trans sLR
    have sTR := s3A.trans sAR
    have sFR := s12.trans sTR
    refine k t _ (s1F.trans sFR) ⟨ys, zs, hpy, hsy, hpz, hsz, ?_⟩
    refine .tup (SqT.of upd_same) (.cons (.tup (SqT.of (sFR _ _ upd_same)) (dpa_same (sF.trans sFR) dF)) (.cons (.tup (SqT.of (sTR _ _ upd_same)) (dpa_same (sT.trans sTR) dT)) (.cons (.tup (SqT.of (sAR _ _ upd_same)) (dpa_same (sA.trans sAR) dA)) (.cons (.tup (SqT.of (sLR _ _ upd_same)) (dpAll_ints S.lg)) (.cons (.tup (SqT.of (sR _ _ upd_same)) (dpAll_ints S.nw)) .nil)))))
theorem ok_Store__keep (T : Txt K mg)   {f : Addr} {fd : FuncData} (F : FunD K "_keep" "Store._keep" (defArgs s_Store__keep) (defBody s_Store__keep) (defScope s_Store__keep) [] [] f fd) : FnOk P w K mg base CX0 1 f fd ["self", "temps", "attic", "new_log"] (sp_Store__keep K) := by
  refine F.ok sc_Store__keep (fun vs H Q E h => ?_) (fun cdv A outer s H vs Q E hr h => ?_)
  · obtain ⟨_, _, _, _, rfl, _⟩ := h
    rfl
  · have S := sc_Store__keep
    refine ⟨_, PSs.nox (pss_cons (ps_fld (pv 0) (pe_dc (own := [("name", 4), ("content", 5)]) (g := gTup K 2 (gCons (gName 4) (gCons (gName 5) gNil))) (tt := tYes) rfl S.nd (pi_tup (pv 1)) (blkOk_by (N := N_Store__keep) (sc := defScope s_Store__keep) (by decide +kernel)) (fun _ _ _ _ _ => (pg_tupK (n := 2) K rfl (pgs_cons (pg_name (i := 4) S.nd rfl (by first | exact .inl rfl | exact .inr rfl)) (pgs_cons (pg_name (i := 5) S.nd rfl (by first | exact .inl rfl | exact .inr rfl)) pgs_nil)))) (fun _ _ _ _ _ => pts_nil) (fun _ _ _ _ _ => (pv 4)) (fun _ _ _ _ _ => (pe_callTy (lstOK K) (by rfl) T.f_list (by first | rfl | decide +kernel) (pa_cons (pv 5) pa_nil)))) rfl)
    (pss_cons (ps_fld (pv 0) (pe_lc (own := [("name", 4), ("vector", 6), ("content", 5)]) (g := gTup K 3 (gCons (gName 4) (gCons (gName 6) (gCons (gName 5) gNil)))) (tt := tYes) rfl S.nd (pi_tup (pv 2)) (blkOk_by (N := N_Store__keep) (sc := defScope s_Store__keep) (by decide +kernel)) (fun _ _ _ _ _ => (pg_tupK (n := 3) K rfl (pgs_cons (pg_name (i := 4) S.nd rfl (by first | exact .inl rfl | exact .inr rfl)) (pgs_cons (pg_name (i := 6) S.nd rfl (by first | exact .inl rfl | exact .inr rfl)) (pgs_cons (pg_name (i := 5) S.nd rfl (by first | exact .inl rfl | exact .inr rfl)) pgs_nil))))) (fun _ _ _ _ _ => pts_nil) (fun _ _ _ _ _ => (pe_tup (pa_cons (pv 4) (pa_cons (pv 6) (pa_cons (pe_callTy (lstOK K) (by rfl) T.f_list (by first | rfl | decide +kernel) (pa_cons (pv 5) pa_nil)) pa_nil)))))) rfl)
    (pss_one (ps_fld (pv 0) (pe_callTy call_list_of (by rfl) T.f_list (by first | rfl | decide +kernel) (pa_cons (pv 3) pa_nil)) rfl)))), ?_⟩
    try dsimp only [cxOf, Cx.nox]
    have st0 : STT K := ⟨T.cl_Store, T.no_Store__files, T.no_Store__temps, T.no_Store__attic, T.no_Store__log, T.no_Store__new_log, T.no_Store__budget, T.no_Store__done⟩
    obtain ⟨_, _, _, _, rfl, a, pt, pa, pn, F, D, S, zs, as_, bs, rfl, rfl, rfl, rfl, hA, hS, hT, hzn, hzl, hAt, hal, hN, k⟩ := h
    obtain ⟨dx, fd, td, ad, ld, nd, fs, fw, tw, aq, rfl, x0⟩ := id hS
    have x := x0.same' hid_sub
    have aD : a ∉ D := fun m => hS.notin m (List.mem_cons_self ..)
    obtain ⟨_, us, e0, hTs, hTa⟩ := dp_tupI hT
    cases e0
    have ul : us.length = zs.length := by rw [dpa_len hTa, List.length_map]
    have ma : a ∈ [a] := List.mem_cons_self ..
    have ni : ∀ d ∈ [a], NT H d := fun d m => by rw [List.mem_singleton.mp m]; exact nt_ins x.ins
    walk_at "go"
    intro Dn hDn
    refine dc_it (walk_tup (K := K) (xs := us)) (fun i H1 => Same H H1 ∧ ∃ w1, H1 Dn = some (.dK (dct w1)) ∧ Tps H1 w1 (zs.take i) ∧ (Dn :: w1.map (·.2)).Nodup ∧ ∀ b ∈ w1.map (·.2), H b = none) ⟨same_new hDn, [], upd_same, .nil, by simp, fun b m => by cases m⟩ (fun i H1 _ p => same_tup p.1 hTs) (fun i v H1 H2 hi p hy => ?_) (fun H1 p => ?_)
    · obtain ⟨s1, w1, e1, q1, nd1, n1⟩ := p
      obtain ⟨rfl, hx⟩ := hy
      obtain ⟨d, hd1, hd2⟩ := dpa_get hTa i v hx
      rw [List.getElem?_map] at hd1
      obtain ⟨y, hy, rfl⟩ := Option.map_eq_some_iff.mp hd1
      obtain ⟨p, q, rfl, t1, t2⟩ := dp_kT hd2
      have t1 := same_tup s1 t1
      have t2 := same_tup s1 t2
      walk_at "go"
      intro l hl
      have s2 := same_new (o := .lst (y.2.map V.int)) hl
      have nm0 : lk y.1 (zs.take i) = none := lk_none fun m => by
        have hri := (List.getElem?_eq_some_iff.mp hy)
        rw [← List.take_append_drop i zs, List.map_append] at hzn
        have hd2 := List.nodup_append.mp hzn
        refine hd2.2.2 _ m y.1 ?_ rfl
        rw [List.drop_eq_getElem_cons hri.1, hri.2]
        exact List.mem_cons_self ..
      have vn : valV (dct w1) (Sum.inr y.1) = none := by
        rcases val_dct (R := fun (q : Addr) (r : List Int) => H2 q = some (.lst (r.map V.int))) y.1 q1 with ⟨h1, _⟩ | ⟨_, _, _, h2, _⟩
        · exact h1
        · rw [nm0] at h2; cases h2
      have lw1 : w1.length ≤ 100 := by
        have := paired_len q1
        rw [List.length_take] at this
        omega
      have lD : l ≠ Dn := fun z => by rw [z, e1] at hl; cases hl
      have lw : l ∉ w1.map (·.2) := fun m => by
        obtain ⟨xs, e⟩ := tps_mem q1 l m
        rw [hl] at e; cases e
      have etk : zs.take (i + 1) = zs.take i ++ [y] := by rw [List.take_add_one, hy]; rfl
      refine ⟨dct w1, Sum.inr y.1, rfl, s2 _ _ e1, ?_, Same.mut (s1.trans s2) hDn, w1 ++ [(y.1, l)], ?_, ?_, ?_, ?_⟩
      · unfold dct
        rw [List.length_map]
        exact Nat.lt_of_le_of_lt (by omega : _ ≤ 100) (by decide)
      · rw [upd_same, putK_new _ vn]
        unfold dct
        rw [List.map_append]
        rfl
      · rw [etk]
        refine Paired.snoc (tps_upd (tps_same q1 s2) fun b m z => ?_) ⟨rfl, by rw [upd_ne lD]; exact upd_same⟩
        rw [List.nodup_cons] at nd1
        exact nd1.1 (by rw [← z]; exact m)
      · rw [List.map_append]
        rw [List.nodup_cons] at nd1 ⊢
        refine ⟨fun m => ?_, List.nodup_append.mpr ⟨nd1.2, by simp, fun u mu v mv e => ?_⟩⟩
        · rcases List.mem_append.mp m with m | m
          · exact nd1.1 m
          · exact lD (List.mem_singleton.mp m).symm
        · rw [List.mem_singleton.mp mv] at e
          have e2 : u = l := e
          exact lw (by rw [← e2]; exact mu)
      · intro b m
        rw [List.map_append] at m
        rcases List.mem_append.mp m with m | m
        · exact n1 b m
        · rw [List.mem_singleton.mp m]; exact s1.free hl
    · obtain ⟨s1, w1, e1, q1, nd1, n1⟩ := p
      rw [ul, List.take_length] at q1
      have x1 := x.same' s1
      walk_at "go"
      refine ⟨a, _, dx, fs, rfl, x1.ins, st0.cl, st0.n2, Nat.lt_of_le_of_lt x.len (by decide), ?_⟩
      have f1 : Fr [a] H (upd H1 a (.ins (cSto K) dx (putF "_temps" (.ref Dn) fs))) := (Fr.of s1).put ma
      have i1 : upd H1 a (.ins (cSto K) dx (putF "_temps" (.ref Dn) fs)) a = some (.ins (cSto K) dx (putF "_temps" (.ref Dn) fs)) := upd_same
      have g1 : Fr [a] H1 (upd H1 a (.ins (cSto K) dx (putF "_temps" (.ref Dn) fs))) := (Fr.refl _ _).put ma
      generalize upd H1 a (.ins (cSto K) dx (putF "_temps" (.ref Dn) fs)) = G1 at f1 i1 g1 ⊢
      obtain ⟨_, us2, e0, hAs, hAa⟩ := dp_tupI hAt
      cases e0
      have ul2 : us2.length = as_.length := by rw [dpa_len hAa, List.length_map]
      have hAs1 := sqT_fr hAs f1 ni
      walk_at "go"
      intro D2 hD2
      refine lc_rel (walk_tup (K := K) (xs := us2)) hD2 (by omega) (fun H2 s2 => same_tup s2 hAs1) (fun i v H2 => ∃ q r w l, v = .ref q ∧ as_[i]? = some r ∧ H2 q = some (.tup [.str r.1, .ref w, .ref l]) ∧ Vec K H2 w r.2.1 ∧ H2 l = some (.lst (r.2.2.map V.int)) ∧ G1 l = none) (fun i v H2 H3 h s => ?_) (fun i v H2 H3 C E acc hi s2 e2 hy hC => ?_) (fun H2 vs2 s2 e2 l2 hr => ?_)
      · obtain ⟨q, r, w, l, h1, h2, h3, h4, h5, h6⟩ := h
        exact ⟨q, r, w, l, h1, h2, s _ _ h3, h4.same s, s _ _ h5, h6⟩
      · obtain ⟨rfl, hx⟩ := hy
        obtain ⟨d, hd1, hd2⟩ := dpa_get hAa i v hx
        rw [List.getElem?_map] at hd1
        obtain ⟨r, hr, rfl⟩ := Option.map_eq_some_iff.mp hd1
        obtain ⟨p, w, q, rfl, t1, t2, t3⟩ := dp_kA hd2
        have t1 := same_tup s2 (sqT_fr t1 f1 ni)
        have t2' := vec_fr t2 f1 ni
        have t2 := t2'.same s2
        have t3 := same_tup s2 (sqT_fr t3 f1 ni)
        walk_at "go"
        intro l hl
        walk_at "go"
        rename_i t ht
        have sl := same_new (o := .lst (r.2.2.map V.int)) hl
        have st := same_new (o := .tup [.str r.1, .ref w, .ref l]) ht
        have tD : t ≠ D2 := fun z => by rw [z, sl _ _ e2] at ht; cases ht
        have lD : l ≠ D2 := fun z => by rw [z, e2] at hl; cases hl
        refine hC _ _ (sl.trans st) ⟨t, r, w, l, rfl, hr, by rw [hid_at fun m => tD (List.mem_singleton.mp m), upd_same], ?_, ?_, s2.free hl⟩
        · exact t2'.same (same_hidN hD2 ((s2.trans sl).trans st))
        · rw [hid_at fun m => lD (List.mem_singleton.mp m)]
          exact st _ _ upd_same
      obtain ⟨qs, rfl⟩ := all_refs vs2 fun u m => by
        obtain ⟨i, hi⟩ := List.getElem?_of_mem m
        obtain ⟨q, _, _, _, e, _⟩ := hr i u hi
        exact ⟨q, e⟩
      rw [List.length_map] at l2
      have i2 := s2 _ _ i1
      have k2 : (putF "_temps" (.ref Dn) fs).lookup ("_attic" : Str) = some (.ref ad) := by rw [lookup_putF, if_neg (by decide)]; exact x.l3
      have k3 : (putF "_attic" (.ref D2) (putF "_temps" (.ref Dn) fs)).lookup ("_new_log" : Str) = some (.ref nd) := by rw [lookup_putF, if_neg (by decide), lookup_putF, if_neg (by decide)]; exact x.l5
      walk_at "go"
      refine ⟨a, _, dx, _, rfl, i2, st0.cl, st0.n3, Nat.lt_of_le_of_lt (by rw [put_same x.l2]; exact x.len) (by decide), ?_⟩
      have f2 : Fr [a] H (upd H2 a (.ins (cSto K) dx (putF "_attic" (.ref D2) (putF "_temps" (.ref Dn) fs)))) := (f1.same s2).put ma
      have g2 : Fr [a] H2 (upd H2 a (.ins (cSto K) dx (putF "_attic" (.ref D2) (putF "_temps" (.ref Dn) fs)))) := (Fr.refl _ _).put ma
      have i3 : upd H2 a (.ins (cSto K) dx (putF "_attic" (.ref D2) (putF "_temps" (.ref Dn) fs))) a = some (.ins (cSto K) dx (putF "_attic" (.ref D2) (putF "_temps" (.ref Dn) fs))) := upd_same
      generalize upd H2 a (.ins (cSto K) dx (putF "_attic" (.ref D2) (putF "_temps" (.ref Dn) fs))) = G2 at f2 g2 i3 ⊢
      have hN2 := sqT_fr hN f2 ni
      walk_at "go"
      intro nd2 hnd2
      have sN := same_new (o := .lst (bs.map V.int)) hnd2
      walk_at "go"
      refine ⟨a, _, dx, _, rfl, sN _ _ i3, st0.cl, st0.n5, Nat.lt_of_le_of_lt (by rw [put_same k2, put_same x.l2]; exact x.len) (by decide), ?_⟩
      have f3 : Fr [a] H (upd (upd G2 nd2 (.lst (bs.map V.int))) a (.ins (cSto K) dx (putF "_new_log" (.ref nd2) (putF "_attic" (.ref D2) (putF "_temps" (.ref Dn) fs))))) := (f2.same sN).put ma
      have g3 : Fr [a] G2 (upd (upd G2 nd2 (.lst (bs.map V.int))) a (.ins (cSto K) dx (putF "_new_log" (.ref nd2) (putF "_attic" (.ref D2) (putF "_temps" (.ref Dn) fs))))) := (Fr.of sN).put ma
      have i4 : upd (upd G2 nd2 (.lst (bs.map V.int))) a (.ins (cSto K) dx (putF "_new_log" (.ref nd2) (putF "_attic" (.ref D2) (putF "_temps" (.ref Dn) fs)))) a = some (.ins (cSto K) dx (putF "_new_log" (.ref nd2) (putF "_attic" (.ref D2) (putF "_temps" (.ref Dn) fs)))) := upd_same
      have nda : nd2 ≠ a := fun z => by rw [z, i3] at hnd2; cases hnd2
      have e5 : upd (upd G2 nd2 (.lst (bs.map V.int))) a (.ins (cSto K) dx (putF "_new_log" (.ref nd2) (putF "_attic" (.ref D2) (putF "_temps" (.ref Dn) fs)))) nd2 = some (.lst (bs.map V.int)) := by rw [upd_ne nda]; exact upd_same
      generalize upd (upd G2 nd2 (.lst (bs.map V.int))) a (.ins (cSto K) dx (putF "_new_log" (.ref nd2) (putF "_attic" (.ref D2) (putF "_temps" (.ref Dn) fs)))) = G3 at f3 g3 i4 e5 ⊢
      -- what is new
      have sa : ∀ {p : Addr}, p ≠ a → p ∉ [a] := fun n m => n (List.mem_singleton.mp m)
      have D2a : D2 ≠ a := fun z => by rw [z, i1] at hD2; cases hD2
      have zD2 : H D2 = none := fr_back f1 (sa D2a) hD2
      have znd : H nd2 = none := fr_back f2 (sa nda) hnd2
      have g12 : Fr [a] G1 G2 := (Fr.of s2).trans g2
      have g13 : Fr [a] G1 G3 := g12.trans g3
      have g03 : Fr [a] H1 G3 := g1.trans g13
      have Dna : Dn ≠ a := fun z => by rw [z, x.ins] at hDn; cases hDn
      have wa : ∀ b ∈ w1.map (·.2), b ≠ a := fun b m z => by have := n1 b m; rw [z, x.ins] at this; cases this
      have eDn := g03 _ _ (sa Dna) e1
      have eD2 : G3 D2 = some (.lst (qs.map V.ref)) := g3 _ _ (sa D2a) (g2 _ _ (sa D2a) e2)
      have eT : Tps G3 w1 zs := prd_mk (paired_len q1) fun i y r h1 h2 => by
        obtain ⟨r2, h3, h4, h5⟩ := paired_get q1 i y h1
        rw [h2] at h3
        cases h3
        exact ⟨h4, g03 _ _ (sa (wa _ (List.mem_map.mpr ⟨y, List.mem_of_getElem? h1, rfl⟩))) h5⟩
      have in1 : ∀ {b : Addr} {o : HO}, b ≠ a → H1 b = some o → ∃ o, G1 b = some o := fun n e => ⟨_, g1 _ _ (sa n) e⟩
      have hn : ∀ b ∈ Dn :: D2 :: nd2 :: w1.map (·.2), H b = none := fun b m => by
        simp only [List.mem_cons] at m
        rcases m with m | m | m | m
        · rw [m]; exact hDn
        · rw [m]; exact zD2
        · rw [m]; exact znd
        · exact n1 b m
      have ww : ∀ b ∈ w1.map (·.2), (∃ o, G1 b = some o) ∧ ∃ o, G2 b = some o := fun b m => by
        obtain ⟨xs, e⟩ := tps_mem q1 b m
        exact ⟨in1 (wa b m) e, _, g12 _ _ (sa (wa b m)) (g1 _ _ (sa (wa b m)) e)⟩
      have hnd3 : (Dn :: D2 :: nd2 :: w1.map (·.2)).Nodup := by
        rw [List.nodup_cons] at nd1
        rw [List.nodup_cons, List.nodup_cons, List.nodup_cons]
        simp only [List.mem_cons, not_or]
        refine ⟨⟨fun z => ?_, fun z => ?_, nd1.1⟩, ⟨fun z => ?_, fun m => ?_⟩, fun m => ?_, nd1.2⟩
        · rw [← z, g1 _ _ (sa Dna) e1] at hD2; cases hD2
        · rw [← z, g12 _ _ (sa Dna) (g1 _ _ (sa Dna) e1)] at hnd2; cases hnd2
        · rw [← z, g2 _ _ (sa D2a) e2] at hnd2; cases hnd2
        · obtain ⟨o, e⟩ := (ww _ m).1
          rw [hD2] at e; cases e
        · obtain ⟨o, e⟩ := (ww _ m).2
          rw [hnd2] at e; cases e
      have nD : ∀ b ∈ Dn :: D2 :: nd2 :: w1.map (·.2), b ∉ D := fun b m => hA.free (hn b m)
      have hat : ∀ {b : Addr} {o : HO}, b ∉ D → G3 b = some o → hid D G3 b = some o := fun n e => by rw [hid_at n]; exact e
      have hAts : Ats K (hid (foot a fd Dn D2 ld nd2 w1) (hid D G3)) qs as_ := prd_mk (by omega) fun i q r h1 h2 => by
        obtain ⟨q', r', w, l, e3, e4, t1, t2, t3, t4⟩ := hr i (.ref q) (by rw [List.getElem?_map, h1]; rfl)
        cases e3
        rw [h2] at e4
        cases e4
        have t1' := (hid_some t1).2
        have t3' := (hid_some t3).2
        have la : l ≠ a := fun z => by rw [z, i1] at t4; cases t4
        have qa : q ≠ a := fun z => by rw [z, i2] at t1'; cases t1'
        have u1 : G3 q = _ := g3 _ _ (sa qa) (g2 _ _ (sa qa) t1')
        have u3 : G3 l = _ := g3 _ _ (sa la) (g2 _ _ (sa la) t3')
        have lD : l ∉ D := fun m => by
          obtain ⟨⟨o, e⟩, _⟩ := hA l m
          have : H l = none := fr_back f1 (sa la) t4
          rw [this] at e; cases e
        have ft : ∀ b ∈ foot a fd Dn D2 ld nd2 w1, NT G3 b := fun b m => by
          simp only [foot, List.mem_cons] at m
          rcases m with m | m | m | m | m | m | m
          · rw [m]; exact nt_ins i4
          · rw [m]; exact nt_dK (f3 _ _ (sa fun z => x.sep.s1.1 z.symm) x.f1)
          · rw [m]; exact nt_dK eDn
          · rw [m]; exact nt_lst eD2
          · rw [m]; exact nt_lst (f3 _ _ (sa fun z => x.sep.s1.2.2.2.1 z.symm) x.g1)
          · rw [m]; exact nt_lst e5
          · obtain ⟨xs, e⟩ := tps_mem eT b m
            exact nt_lst e
        have hA3 : Al D G3 := hA.kp (S := [a]) (fun d m z => aD (by rw [← List.mem_singleton.mp z]; exact m)) f3
        have qf : q ∉ foot a fd Dn D2 ld nd2 w1 := fun m => (ft q m).1 _ u1
        have qD : q ∉ D := fun m => (hA3.nt q m).1 _ u1
        have lf : l ∉ foot a fd Dn D2 ld nd2 w1 := fun m => by
          simp only [foot, List.mem_cons] at m
          rcases m with m | m | m | m | m | m | m
          · exact la m
          · rw [m, f1 _ _ (sa fun z => x.sep.s1.1 z.symm) x.f1] at t4; cases t4
          · rw [m, g1 _ _ (sa Dna) e1] at t4; cases t4
          · exact (hid_some t3).1 (List.mem_singleton.mpr m)
          · rw [m, f1 _ _ (sa fun z => x.sep.s1.2.2.2.1 z.symm) x.g1] at t4; cases t4
          · rw [← m, g2 _ _ (sa la) t3'] at hnd2; cases hnd2
          · obtain ⟨o, e⟩ := (ww _ m).1
            rw [t4] at e; cases e
        have hv : Vec K G3 w r.2.1 := vec_fr (vec_fr (t2.same hid_sub) g2 fun d m => by rw [List.mem_singleton.mp m]; exact nt_ins i2) g3 fun d m => by rw [List.mem_singleton.mp m]; exact nt_ins i3
        refine ⟨w, l, by rw [hid_at qf, hid_at qD]; exact u1, vec_hid (vec_hid hv hA3.nt) fun d m => ?_, by rw [hid_at lf, hid_at lD]; exact u3⟩
        exact ⟨fun xs z => (ft d m).1 xs (hid_some z).2, fun c xs z => (ft d m).2 c xs (hid_some z).2⟩
      refine k (foot a fd Dn D2 ld nd2 w1) G3 f3 (fun b m => ?_) ⟨dx, fd, Dn, D2, ld, nd2, _, fw, w1, qs, rfl, x0.kep (fr_hid f3) (hat aD i4) (fun b m => hid_none (hn b m)) hnd3 (hat (nD _ (by simp)) eDn) (prd_mk (paired_len eT) fun i y r h1 h2 => ?_) (hat (nD _ (by simp)) eD2) hAts (hat (nD _ (by simp)) e5) hzn⟩
      · simp only [foot, List.mem_cons] at m ⊢
        rcases m with m | m | m | m | m | m | m
        · exact .inl (.inl m)
        · exact .inl (.inr (.inl m))
        · exact .inr (hn b (by simp [m]))
        · exact .inr (hn b (by simp [m]))
        · exact .inl (.inr (.inr (.inr (.inr (.inl m)))))
        · exact .inr (hn b (by simp [m]))
        · exact .inr (n1 b m)
      · obtain ⟨r2, h3, h4, h5⟩ := paired_get eT i y h1
        rw [h2] at h3
        cases h3
        exact ⟨h4, hat (hA.free (n1 _ (List.mem_map.mpr ⟨y, List.mem_of_getElem? h1, rfl⟩))) h5⟩
theorem ok_from_durable (T : Txt K mg) (c_Store : C8.Mak P w K mg base 1 "Store" (He.ga K "Store") (sp_Store___init__ K) [])  (m_Store__keep : C8.Met P w K mg base 1 (He.ga K "Store") "_keep" (sp_Store__keep K) []) {f : Addr} {fd : FuncData} (F : FnP K "from_durable" s_from_durable f fd) : FnOk P w K mg base CX0 3 f fd ["value"] (sp_from_durable K) := by
  refine F.ok sc_from_durable (fun vs H Q E h => ?_) (fun cdv A outer s H vs Q E hr h => ?_)
  · obtain ⟨_, rfl, _⟩ := h
    rfl
  · have S := sc_from_durable
    refine ⟨_, PSs.nox (pss_cons (ps_asg (pv 0) (pg_tup rfl (pgs_cons (pg_name (i := 1) S.nd rfl (by first | exact .inl rfl | exact .inr rfl)) (pgs_cons (pg_name (i := 2) S.nd rfl (by first | exact .inl rfl | exact .inr rfl)) (pgs_cons (pg_name (i := 3) S.nd rfl (by first | exact .inl rfl | exact .inr rfl)) (pgs_cons (pg_name (i := 4) S.nd rfl (by first | exact .inl rfl | exact .inr rfl)) (pgs_cons (pg_name (i := 5) S.nd rfl (by first | exact .inl rfl | exact .inr rfl)) pgs_nil)))))))
    (pss_cons (ps_set (i := 6) S.nd rfl (by first | exact .inl rfl | exact .inr rfl) (C8.pe_mk c_Store hr (by decide) (by rfl) (pa_cons (pe_dc (own := [("name", 7), ("content", 8), ("time", 9)]) (g := gTup K 3 (gCons (gName 7) (gCons (gName 8) (gCons (gName 9) gNil)))) (tt := tYes) rfl S.nd (pi_tup (pv 1)) (blkOk_by (N := N_from_durable) (sc := defScope s_from_durable) (by decide +kernel)) (fun _ _ _ _ _ => (pg_tupK (n := 3) K rfl (pgs_cons (pg_name (i := 7) S.nd rfl (by first | exact .inl rfl | exact .inr rfl)) (pgs_cons (pg_name (i := 8) S.nd rfl (by first | exact .inl rfl | exact .inr rfl)) (pgs_cons (pg_name (i := 9) S.nd rfl (by first | exact .inl rfl | exact .inr rfl)) pgs_nil))))) (fun _ _ _ _ _ => pts_nil) (fun _ _ _ _ _ => (pv 7)) (fun _ _ _ _ _ => (pe_tup (pa_cons (pv 8) (pa_cons (pv 9) pa_nil))))) (pa_cons (pv 4) pa_nil))))
    (pss_cons (ps_expr (C8.pe_mt m_Store__keep hr (by decide) (pv 6) (pa_cons (pv 2) (pa_cons (pv 3) (pa_cons (pv 5) pa_nil)))))
    (pss_one (ps_ret (pv 6)))))), ?_⟩
    try dsimp only [cxOf, Cx.nox]
    obtain ⟨_, rfl, r, D, S, rfl, hA, ⟨ys, zs, py, sy, pz, sz, dd⟩, nf, nt, lf, lt, la, k⟩ := h
    obtain ⟨_, us, e0, hU, hUa⟩ := dp_tupI dd
    cases e0
    cases hUa with
    | cons dF t =>
    cases t with
    | cons dT t =>
    cases t with
    | cons dA t =>
    cases t with
    | cons dL t =>
    cases t with
    | cons dN t =>
    cases t
    obtain ⟨pf, us1, rfl, hF1, hF2⟩ := dp_tupI dF
    obtain ⟨pt, us2, rfl, hT1, hT2⟩ := dp_tupI dT
    obtain ⟨pa, us3, rfl, hA1, hA2⟩ := dp_tupI dA
    obtain ⟨pl, rfl, hL⟩ := dp_intsI dL
    obtain ⟨pn, rfl, hN⟩ := dp_intsI dN
    have pF := perm_lk (([], 0) : List Int × Int) py nf
    have pT := perm_lk ([] : List Int) pz nt
    have eF : ys.map (durF S) = (ys.map fun y => (y, (lk y S.fl).getD ([], 0))).map kF := by rw [List.map_map]; rfl
    have eT : zs.map (durT S) = (zs.map fun y => (y, (lk y S.tp).getD [])).map kT := by rw [List.map_map]; rfl
    rw [eF] at hF2
    rw [eT] at dT
    generalize (ys.map fun y => (y, (lk y S.fl).getD ([], 0))) = fls at pF hF2
    generalize (zs.map fun y => (y, (lk y S.tp).getD [])) = tps at pT dT
    have lfl : fls.length ≤ 100 := by rw [pF.length_eq]; exact lf
    have nfl : (fls.map (·.1)).Nodup := (pF.map (·.1)).nodup_iff.mpr nf
    have ltp : tps.length ≤ 100 := by rw [pT.length_eq]; exact lt
    have ntp : (tps.map (·.1)).Nodup := (pT.map (·.1)).nodup_iff.mpr nt
    have ul : us1.length = fls.length := by rw [dpa_len hF2, List.length_map]
    walk_at "go"
    intro Dn hDn
    refine dc_it (walk_tup (K := K) (xs := us1)) (fun i H1 => Same H H1 ∧ ∃ w1, H1 Dn = some (.dK (dct w1)) ∧ FlsB K H1 w1 (fls.take i)) ⟨same_new hDn, [], upd_same, .nil⟩ (fun i H1 _ p => same_tup p.1 hF1) (fun i v H1 H2 hi p hy => ?_) (fun H1 p => ?_)
    · obtain ⟨s1, w1, e1, q1⟩ := p
      obtain ⟨rfl, hx⟩ := hy
      obtain ⟨d, hd1, hd2⟩ := dpa_get hF2 i v hx
      rw [List.getElem?_map] at hd1
      obtain ⟨y, hy, rfl⟩ := Option.map_eq_some_iff.mp hd1
      obtain ⟨p, q, rfl, t1, t2⟩ := dp_kF hd2
      have t1 := same_tup s1 t1
      have t2 := same_tup s1 t2
      walk_at "go"
      rename_i t ht
      have st := same_new (o := .tup [.ref q, .int y.2.2]) ht
      have nm0 : lk y.1 (fls.take i) = none := lk_none fun m => by
        have hri := (List.getElem?_eq_some_iff.mp hy)
        rw [← List.take_append_drop i fls, List.map_append] at nfl
        have hd2 := List.nodup_append.mp nfl
        refine hd2.2.2 _ m y.1 ?_ rfl
        rw [List.drop_eq_getElem_cons hri.1, hri.2]
        exact List.mem_cons_self ..
      have vn : valV (dct w1) (Sum.inr y.1) = none := by
        rcases val_dct (R := FilB K H2) y.1 q1 with ⟨h1, _⟩ | ⟨_, _, _, h2, _⟩
        · exact h1
        · rw [nm0] at h2; cases h2
      have lw1 : w1.length ≤ 100 := by
        have := paired_len q1
        rw [List.length_take] at this
        omega
      have etk : fls.take (i + 1) = fls.take i ++ [y] := by rw [List.take_add_one, hy]; rfl
      refine ⟨dct w1, Sum.inr y.1, rfl, st _ _ e1, ?_, Same.mut (s1.trans st) hDn, w1 ++ [(y.1, t)], ?_, ?_⟩
      · unfold dct
        rw [List.length_map]
        exact Nat.lt_of_le_of_lt (by omega : _ ≤ 100) (by decide)
      · rw [upd_same, putK_new _ vn]
        unfold dct
        rw [List.map_append]
        rfl
      · rw [etk]
        refine Paired.snoc (paired_imp (fun _ _ q => ⟨q.1, filB_upd (st _ _ e1) (q.2.same st)⟩) q1) ⟨rfl, filB_upd (st _ _ e1) ⟨q, upd_same, .inr (same_tup st t2)⟩⟩
    · obtain ⟨s1, w1, e1, q1⟩ := p
      rw [ul, List.take_length] at q1
      walk_at "go"
      intro a dxs ha hdxs nda
      have sG : Same H1 (upd (upd H1 dxs (.own a)) a (.ins (He.ga K "Store") dxs [])) := Same.mut (same_new hdxs) ha
      have zA : H a = none := s1.free ha
      have hA1' := hA.same (s1.trans sG)
      refine ⟨_, _, _, rfl, a, Dn, pl, dxs, w1, fls, S.lg, D, rfl, rfl, rfl, upd_same, sG _ _ e1, paired_imp (fun _ _ q => ⟨q.1, q.2.same sG⟩) q1, nfl, lfl, .inr (same_tup (s1.trans sG) hL), hA1', hA.free zA, fun F H2 hk hF hSto => ⟨rfl, ?_⟩⟩
      have s2 : Same H H2 := fun b o e => hk b (fun z => by rw [z, zA] at e; cases e) o ((s1.trans sG) b o e)
      have hF0 : ∀ b ∈ F, H b = none := fun b m => by
        rcases hF b m with z | z
        · rw [z]; exact zA
        · exact (s1.trans sG).free z
      have hA2' := hA.same s2
      clear hk hF sG hA1'
      have hS0 := hSto.sub
      walk_at "go"
      refine ⟨_, _, _, _, rfl, a, pt, pa, pn, F, D, _, tps, S.at_, S.nw, rfl, rfl, rfl, rfl, hA2', hSto, dp_same s2 dT, ntp, ltp, dp_same s2 (.tup hA1 hA2), la, same_tup s2 hN, fun F' H3 f3 hF' hS3 => ?_⟩
      walk_at "go"
      refine k a F' H3 ⟨fls, tps, S.at_, 0, S.lg, S.nw, none⟩ (fun b o e => f3 b o (fun m => by rw [List.mem_singleton.mp m, zA] at e; cases e) (s2 b o e)) (fun b m => ?_) ⟨pF, pT, rfl, rfl, rfl, rfl, rfl⟩ hS3
      rcases hF' b m with z | z
      · exact hF0 b z
      · exact s2.free z
theorem ok_law_draw (T : Txt K mg)   {f : Addr} {fd : FuncData} (F : FnP K "_law_draw" s_law_draw f fd) : FnOk P w K mg base CX0 1 f fd ["state", "script", "size"] (spDraw K) := by
  refine F.ok sc_law_draw (fun vs H Q E h => ?_) (fun cdv A outer s H vs Q E hr h => ?_)
  · obtain ⟨_, _, _, rfl, _⟩ := h
    rfl
  · have S := sc_law_draw
    refine ⟨_, PSs.nox (C8.pss_cut (ps_if (pt_cmpR op_eq (pe_ix ix_list (pv 0) pe_int (fun _ _ => rfl)) pe_int (nomark _))
    (pss_cons (ps_set (i := 3) S.nd rfl (by first | exact .inl rfl | exact .inr rfl) pe_int)
      (C8.pss_cut (ps_if (pt_cmpR op_gt (pe_callB call_len_seq (by rfl) T.f_len (by first | rfl | decide +kernel) (pa_cons (pv 1) pa_nil)) pe_int (nomark _))
      (pss_one (ps_set (i := 3) S.nd rfl (by first | exact .inl rfl | exact .inr rfl) (pe_ix ix_list (pv 1) (pe_op op_mod (pe_ix ix_list (pv 0) pe_int (fun _ _ => rfl)) (pe_callB call_len_seq (by rfl) T.f_len (by first | rfl | decide +kernel) (pa_cons (pv 1) pa_nil))) (fun _ _ => rfl))))
      pss_nil)
      (C8.pss_cut (ps_if (pt_cmpR op_lt (pv 3) pe_int (nomark _))
      (pss_one (ps_set (i := 3) S.nd rfl (by first | exact .inl rfl | exact .inr rfl) (pe_op op_sub pe_int (pe_op op_mul pe_int (pv 3)))))
      pss_nil)
      (pss_cons (ps_set (i := 4) S.nd rfl (by first | exact .inl rfl | exact .inr rfl) (pe_op op_mod (pe_callTy call_int1 (by rfl) T.f_int (by first | rfl | decide +kernel) (pa_cons (pe_op op_mul (pe_op op_add (pe_op op_add (pv 3) (pe_op op_mul (pe_ix ix_list (pv 0) pe_int (fun _ _ => rfl)) pe_int)) pe_int) pe_int) pa_nil)) pe_int))
      (pss_cons (ps_asg (pe_op op_mod (pe_callTy call_int1 (by rfl) T.f_int (by first | rfl | decide +kernel) (pa_cons (pe_op op_add (pe_op op_mul (pv 4) pe_int) (pe_op op_mul (pe_ix ix_list (pv 0) pe_int (fun _ _ => rfl)) pe_int)) pa_nil)) pe_int) (pg_sub (pv 0) pe_int set_list))
      (C8.pss_cut (ps_if (pw_and (pt_cmpR op_ge (pv 3) (pe_op op_pow pe_int pe_int) (nomark _)) (pw_and1 (pt_cmpR op_lt (pe_ix ix_list (pv 0) pe_int (fun _ _ => rfl)) (pe_callB call_len_seq (by rfl) T.f_len (by first | rfl | decide +kernel) (pa_cons (pv 1) pa_nil)) (nomark _)))).pt
      (pss_one (ps_asg (pv 3) (pg_sub (pv 0) pe_int set_list)))
      pss_nil)
      (pss_one (ps_asg (pe_op op_add (pe_ix ix_list (pv 0) pe_int (fun _ _ => rfl)) pe_int) (pg_sub (pv 0) pe_int set_list)))))))))
    pss_nil)
    (pss_cons (ps_set (i := 5) S.nd rfl (by first | exact .inl rfl | exact .inr rfl) (pe_op op_mod (pe_callTy call_int1 (by rfl) T.f_int (by first | rfl | decide +kernel) (pa_cons (pe_ix ix_list (pv 0) pe_int (fun _ _ => rfl)) pa_nil)) (pv 2)))
    (pss_cons (ps_asg (pe_op op_fdivW (pe_ix ix_list (pv 0) pe_int (fun _ _ => rfl)) (pv 2)) (pg_sub (pv 0) pe_int set_list))
    (pss_one (ps_ret (pv 5)))))), ?_⟩
    try dsimp only [cxOf, Cx.nox]
    obtain ⟨_, _, _, rfl, st, sc, ns, n, rfl, rfl, rfl, d, hn0, hn1, k⟩ := h
    obtain ⟨ia, ib, ha0, hb0, hs⟩ := d.s
    have h1 : ∀ (x y : Int), 0 ≤ x → 0 ≤ y → Kp st H (upd H st (.lst [.int x, .int y])) ∧ Dr K st sc ns (upd H st (.lst [.int x, .int y])) := fun x y hx hy =>
      have k1 : Kp st H (upd H st (.lst [.int x, .int y])) := Kp.put (Kp.refl st H)
      ⟨k1, d.kp k1 ⟨x, y, hx, hy, upd_same⟩⟩
    refine e_cut (Mid := fun σ' H' => ∃ (v3 v4 : Option V), σ' = [some (.ref st), some (.ref sc), some (.int n), v3, v4, none] ∧ Kp st H H' ∧ Dr K st sc ns H') ?_ ?_
    · walk_at "go"
      refine e_ixL (SqL.of hs) rfl ?_
      walk_at "go"
      refine i_d (fun e => ?_) (fun e => ?_)
      · walk_at "go"
        refine e_cut (Mid := fun σ' H' => ∃ c : Int, σ' = [some (.ref st), some (.ref sc), some (.int n), some (.int c), none, none] ∧ H' = H) ?_ ?_
        · walk_at "go"
          refine i_d (fun e2 => ?_) (fun e2 => ?_)
          · walk_at "go"
            refine e_ixL (SqL.of hs) rfl ?_
            walk_at "go"
            have hm : 0 ≤ ia % (((ns.map V.int).length : Nat) : Int) := Int.emod_nonneg _ (by omega)
            have hm2 : ia % (((ns.map V.int).length : Nat) : Int) < (((ns.map V.int).length : Nat) : Int) := Int.emod_lt_of_pos _ (by omega)
            have hlt : (ia % (((ns.map V.int).length : Nat) : Int)).toNat < ns.length := by rw [List.length_map] at hm hm2 ⊢; omega
            refine e_ixL (v := .int ns[(ia % (((ns.map V.int).length : Nat) : Int)).toNat]) d.seq (at_of (j := (ia % (((ns.map V.int).length : Nat) : Int)).toNat) (by omega) (by rw [List.getElem?_map, List.getElem?_eq_getElem hlt]; rfl)) ?_
            walk_at "go"
            exact ⟨_, rfl, rfl⟩
          · walk_at "go"
            exact ⟨_, rfl, rfl⟩
        · rintro σ' H' ⟨c, rfl, rfl⟩
          refine e_cut (Mid := fun σ' H'' => ∃ c : Int, 0 ≤ c ∧ σ' = [some (.ref st), some (.ref sc), some (.int n), some (.int c), none, none] ∧ H'' = H') ?_ ?_
          · walk_at "go"
            refine i_d (fun e2 => ?_) (fun e2 => ?_)
            · walk_at "go"
              exact ⟨_, by omega, rfl, rfl⟩
            · walk_at "go"
              exact ⟨_, by omega, rfl, rfl⟩
          · rintro σ' H'' ⟨c, hc, rfl, rfl⟩
            have other : ∀ x : Int, 0 ≤ x % 4294967291 := fun x => Int.emod_nonneg x (show (4294967291 : Int) ≠ 0 by decide)
            walk_at "go"
            refine e_ixL (SqL.of hs) rfl ?_
            walk_at "go"
            refine e_ixL (SqL.of hs) rfl ?_
            walk_at "go"
            refine e_setL hs rfl ?_
            refine e_cut (Mid := fun σ' H3 => ∃ (v4 : Option V) (b : Int), 0 ≤ b ∧ σ' = [some (.ref st), some (.ref sc), some (.int n), some (.int c), v4, none] ∧ H3 = upd H'' st (.lst [.int ia, .int b])) ?_ ?_
            · walk_at "go"
              refine i_d (fun e2 => ?_) (fun e2 => ?_)
              · walk_at "go"
                refine e_ixL (SqL.of upd_same) rfl ?_
                walk_at "go"
                refine ⟨sc, _, rfl, .inl (h1 ia _ ha0 (other _)).2.seq, ?_⟩
                walk_at "go"
                refine i_d (fun e3 => ?_) (fun e3 => ?_)
                · walk_at "go"
                  refine e_setL upd_same rfl ?_
                  rw [upd_upd]
                  exact ⟨_, c, hc, rfl, rfl⟩
                · walk_at "go"
                  exact ⟨_, _, other _, rfl, rfl⟩
              · walk_at "go"
                exact ⟨_, _, other _, rfl, rfl⟩
            · rintro σ' H3 ⟨v4, b, hb, rfl, rfl⟩
              walk_at "go"
              refine e_ixL (SqL.of upd_same) rfl ?_
              walk_at "go"
              refine e_setL upd_same rfl ?_
              rw [upd_upd]
              obtain ⟨k1, d1⟩ := h1 (ia + 1) b (by omega) hb
              exact ⟨_, _, rfl, k1, d1⟩
      · walk_at "go"
        exact ⟨_, _, rfl, Kp.refl _ _, d⟩
    · rintro σ' H' ⟨v3, v4, rfl, k1, d1⟩
      obtain ⟨ja, jb, hja, hjb, hs1⟩ := d1.s
      walk_at "go"
      refine e_ixL (SqL.of hs1) rfl ?_
      walk_at "go"
      refine e_ixL (SqL.of hs1) rfl ?_
      walk_at "go"
      refine e_setL hs1 rfl ?_
      have hj2 : 0 ≤ jb / n := Int.ediv_nonneg hjb (by omega)
      have k2 : Kp st H (upd H' st (.lst [.int ja, .int (jb / n)])) := k1.put
      walk_at "go"
      exact k _ _ (Int.emod_nonneg _ (by omega)) (Int.emod_lt_of_pos _ hn0) k2 (d.kp k2 ⟨ja, jb / n, hja, hj2, upd_same⟩)
theorem ok_law_name (T : Txt K mg)  (c_law_draw : Cal P w K mg base 1 "_law_draw" (spDraw K)) {f : Addr} {fd : FuncData} (F : FnP K "_law_name" s_law_name f fd) : FnOk P w K mg base CX0 2 f fd ["state", "script"] (sp_law_name K) := by
  refine F.ok sc_law_name (fun vs H Q E h => ?_) (fun cdv A outer s H vs Q E hr h => ?_)
  · obtain ⟨_, _, rfl, _⟩ := h
    rfl
  · have S := sc_law_name
    refine ⟨_, PSs.nox (pss_one (ps_ret (pe_ix ix_list (pe_lst (pa_cons pe_str (pa_cons pe_str (pa_cons pe_str (pa_cons pe_str (pa_cons pe_str (pa_cons pe_str pa_nil))))))) (pe_c c_law_draw hr (by decide) (by rfl) (pa_cons (pv 0) (pa_cons (pv 1) (pa_cons pe_int pa_nil)))) (fun _ _ => rfl)))), ?_⟩
    try dsimp only [cxOf, Cx.nox]
    obtain ⟨_, _, rfl, st, sc, ns, rfl, rfl, d, k⟩ := h
    walk_at "go"
    rename_i p hp
    intro v H1 a1 b1 k1 d1
    have e1 := k1 p _ (d.ne hp) upd_same
    have h6 : v = 0 ∨ v = 1 ∨ v = 2 ∨ v = 3 ∨ v = 4 ∨ v = 5 := by omega
    rcases h6 with rfl | rfl | rfl | rfl | rfl | rfl
    all_goals
      refine e_ixL (SqL.of e1) rfl ?_
      exact k _ _ ((Kp.new hp).trans k1) d1 (by decide)
theorem ok_law_content (T : Txt K mg)  (c_law_draw : Cal P w K mg base 1 "_law_draw" (spDraw K)) {f : Addr} {fd : FuncData} (F : FnP K "_law_content" s_law_content f fd) : FnOk P w K mg base CX0 2 f fd ["state", "script", "most"] (sp_law_content K) := by
  refine F.ok sc_law_content (fun vs H Q E h => ?_) (fun cdv A outer s H vs Q E hr h => ?_)
  · obtain ⟨_, _, _, rfl, _⟩ := h
    rfl
  · have S := sc_law_content
    refine ⟨_, PSs.nox (pss_cons (ps_set (i := 3) S.nd rfl (by first | exact .inl rfl | exact .inr rfl) (pe_lst (pa_cons (pe_lst (pa_cons pe_int (pa_cons pe_int (pa_cons pe_int (pa_cons pe_int pa_nil))))) (pa_cons (pe_lst (pa_cons pe_int (pa_cons pe_int (pa_cons pe_int (pa_cons pe_int pa_nil))))) (pa_cons (pe_lst (pa_cons pe_int (pa_cons pe_int (pa_cons pe_int (pa_cons pe_int pa_nil))))) (pa_cons (pe_lst (pa_cons pe_int pa_nil)) (pa_cons (pe_lst (pa_cons pe_int (pa_cons pe_int pa_nil))) (pa_cons (pe_lst (pa_cons (pe_c c_law_draw hr (by decide) (by rfl) (pa_cons (pv 0) (pa_cons (pv 1) (pa_cons pe_int pa_nil)))) (pa_cons pe_int (pa_cons pe_int (pa_cons pe_int pa_nil))))) pa_nil))))))))
    (pss_cons (ps_set (i := 4) S.nd rfl (by first | exact .inl rfl | exact .inr rfl) (pe_lst pa_nil))
    (pss_cons (ps_for PassesOwn.never rfl (pi_range1 (by rfl) T.f_range (pa_cons (pe_c c_law_draw hr (by decide) (by rfl) (pa_cons (pv 0) (pa_cons (pv 1) (pa_cons (pe_op op_add (pv 2) pe_int) pa_nil)))) pa_nil)) (pg_name (i := 5) S.nd rfl (by first | exact .inl rfl | exact .inr rfl))
    (pss_one (ps_set (i := 4) S.nd rfl (by first | exact .inl rfl | exact .inr rfl) (pe_op op_cat (pv 4) (pe_ix ix_list (pv 3) (pe_c c_law_draw hr (by decide) (by rfl) (pa_cons (pv 0) (pa_cons (pv 1) (pa_cons pe_int pa_nil)))) (fun _ _ => rfl))))))
    (pss_one (ps_ret (pv 4)))))), ?_⟩
    try dsimp only [cxOf, Cx.nox]
    obtain ⟨_, _, _, rfl, st, sc, ns, n, rfl, rfl, rfl, hn, d, k⟩ := h
    walk_at "go"
    rename_i p1 h1 p2 h2 p3 h3 p4 h4 p5 h5
    have s1 := same_new (o := .lst [.int 1, .int 2, .int 3, .int 4]) h1
    have s2 := same_new (o := .lst [.int 0, .int 0, .int 0, .int 0]) h2
    have s3 := same_new (o := .lst [.int 255, .int 254, .int 253, .int 252]) h3
    have s4 := same_new (o := .lst [.int 5]) h4
    have s5 := same_new (o := .lst [.int 9, .int 9]) h5
    have s14 := ((s1.trans s2).trans s3).trans s4
    have d5 := d.same (s14.trans s5)
    have m1 := d.ne h1
    have m2 := d.ne (s1.free h2)
    have m3 := d.ne ((s1.trans s2).free h3)
    have m4 := d.ne (((s1.trans s2).trans s3).free h4)
    have m5 := d.ne (s14.free h5)
    have f1 := s5 _ _ (s4 _ _ (s3 _ _ (s2 _ _ (upd_same (H := H) (a := p1) (o := .lst [.int 1, .int 2, .int 3, .int 4])))))
    have f2 := s5 _ _ (s4 _ _ (s3 _ _ (upd_same (a := p2) (o := .lst [.int 0, .int 0, .int 0, .int 0]))))
    have f3 := s5 _ _ (s4 _ _ (upd_same (a := p3) (o := .lst [.int 255, .int 254, .int 253, .int 252])))
    have f4 := s5 _ _ (upd_same (a := p4) (o := .lst [.int 5]))
    have f5 := upd_same (H := _) (a := p5) (o := .lst [.int 9, .int 9]) |> fun (z : upd (upd (upd (upd (upd H p1 (.lst [.int 1, .int 2, .int 3, .int 4])) p2 (.lst [.int 0, .int 0, .int 0, .int 0])) p3 (.lst [.int 255, .int 254, .int 253, .int 252])) p4 (.lst [.int 5])) p5 (.lst [.int 9, .int 9]) p5 = _) => z
    have k5 : Kp st H _ := Kp.of (s14.trans s5)
    generalize upd (upd (upd (upd (upd H p1 (.lst [.int 1, .int 2, .int 3, .int 4])) p2 (.lst [.int 0, .int 0, .int 0, .int 0])) p3 (.lst [.int 255, .int 254, .int 253, .int 252])) p4 (.lst [.int 5])) p5 (.lst [.int 9, .int 9]) = G at d5 f1 f2 f3 f4 f5 k5 ⊢
    walk_at "go"
    intro v H1 a1 b1 k1 d1
    walk_at "go"
    rename_i p6 h6 pw hw c0 hc0
    have k51 := k5.trans k1
    have t6 := same_new (o := .lst [.int v, .int 7, .int 7, .int 7]) h6
    have tw := same_new (o := .lst [.ref p1, .ref p2, .ref p3, .ref p4, .ref p5, .ref p6]) hw
    have tc := same_new (o := .lst []) hc0
    have dc := d1.same ((t6.trans tw).trans tc)
    have kc : Kp st H _ := k51.trans (Kp.of ((t6.trans tw).trans tc))
    have nc := d1.ne ((t6.trans tw).free hc0)
    have nw := d1.ne (t6.free hw)
    have n6 := d1.ne h6
    have c0n := dr_free d1 k51 ((t6.trans tw).free hc0)
    have ew := tc _ _ (upd_same (a := pw) (o := .lst [.ref p1, .ref p2, .ref p3, .ref p4, .ref p5, .ref p6]))
    have ec := upd_same (H := upd (upd H1 p6 (.lst [.int v, .int 7, .int 7, .int 7])) pw (.lst [.ref p1, .ref p2, .ref p3, .ref p4, .ref p5, .ref p6])) (a := c0) (o := .lst [])
    have W : ∀ i : Int, 0 ≤ i → i < 6 → ∃ (q : Addr) (xs : List Int), atI [V.ref p1, V.ref p2, V.ref p3, V.ref p4, V.ref p5, V.ref p6] i = some (.ref q) ∧ q ≠ st ∧ upd (upd (upd H1 p6 (.lst [.int v, .int 7, .int 7, .int 7])) pw (.lst [.ref p1, .ref p2, .ref p3, .ref p4, .ref p5, .ref p6])) c0 (.lst []) q = some (.lst (xs.map V.int)) ∧ isB xs ∧ xs.length ≤ 4 := fun i i0 i6 => by
      have h6 : i = 0 ∨ i = 1 ∨ i = 2 ∨ i = 3 ∨ i = 4 ∨ i = 5 := by omega
      have tt := (t6.trans tw).trans tc
      rcases h6 with rfl | rfl | rfl | rfl | rfl | rfl
      · exact ⟨p1, [1, 2, 3, 4], rfl, m1, tt _ _ (k1 _ _ m1 f1), by unfold isB; simp, by decide⟩
      · exact ⟨p2, [0, 0, 0, 0], rfl, m2, tt _ _ (k1 _ _ m2 f2), by unfold isB; simp, by decide⟩
      · exact ⟨p3, [255, 254, 253, 252], rfl, m3, tt _ _ (k1 _ _ m3 f3), by unfold isB; simp, by decide⟩
      · exact ⟨p4, [5], rfl, m4, tt _ _ (k1 _ _ m4 f4), by unfold isB; simp, by decide⟩
      · exact ⟨p5, [9, 9], rfl, m5, tt _ _ (k1 _ _ m5 f5), by unfold isB; simp, by decide⟩
      · exact ⟨p6, [v, 7, 7, 7], rfl, n6, tc _ _ (tw _ _ upd_same), by unfold isB; simp; omega, by simp⟩
    generalize upd (upd (upd H1 p6 (.lst [.int v, .int 7, .int 7, .int 7])) pw (.lst [.ref p1, .ref p2, .ref p3, .ref p4, .ref p5, .ref p6])) c0 (.lst []) = Hb at dc kc ew ec W ⊢
    walk_at "go"
    intro m H2 a2 b2 k2 d2
    walk_at "go"
    refine for_rng (fun i σ H3 => ∃ q v5, σ = [some (.ref st), some (.ref sc), some (.int n), some (.ref pw), some (.ref q), v5] ∧ Kp st Hb H3 ∧ Dr K st sc ns H3 ∧ q ≠ st ∧ H q = none ∧ ∃ xs : List Int, H3 q = some (.lst (xs.map V.int)) ∧ isB xs ∧ xs.length ≤ 4 * i) ⟨c0, _, rfl, k2, d2, nc, c0n, [], k2 _ _ nc ec, fun b h => (by cases h), Nat.le_refl _⟩ (fun i σ H3 hi q => ?_) (fun σ H3 q => ?_)
    · obtain ⟨q, v5, rfl, k3, d3, nq, hq, xs, e3, b3, l3⟩ := q
      walk_at "go"
      intro w H4 a4 b4 k4 d4
      obtain ⟨qw, ws, hat, nqw, ewq, hbw, hlw⟩ := W w a4 b4
      walk_at "go"
      refine e_ixL (SqL.of (k4 _ _ nw (k3 _ _ nw ew))) hat ?_
      walk_at "go"
      refine e_cat (k4 _ _ nq e3) (k4 _ _ nqw (k3 _ _ nqw ewq)) (by rw [List.length_map, List.length_map]; omega) fun p7 hp7 => ?_
      have k34 := k3.trans k4
      walk_at "go"
      refine ⟨p7, _, rfl, k34.trans (Kp.new hp7), d4.same (same_new hp7), d4.ne hp7, dr_free d4 (kc.trans k34) hp7, xs ++ ws, by rw [upd_same, List.map_append], fun b hb => ?_, by rw [List.length_append]; omega⟩
      rcases List.mem_append.mp hb with h | h
      · exact b3 b h
      · exact hbw b h
    · obtain ⟨q, v5, rfl, k3, d3, nq, hq, xs, e3, b3, l3⟩ := q
      walk_at "go"
      exact k q xs H3 hq (kc.trans k3) d3 e3 b3 (by omega)
theorem ok_law_blocks (T : Txt K mg)   {f : Addr} {fd : FuncData} (F : FnP K "_law_blocks" s_law_blocks f fd) : FnOk P w K mg base CX0 1 f fd ["content"] (sp_law_blocks K) := by
  refine F.ok sc_law_blocks (fun vs H Q E h => ?_) (fun cdv A outer s H vs Q E hr h => ?_)
  · obtain ⟨_, rfl, _⟩ := h
    rfl
  · have S := sc_law_blocks
    refine ⟨_, PSs.nox (pss_cons (ps_set (i := 1) S.nd rfl (by first | exact .inl rfl | exact .inr rfl) (pe_lst pa_nil))
    (pss_cons (ps_for PassesOwn.never rfl (pi_range3 (by rfl) T.f_range (pa_cons pe_int (pa_cons (pe_callB call_len_seq (by rfl) T.f_len (by first | rfl | decide +kernel) (pa_cons (pv 0) pa_nil)) (pa_cons pe_int pa_nil)))) (pg_name (i := 2) S.nd rfl (by first | exact .inl rfl | exact .inr rfl))
    (pss_cons (ps_set (i := 3) S.nd rfl (by first | exact .inl rfl | exact .inr rfl) pe_int)
      (pss_cons (ps_for PassesOwn.never rfl (pi_list (pe_slice sl_list (pv 0) (po_some (pv 2)) (po_some (pe_op op_add (pv 2) pe_int)))) (pg_name (i := 4) S.nd rfl (by first | exact .inl rfl | exact .inr rfl))
      (pss_one (ps_set (i := 3) S.nd rfl (by first | exact .inl rfl | exact .inr rfl) (pe_op op_add (pe_op op_mul (pv 3) pe_int) (pv 4)))))
      (pss_one (ps_expr (pe_bm PySem.F.plainAttrs_list PySem.F.slot_list_append PySem.F.type_list_append mt_append (pv 1) (pa_cons (pv 3) pa_nil)))))))
    (pss_one (ps_ret (pe_callTy call_tuple_of (by rfl) T.f_tuple (by first | rfl | decide +kernel) (pa_cons (pv 1) pa_nil)))))), ?_⟩
    try dsimp only [cxOf, Cx.nox]
    obtain ⟨_, rfl, p, xs, rfl, hS, hn, k⟩ := h
    walk_at "go"
    rename_i q0 hq0
    have s0 := same_new (o := .lst []) hq0
    refine ⟨p, _, rfl, .inl (s0.seq hS), ?_⟩
    walk_at "go"
    refine ⟨_, _, _, _, rfl, range4 (by omega) (by rw [List.length_map]; omega), ?_⟩
    refine for_it walk_rangeC (fun i σ H1 => (∃ v2 v3 v4, σ = [some (.ref p), some (.ref q0), v2, v3, v4]) ∧ Same H H1 ∧ H1 q0 = some (.lst (((nums xs).take i).map V.int))) ⟨⟨_, _, _, rfl⟩, s0, upd_same⟩ (fun _ _ _ _ _ => trivial) (fun i x σ H1 H' hi q y => ?_) (fun σ H1 q => ?_)
    · obtain ⟨rfl, rfl⟩ := y
      obtain ⟨⟨v2, v3, v4, rfl⟩, s1, e1⟩ := q
      walk_at "go"
      refine e_slL (s1.seq hS) fun r hr => ?_
      rw [cut_chunk]
      have s2 := same_new (o := .lst (((xs.drop (4 * i)).take 4).map V.int)) hr
      walk_at "go"
      refine for_ints (ns := (xs.drop (4 * i)).take 4) (fun pre σ H2 => (∃ v4, σ = [some (.ref p), some (.ref q0), some (.int (0 + (i : Int) * 4)), some (.int (bnum pre)), v4]) ∧ H2 = upd H' r (.lst (((xs.drop (4 * i)).take 4).map V.int))) ⟨⟨_, rfl⟩, rfl⟩ (fun pre σ H2 q => by rw [q.2]; exact SqL.of upd_same) (fun pre x post σ H2 e q => ?_) (fun σ H2 q => ?_)
      · obtain ⟨⟨v4, rfl⟩, rfl⟩ := q
        walk_at "go"
        refine ⟨⟨some (.int x), ?_⟩, rfl⟩
        have e2 : bnum (pre ++ [x]) = bnum pre * 256 + x := by
          unfold bnum
          rw [List.foldl_append]
          rfl
        rw [e2]
        rfl
      · obtain ⟨⟨v4, rfl⟩, rfl⟩ := q
        have e2 := s2 _ _ e1
        have hi2 : i < (xs.length + 3) / 4 := by
          rw [List.length_map] at hi
          omega
        walk_at "go"
        refine ⟨q0, _, _, rfl, rfl, e2, ?_, ⟨_, _, _, rfl⟩, Same.mut (s1.trans s2) hq0, ?_⟩
        · rw [List.length_map, List.length_take]
          exact Nat.lt_of_le_of_lt (Nat.le_trans (Nat.min_le_left _ _) (by omega : i ≤ 1000000)) (by decide)
        · rw [upd_same, List.take_add_one (l := nums xs) (i := i), nums_at hi2, List.map_append]
          rfl
    · obtain ⟨⟨v2, v3, v4, rfl⟩, s1, e1⟩ := q
      have e2 : (((xs.map V.int).length : Nat) : Int).toNat = xs.length := by rw [List.length_map]; omega
      rw [e2, List.take_of_length_le (by rw [nums_len]; exact Nat.le_refl _)] at e1
      walk_at "go"
      refine ⟨q0, _, rfl, .inl ⟨SqL.of e1, fun l hl => ?_⟩⟩
      exact k l _ (s1.free hl) (s1.trans (same_new hl)) upd_same
theorem ok_law_bytes (T : Txt K mg)   {f : Addr} {fd : FuncData} (F : FnP K "_law_bytes" s_law_bytes f fd) : FnOk P w K mg base CX0 1 f fd ["blocks"] (sp_law_bytes K) := by
  refine F.ok sc_law_bytes (fun vs H Q E h => ?_) (fun cdv A outer s H vs Q E hr h => ?_)
  · obtain ⟨_, rfl, _⟩ := h
    rfl
  · have S := sc_law_bytes
    refine ⟨_, PSs.nox (pss_cons (ps_set (i := 1) S.nd rfl (by first | exact .inl rfl | exact .inr rfl) (pe_lst pa_nil))
    (pss_cons (ps_for PassesOwn.never rfl (pi_list (pv 0)) (pg_name (i := 2) S.nd rfl (by first | exact .inl rfl | exact .inr rfl))
    (pss_cons (ps_set (i := 3) S.nd rfl (by first | exact .inl rfl | exact .inr rfl) (pe_lst pa_nil))
      (pss_cons (ps_while PassesOwn.never (pt_cmpR op_gt (pv 2) pe_int (nomark _))
      (pss_cons (ps_set (i := 3) S.nd rfl (by first | exact .inl rfl | exact .inr rfl) (pe_op op_cat (pe_lst (pa_cons (pe_op op_andM (pv 2) pe_int) pa_nil)) (pv 3)))
        (pss_one (ps_set (i := 2) S.nd rfl (by first | exact .inl rfl | exact .inr rfl) (pe_op op_shr (pv 2) pe_int)))))
      (pss_one (ps_set (i := 1) S.nd rfl (by first | exact .inl rfl | exact .inr rfl) (pe_op op_cat (pv 1) (pv 3)))))))
    (pss_one (ps_ret (pv 1))))), ?_⟩
    try dsimp only [cxOf, Cx.nox]
    obtain ⟨_, rfl, p, cs, rfl, hS, hc, hn, k⟩ := h
    walk_at "go"
    rename_i q0 hq0
    have s0 := same_new (o := .lst []) hq0
    refine ⟨p, rfl, ⟨_, s0.seq hS⟩, ?_⟩
    refine for_list (K := K) (xs := (cs.map bnum).map V.int) (fun i σ H1 => ∃ q v2 v3, σ = [some (.ref p), some (.ref q), v2, v3] ∧ Same H H1 ∧ H q = none ∧ H1 q = some (.lst ((cs.take i).flatten.map V.int)) ∧ (cs.take i).flatten.length ≤ 4 * i) ⟨q0, _, _, rfl, s0, hq0, upd_same, Nat.le_refl _⟩ (fun i σ H1 _ q => by
      obtain ⟨_, _, _, _, s1, _⟩ := q
      exact s1.seq hS) (fun i x σ H1 hx q => ?_) (fun σ H1 q => ?_)
    · obtain ⟨q, v2, v3, rfl, s1, hq, e1, l1⟩ := q
      rw [List.getElem?_map, List.getElem?_map] at hx
      obtain ⟨y, hy, rfl⟩ := Option.map_eq_some_iff.mp hx
      obtain ⟨c, hcs, rfl⟩ := Option.map_eq_some_iff.mp hy
      have hP := hc c (List.mem_of_getElem? hcs)
      have hi : i < cs.length := (List.getElem?_eq_some_iff.mp hcs).1
      walk_at "go"
      rename_i p3 hp3
      have s2 := same_new (o := .lst []) hp3
      refine e_tWhile ⟨fun m σ H2 => ∃ c1 c2 q3, c = c1 ++ c2 ∧ m = c1.length ∧ σ = [some (.ref p), some (.ref q), some (.int (bnum c1)), some (.ref q3)] ∧ Same H1 H2 ∧ H2 q3 = some (.lst (c2.map V.int)), ⟨_, c, [], p3, by simp, rfl, rfl, s2, upd_same⟩, fun m σ H2 q => ?_⟩
      obtain ⟨c1, c2, q3, rfl, rfl, rfl, s3, e3⟩ := q
      have hb1 : isB c1 := fun b mb => hP.b b (List.mem_append_left _ mb)
      have h4 := hP.h4
      rw [List.length_append] at h4
      walk_at "go"
      rcases snoc_cases c1 with rfl | ⟨d, x, rfl⟩
      · rw [show decide (1 < bnum []) = false from rfl]
        refine i_F ?_
        have e2 := s3 _ _ e1
        have hft : (cs.take (i + 1)).flatten = (cs.take i).flatten ++ c2 := by
          rw [List.take_add_one, hcs, List.flatten_append]
          simp
        rw [List.nil_append] at hcs
        walk_at "go"
        refine e_cat e2 e3 (by rw [List.length_map, List.length_map]; simp at h4; omega) fun pr hpr => ?_
        refine ⟨pr, _, _, rfl, (s1.trans s3).trans (same_new hpr), (s1.trans s3).free hpr, ?_, ?_⟩
        · rw [upd_same, hft, List.map_append]
        · rw [hft, List.length_append]; simp at h4; omega
      · have hd := bnum_ge _ d rfl fun b mb => hb1 b (List.mem_append_left _ mb)
        have hx := hb1 x (by simp)
        rw [decide_eq_true (by rw [bnum_snoc]; omega : 1 < bnum (d ++ [x]))]
        refine i_T ⟨_, fun _ _ z => z, ?_⟩
        walk_at "go"
        refine ⟨_, 8, rfl, rfl, ?_⟩
        have em : bnum (d ++ [x]) % 2 ^ 8 = x := by rw [bnum_snoc, show (2 : Int) ^ 8 = 256 from rfl]; omega
        have ed : bnum (d ++ [x]) / 2 ^ 8 = bnum d := by rw [bnum_snoc, show (2 : Int) ^ 8 = 256 from rfl]; omega
        rw [em]
        walk_at "go"
        rename_i q1 hq1
        have s4 := same_new (o := .lst [.int x]) hq1
        refine e_cat upd_same (s4 _ _ e3) (by rw [List.length_map]; simp; omega) fun q4 hq4 => ?_
        walk_at "go"
        refine ⟨d.length, by simp, d, [x] ++ c2, q4, by simp, rfl, ?_, (s3.trans s4).trans (same_new hq4), ?_⟩
        · rw [show Int.toNat 8 = 8 from rfl, ed]; rfl
        · rw [upd_same, List.map_append]; rfl
    · obtain ⟨q, v2, v3, rfl, s1, hq, e1, l1⟩ := q
      rw [List.length_map, List.length_map, List.take_length] at e1
      walk_at "go"
      exact k q H1 hq s1 e1
theorem ok_law_refused (T : Txt K mg)  (m_Store_durable : C8.Met P w K mg base 1 (He.ga K "Store") "durable" (sp_Store_durable K) []) (c_law_bytes : Cal P w K mg base 1 "_law_bytes" (sp_law_bytes K)) (c_law_draw : Cal P w K mg base 1 "_law_draw" (spDraw K)) (m_Pull_give : MetX P w K mg base 5 (He.ga K "Pull") "give" (sp_Pull_give K)) {f : Addr} {fd : FuncData} (F : FnP K "_law_refused" s_law_refused f fd) : FnOk P w K mg base (L2.CX P w) 6 f fd ["state", "script", "store", "pull", "block"] (sp_law_refused K) := by
  refine F.ok sc_law_refused (fun vs H Q E h => ?_) (fun cdv A outer s H vs Q E hr h => ?_)
  · obtain ⟨_, _, _, _, _, rfl, _⟩ := h
    rfl
  · have S := sc_law_refused
    refine ⟨_, (pss_cons (ps_set (i := 5) S.nd rfl (by first | exact .inl rfl | exact .inr rfl) (C8.pe_mt0 m_Store_durable hr (by decide) (pv 2)))
    (pss_cons (ps_set (i := 6) S.nd rfl (by first | exact .inl rfl | exact .inr rfl) (pe_c c_law_bytes hr (by decide) (by rfl) (pa_cons (pe_lst (pa_cons (pv 4) pa_nil)) pa_nil)))
    (pss_cons (ps_set (i := 7) S.nd rfl (by first | exact .inl rfl | exact .inr rfl) (pe_ix ix_list (pe_lst (pa_cons (pe_tup (pa_cons (pe_op op_add (pv 4) pe_int) (pa_cons (pv 6) pa_nil))) (pa_cons (pe_tup (pa_cons (pv 4) (pa_cons (pe_op op_cat (pv 6) (pe_lst (pa_cons pe_int pa_nil))) pa_nil))) (pa_cons (pe_tup (pa_cons (pv 4) (pa_cons (pe_op op_cat (pe_lst (pa_cons (pe_op op_xor (pe_ix ix_list (pv 6) pe_int (fun _ _ => rfl)) pe_int) pa_nil)) (pe_slice sl_list (pv 6) (po_some pe_int) po_none)) pa_nil))) (pa_cons (pe_tup (pa_cons pe_int (pa_cons (pe_lst (pa_cons pe_int pa_nil)) pa_nil))) pa_nil))))) (pe_c c_law_draw hr (by decide) (by rfl) (pa_cons (pv 0) (pa_cons (pv 1) (pa_cons pe_int pa_nil)))) (fun _ _ => rfl)))
    (pss_cons (ps_if (pw_and (pt_cmpR op_eq (pe_ix ix_tup (pv 7) pe_int (fun _ _ => rfl)) (pv 4) (nomark _)) (pw_and1 (pt_cmpR (op_eqP hr.units) (pe_ix ix_tup (pv 7) pe_int (fun _ _ => rfl)) (pv 6) (nomark _)))).pt
    (PSs.nox (pss_one (ps_ret pe_bl)))
    pss_nil)
    (pss_one (ps_ret (pe_or (pe_cmpR (op_eqP hr.units) (pv 7) (pe_tup (pa_cons (pv 4) (pa_cons (pv 6) pa_nil))) (nomark _)) (pe_one (pe_and (pe_cmpR op_is_bl (pe_mtX m_Pull_give hr (by decide) (takes_of rfl rfl rfl rfl) (pv 3) (pa_cons (pe_ix ix_tup (pv 7) pe_int (fun _ _ => rfl)) (pa_cons (pe_ix ix_tup (pv 7) pe_int (fun _ _ => rfl)) pa_nil))) pe_bl (nomark _)) (pe_one (pe_cmpR (op_eqP hr.units) (C8.pe_mt0 m_Store_durable hr (by decide) (pv 2)) (pv 5) (nomark _)))))))))))), ?_⟩
    try dsimp only [cxOf, Cx.nox]
    have st0 : STT K := ⟨T.cl_Store, T.no_Store__files, T.no_Store__temps, T.no_Store__attic, T.no_Store__log, T.no_Store__new_log, T.no_Store__budget, T.no_Store__done⟩
    have t : ET K := ⟨T.cl_Entry, T.no_Entry_name, T.no_Entry_vector, T.no_Entry_height, T.no_Entry_maker, T.no_Entry_deleted, T.no_Entry_time, T.no_Entry_blocks⟩
    have pt : PT K := ⟨T.cl_Pull, T.no_Pull__store, T.no_Pull__entry⟩
    obtain ⟨_, _, _, _, _, rfl, st, sc, p, a, ea, ns, F, D, S, e, c, b, rfl, rfl, rfl, rfl, rfl, hw, hm, hc, hb, h257, ⟨cs, hP, hcs⟩, mD, d, k⟩ := h
    have tp1 := hc.tp1 hm.b
    have hS := hw.sto
    walk_at "go"
    refine ⟨_, rfl, a, F, S, rfl, hS, hm.f, Nat.lt_of_le_of_lt tp1.len.1 (by decide), Nat.le_trans hm.a (by decide), fun rb H1 s1 hdur => ?_⟩
    have hw1 := hw.same s1
    have d1 := d.same s1
    walk_at "go"
    rename_i p1 hp1
    have s2 := same_new (o := .lst [.int b]) hp1
    refine ⟨_, rfl, p1, [cs], rfl, SqL.of (by rw [upd_same, ← hcs]; rfl), fun c m => by rw [List.mem_singleton.mp m]; exact hP, (by show 1 ≤ 1000; decide), fun q H3 hq s3 e3 => ?_⟩
    have s13 := s1.trans (s2.trans s3)
    have d3 := d.same s13
    rw [List.flatten_cons, List.flatten_nil, List.append_nil] at e3
    walk_at "go"
    rename_i t1 ht1 z1 hz1
    have s4 := same_new (o := .tup [.int (b + 1), .ref q]) ht1
    have s5 := same_new (o := .lst [.int 0]) hz1
    have c4 := hP.h4
    refine e_cat (s5 _ _ (s4 _ _ e3)) (ys := [.int 0]) upd_same (by rw [List.length_map]; simp; omega) fun l2 hl2 => ?_
    have s6 := same_new (o := .lst (cs.map V.int ++ [.int 0])) hl2
    walk_at "go"
    rename_i t2 ht2
    have s7 := same_new (o := .tup [.int b, .ref l2]) ht2
    obtain ⟨y, ys, rfl⟩ : ∃ y ys, cs = y :: ys := by
      cases cs with
      | nil => exact absurd hP.h1 (by decide)
      | cons y ys => exact ⟨y, ys, rfl⟩
    have e7 := s7 _ _ (s6 _ _ (s5 _ _ (s4 _ _ e3)))
    refine e_ixL (v := .int y) (SqL.of e7) (by
      have : ixN (ys.length + 1) 0 = some 0 := by unfold ixN; rw [if_pos (by decide), if_pos (by omega)]; rfl
      simp [atI, this]) ?_
    walk_at "go"
    rename_i l3 hl3
    have s8 := same_new (o := .lst [.int (Builtin.bitXor y 1)]) hl3
    refine e_slL (SqL.of (s8 _ _ e7)) fun r hr => ?_
    have s9 := same_new (o := .lst (cutV ((y :: ys).map V.int) (some 1) none)) hr
    refine e_cat (s9 _ _ upd_same) upd_same (by
      rw [show (some (1 : Int)) = some ((1 : Nat) : Int) from rfl, cut_from, List.length_map, List.length_drop]
      simp only [List.length_cons, List.length_nil] at c4 ⊢
      omega) fun l4 hl4 => ?_
    have s10 := same_new (o := .lst ([.int (Builtin.bitXor y 1)] ++ cutV ((y :: ys).map V.int) (some 1) none)) hl4
    walk_at "go"
    rename_i t3 ht3 z5 hz5 t4 ht4 pl hpl
    rw [show (some (1 : Int)) = some ((1 : Nat) : Int) from rfl, cut_from] at *
    have s11 := same_new (o := .tup [.int b, .ref l4]) ht3
    have s12 := same_new (o := .lst [.int 1]) hz5
    have s14 := same_new (o := .tup [.int 257, .ref z5]) ht4
    have s15 := same_new (o := .lst [.ref t1, .ref t2, .ref t3, .ref t4]) hpl
    have g14 := s14.trans s15
    have g12 := s12.trans g14
    have g11 := s11.trans g12
    have g10 := s10.trans g11
    have g9 := s9.trans g10
    have g8 := s8.trans g9
    have g7 := s7.trans g8
    have g6 := s6.trans g7
    have g5 := s5.trans g6
    have g4 := s4.trans g5
    have sG := s13.trans g4
    have k4 := s13.trans s4
    have k5 := k4.trans s5
    have k6 := k5.trans s6
    have k7 := k6.trans s7
    have k8 := k7.trans s8
    have k9' := k8.trans s9
    have k10 := k9'.trans s10
    have k11 := k10.trans s11
    have k12 := k11.trans s12
    have k14 := k12.trans s14
    have zq := (s1.trans s2).free hq
    have zl2 := k5.free hl2
    have zl4 := k9'.free hl4
    have zz5 := k11.free hz5
    have E1 := g5 _ _ (upd_same (H := H3) (a := t1) (o := .tup [.int (b + 1), .ref q]))
    have Eq := g4 _ _ e3
    have El2 := g7 _ _ upd_same
    have Et2 := g8 _ _ upd_same
    have El4 := g11 _ _ upd_same
    have Et3 := g12 _ _ upd_same
    have Ez5 := g14 _ _ upd_same
    have Et4 := s15 _ _ upd_same
    have mF : ∀ {b : Addr}, H b = none → b ∉ F := fun h m => by
      obtain ⟨⟨o, z⟩, _⟩ := hS.has _ m
      rw [h] at z; cases z
    have dG := d.same sG
    walk_at "go"
    intro v H9 a1 b1 k9 d9
    have EP := k9 pl _ (d.ne (k14.free hpl)) upd_same
    replace E1 := k9 _ _ (d.ne (s13.free ht1)) E1
    replace Eq := k9 _ _ (d.ne zq) Eq
    replace El2 := k9 _ _ (d.ne zl2) El2
    replace Et2 := k9 _ _ (d.ne (k6.free ht2)) Et2
    replace El4 := k9 _ _ (d.ne zl4) El4
    replace Et3 := k9 _ _ (d.ne (k10.free ht3)) Et3
    replace Ez5 := k9 _ _ (d.ne zz5) Ez5
    replace Et4 := k9 _ _ (d.ne (k12.free ht4)) Et4
    have kH := (Kp.of sG).trans k9
    have hdur9 := (hdur.kp d1 (((Kp.of (s2.trans (s3.trans g4)))).trans k9))
    have hw9 := (hw.same sG).kp mD k9 d9
    have hby := hP.b y (List.mem_cons_self ..)
    have h4 : v = 0 ∨ v = 1 ∨ v = 2 ∨ v = 3 := by omega
    simp only [List.length_cons] at c4
    obtain ⟨t', b', l', ds, hv, ht', hl', hne, hnF, hlen⟩ : ∃ (t' : Addr) (b' : Int) (l' : Addr) (ds : List Int), atI [V.ref t1, V.ref t2, V.ref t3, V.ref t4] v = some (.ref t') ∧ H9 t' = some (.tup [.int b', .ref l']) ∧ H9 l' = some (.lst (ds.map V.int)) ∧ ¬ (b' = b ∧ ds = y :: ys) ∧ l' ∉ F ∧ ds.length ≤ 1000 := by
      rcases h4 with rfl | rfl | rfl | rfl
      · exact ⟨t1, b + 1, q, y :: ys, rfl, E1, Eq, fun z => by omega, mF zq, by simp only [List.length_cons]; omega⟩
      · exact ⟨t2, b, l2, (y :: ys) ++ [0], rfl, Et2, by rw [El2, List.map_append]; rfl, fun z => by have := congrArg List.length z.2; simp at this, mF zl2, by simp; omega⟩
      · exact ⟨t3, b, l4, Builtin.bitXor y 1 :: ys, rfl, Et3, El4, fun z => xor1_ne hby.1 (by omega) (List.cons.inj z.2).1, mF zl4, by simp only [List.length_cons]; omega⟩
      · exact ⟨t4, 257, z5, [1], rfl, Et4, Ez5, fun z => h257 z.1.symm, mF zz5, by decide⟩
    clear E1 El2 Et2 El4 Et3 Ez5 Et4
    refine e_ixL (SqL.of EP) hv ?_
    walk_at "go"
    refine e_ixT (SqT.of ht') rfl ?_
    walk_at "go"
    have zt : ∀ {P : Prop}, ¬ (b' = b ∧ ds = y :: ys) → (b' = b → ds = y :: ys → P) := fun n h1 h2 => absurd ⟨h1, h2⟩ n
    refine i_d (fun h1 => ?xx) (fun h1 => ?yy)
    case' xx =>
      walk_at "go"
      refine e_ixT (SqT.of ht') rfl ?_
      walk_at "go"
      refine e_eqPL (SqL.of hl') (SqL.of Eq) ?_
      walk_at "go"
      refine i_d (fun h2 => absurd ⟨h1, h2⟩ hne) (fun h2 => ?_)
    all_goals
      walk_at "go"
      rename_i tz htz
      have sz := same_new (o := .tup [.int b, .ref q]) htz
      refine e_eqRow (sz _ _ ht') upd_same (sz _ _ hl') (sz _ _ Eq) ?_
      rw [decide_eq_false hne]
      have hw10 := hw9.same sz
      have hp10 := hw10.pul
      walk_at "go"
      refine e_ixT (SqT.of (sz _ _ ht')) rfl ?_
      walk_at "go"
      refine e_ixT (SqT.of (sz _ _ ht')) rfl ?_
      refine ⟨_, _, _, rfl, p, a, ea, l', F, D, S, e, c, b', ds, rfl, rfl, rfl, hw10, hm, hc, sz _ _ hl', hnF, hlen, fun _ H10 s10 => ?_, fun z1 z2 => ?_⟩
      · have hS10 := (hw10.same s10).sto
        walk_at "go"
        refine i_self ?_
        walk_at "go"
        refine ⟨_, rfl, a, F, S, rfl, hS10, hm.f, Nat.lt_of_le_of_lt tp1.len.1 (by decide), Nat.le_trans hm.a (by decide), fun rb2 H11 s11 hd2 => ?_⟩
        walk_at "go"
        have s911 := sz.trans (s10.trans s11)
        refine e_eqDur hd2 (hdur9.same s911) ?_
        exact k H11 (kH.trans (Kp.of s911)) (d9.same s911)
      · refine absurd ⟨?_, ?_⟩ hne
        · rw [hb] at z1
          exact (Option.some.inj z1).symm
        · rw [hb] at z1
          rw [z2, ← Option.some.inj z1, ← hcs, bbytes_bnum hP]
theorem ok_law_pulled (T : Txt K mg) (c_Pull : MakX P w K mg base 5 "Pull" (He.ga K "Pull") (sp_Pull___init__ K))  (m_Pull_advance : MetX P w K mg base 6 (He.ga K "Pull") "advance" (sp_Pull_advance K)) (m_Pull_count : C8.Met P w K mg base 4 (He.ga K "Pull") "count" (sp_Pull_count K) []) (m_Pull_is_whole : C8.Met P w K mg base 5 (He.ga K "Pull") "is_whole" (sp_Pull_is_whole K) []) (m_Pull_place : MetX P w K mg base 5 (He.ga K "Pull") "place" (sp_Pull_place K)) (c_law_refused : CalX P w K mg base 6 "_law_refused" (sp_law_refused K)) (c_law_draw : Cal P w K mg base 1 "_law_draw" (spDraw K)) (m_Pull_give : MetX P w K mg base 5 (He.ga K "Pull") "give" (sp_Pull_give K)) (c_law_bytes : Cal P w K mg base 1 "_law_bytes" (sp_law_bytes K)) {f : Addr} {fd : FuncData} (F : FnP K "_law_pulled" s_law_pulled f fd) : FnOk P w K mg base CX0 7 f fd ["state", "script", "store", "entry", "asked"] (sp_law_pulled K) := by
  refine F.ok sc_law_pulled (fun vs H Q E h => ?_) (fun cdv A outer s H vs Q E hr h => ?_)
  · obtain ⟨_, _, _, _, _, rfl, _⟩ := h
    rfl
  · have S := sc_law_pulled
    refine ⟨_, PSs.nox (pss_cons (ps_try_only (tb := fun W => L2.tSeq (L2.tAsg (Vf.tMakX (He.ga K (PySem.Str.ofString "Pull")) (Vk26.sp_Pull___init__ K) (L2.WE W) (L2.tCons (L2.tVar 2) (L2.tCons (L2.tVar 3) L2.tNil))) (L2.gName 5)) (L2.tFor (L2.iRng1 (L2.tCons (L2.tOp (L2.rI0 fun i j => L2.V.int (i + j)) (L2.tCB (fun xs H_1 Q => ∃ p ys, xs = [L2.V.ref p] ∧ (L2.SqL K H_1 p ys ∨ L2.SqT K H_1 p ys) ∧ Q (L2.V.int ↑ys.length) H_1) (L2.tCons (L2.tFld K (L2.tVar 3) (PySem.Str.ofString "blocks")) L2.tNil)) (L2.tC (L2.V.int 1))) L2.tNil)) (L2.gName 6) (L2.tSeq (L2.tAsg (Vf.tMethX (He.ga K (PySem.Str.ofString "Pull")) (PySem.Str.ofString "advance") (Vk26.sp_Pull_advance K) (L2.WE W) (L2.tVar 5) L2.tNil) (L2.gName 7)) (L2.tSeq (L2.tIfS (L2.tTest (L2.tOp (fun x y H Q => y = L2.V.non ∧ Q (L2.V.bl (Decidable.decide (x = L2.V.non))) H) (L2.tVar 7) (L2.tC L2.V.non))) (L2.tSeq (L2.tIfS (L2.tOr (L2.tNot (L2.tB (L2.tMeth (He.ga K (PySem.Str.ofString "Pull")) (PySem.Str.ofString "is_whole") (Vk26.sp_Pull_is_whole K) [] C8.E0 (L2.tVar 5) L2.tNil))) (L2.tTest (L2.tOp L2.rNe (L2.tMeth (He.ga K (PySem.Str.ofString "Pull")) (PySem.Str.ofString "count") (Vk26.sp_Pull_count K) [] C8.E0 (L2.tVar 5) L2.tNil) (L2.tCB (fun xs H_1 Q => ∃ p ys, xs = [L2.V.ref p] ∧ (L2.SqL K H_1 p ys ∨ L2.SqT K H_1 p ys) ∧ Q (L2.V.int ↑ys.length) H_1) (L2.tCons (L2.tFld K (L2.tVar 3) (PySem.Str.ofString "blocks")) L2.tNil))))) (L2.tRet (L2.tC (L2.V.str (PySem.Str.ofString "wrong")))) L2.tNext) (L2.tSeq (L2.tDrop (Vf.tMethX (He.ga K (PySem.Str.ofString "Pull")) (PySem.Str.ofString "place") (Vk26.sp_Pull_place K) (L2.WE W) (L2.tVar 5) L2.tNil)) (L2.tRet (L2.tC (L2.V.str (PySem.Str.ofString "done")))))) L2.tNext) (L2.tSeq (L2.tDrop (L2.tBM K "list" L2.rAppend (L2.tVar 4) (L2.tCons (L2.tVar 7) L2.tNil))) (L2.tSeq (L2.tIfS (L2.tOr (L2.tB (L2.tMeth (He.ga K (PySem.Str.ofString "Pull")) (PySem.Str.ofString "is_whole") (Vk26.sp_Pull_is_whole K) [] C8.E0 (L2.tVar 5) L2.tNil)) (L2.tTest (L2.tOp L2.rNe (L2.tOp (L2.rIxT K) (L2.tFld K (L2.tVar 3) (PySem.Str.ofString "blocks")) (L2.tMeth (He.ga K (PySem.Str.ofString "Pull")) (PySem.Str.ofString "count") (Vk26.sp_Pull_count K) [] C8.E0 (L2.tVar 5) L2.tNil)) (L2.tVar 7)))) (L2.tRet (L2.tC (L2.V.str (PySem.Str.ofString "wrong")))) L2.tNext) (L2.tSeq (L2.tIfS (L2.tAnd (L2.tTest (L2.tOp L2.rEq (L2.tCall (Vf.spDraw K) [] L2.E0 (L2.tCons (L2.tVar 0) (L2.tCons (L2.tVar 1) (L2.tCons (L2.tC (L2.V.int 3)) L2.tNil)))) (L2.tC (L2.V.int 1)))) (L2.tAnd (L2.tTest (L2.tOp L2.rNe (L2.tVar 7) (L2.tC (L2.V.int 257)))) (L2.tNot (L2.tB (L2.tCallS (Vk26.sp_law_refused K) (L2.WE W) (L2.tCons (L2.tVar 0) (L2.tCons (L2.tVar 1) (L2.tCons (L2.tVar 2) (L2.tCons (L2.tVar 5) (L2.tCons (L2.tVar 7) L2.tNil)))))))))) (L2.tRet (L2.tC (L2.V.str (PySem.Str.ofString "wrong")))) L2.tNext) (L2.tIfS (L2.tTest (L2.tOp (fun x y H Q => ∃ a b, x = L2.V.bl a ∧ y = L2.V.bl b ∧ Q (L2.V.bl !Decidable.decide (a = b)) H) (Vf.tMethX (He.ga K (PySem.Str.ofString "Pull")) (PySem.Str.ofString "give") (Vk26.sp_Pull_give K) (L2.WE W) (L2.tVar 5) (L2.tCons (L2.tVar 7) (L2.tCons (L2.tCall (Vk26.sp_law_bytes K) [] L2.E0 (L2.tCons (L2.tLst (L2.tCons (L2.tVar 7) L2.tNil)) L2.tNil)) L2.tNil))) (L2.tC (L2.V.bl Bool.true)))) (L2.tRet (L2.tC (L2.V.str (PySem.Str.ofString "wrong")))) L2.tNext)))))))) (Wout := fun _ _ _ _ => False) rfl rfl ⟨rfl, by decide, Or.inl T.er_PowerCut.er.gC⟩ takes0 (fun W pn xe tk hp => (pss_cons (ps_set (i := 5) S.nd rfl (by first | exact .inl rfl | exact .inr rfl) (pe_mkX c_Pull hr (by decide) tk (by rfl) (pa_cons (pv 2) (pa_cons (pv 3) pa_nil))))   (pss_one (ps_forT tk (by exact hp) rfl (pi_range1 (by rfl) T.f_range (pa_cons (pe_op op_add (pe_callB call_len_seq (by rfl) T.f_len (by first | rfl | decide +kernel) (pa_cons (pe_fld (pv 3) rfl) pa_nil)) pe_int) pa_nil)) (pg_name (i := 6) S.nd rfl (by first | exact .inl rfl | exact .inr rfl))   (pss_cons (ps_set (i := 7) S.nd rfl (by first | exact .inl rfl | exact .inr rfl) (pe_mtX0 m_Pull_advance hr (by decide) tk (pv 5)))     (pss_cons (ps_if (pt_cmpR op_isN (pv 7) pe_non (nomark _))     (pss_cons (ps_if (pw_or (pt_not (pt_val (C8.pe_mt0 m_Pull_is_whole hr (by decide) (pv 5)))) (pw_or1 (pt_cmpR op_ne (C8.pe_mt0 m_Pull_count hr (by decide) (pv 5)) (pe_callB call_len_seq (by rfl) T.f_len (by first | rfl | decide +kernel) (pa_cons (pe_fld (pv 3) rfl) pa_nil)) (nomark _)))).pt       (pss_one (ps_ret pe_str))       pss_nil)       (pss_cons (ps_expr (pe_mtX0 m_Pull_place hr (by decide) tk (pv 5)))       (pss_one (ps_ret pe_str))))     pss_nil)     (pss_cons (ps_expr (pe_bm PySem.F.plainAttrs_list PySem.F.slot_list_append PySem.F.type_list_append mt_append (pv 4) (pa_cons (pv 7) pa_nil)))     (pss_cons (ps_if (pw_or (pt_val (C8.pe_mt0 m_Pull_is_whole hr (by decide) (pv 5))) (pw_or1 (pt_cmpR op_ne (pe_ix ix_tup (pe_fld (pv 3) rfl) (C8.pe_mt0 m_Pull_count hr (by decide) (pv 5)) (fun _ _ => rfl)) (pv 7) (nomark _)))).pt     (pss_one (ps_ret pe_str))     pss_nil)     (pss_cons (ps_if (pw_and (pt_cmpR op_eq (pe_c c_law_draw hr (by decide) (by rfl) (pa_cons (pv 0) (pa_cons (pv 1) (pa_cons pe_int pa_nil)))) pe_int (nomark _)) (pw_and (pt_cmpR op_ne (pv 7) pe_int (nomark _)) (pw_and1 (pt_not (pt_val (pe_cX c_law_refused hr (by decide) tk (by rfl) (pa_cons (pv 0) (pa_cons (pv 1) (pa_cons (pv 2) (pa_cons (pv 5) (pa_cons (pv 7) pa_nil))))))))))).pt     (pss_one (ps_ret pe_str))     pss_nil)     (pss_one (ps_if (pt_cmpR op_isnot_bl (pe_mtX m_Pull_give hr (by decide) tk (pv 5) (pa_cons (pv 7) (pa_cons (pe_c c_law_bytes hr (by decide) (by rfl) (pa_cons (pe_lst (pa_cons (pv 7) pa_nil)) pa_nil)) pa_nil))) pe_bl (nomark _))     (pss_one (ps_ret pe_str))     pss_nil))))))))))) (fun a oe cls d pn hz hf => (pss_one (ps_ret pe_str))))     (pss_one (ps_ret pe_str))), ?_⟩
    try dsimp only [cxOf, Cx.nox]
    have st0 : STT K := ⟨T.cl_Store, T.no_Store__files, T.no_Store__temps, T.no_Store__attic, T.no_Store__log, T.no_Store__new_log, T.no_Store__budget, T.no_Store__done⟩
    have t : ET K := ⟨T.cl_Entry, T.no_Entry_name, T.no_Entry_vector, T.no_Entry_height, T.no_Entry_maker, T.no_Entry_deleted, T.no_Entry_time, T.no_Entry_blocks⟩
    have pt : PT K := ⟨T.cl_Pull, T.no_Pull__store, T.no_Pull__entry⟩
    obtain ⟨_, _, _, _, _, rfl, st, sc, a, ea, q, ns, due, asked, F, D, S, e, n, H0, rfl, rfl, rfl, rfl, rfl, hA, mst, mq, nsq, hS, hE, hm, ht, hcs, dB, kB, nB, d, hq, la, ld, ln, hpd, kc, kd⟩ := h
    walk_at "go"
    intro p dx hp hdx hne
    have sH : Same H (upd (upd H dx (.own p)) p (.ins (cPul K) dx [])) := Same.mut (same_new hdx) hp
    have npD : p ∉ D := hA.free hp
    have npF : p ∉ F := fun m => by
      obtain ⟨⟨o, z⟩, _⟩ := hS.has p m
      rw [hid_none hp] at z; cases z
    have sb : Same (hid D H) (hid (p :: D) (upd (upd H dx (.own p)) p (.ins (cPul K) dx []))) := fun b o z => by
      obtain ⟨n, z⟩ := hid_some z
      have nb : b ≠ p := fun y => by rw [y, hp] at z; cases z
      rw [hid_at (fun m => (List.mem_cons.mp m).elim nb n)]
      exact sH b o z
    have fo : ∀ {F' : List Addr} {H' : Hp}, Fr (p :: F) (upd (upd H dx (.own p)) p (.ins (cPul K) dx [])) H' → Fr F H H' := fun f b o n z => f b o (fun m => (List.mem_cons.mp m).elim (fun y => by rw [y, hp] at z; cases z) n) (sH b o z)
    refine ⟨_, _, _, rfl, p, a, ea, dx, F, D, S, e, rfl, rfl, rfl, upd_same, npD, hA.same sH, hS.same sb, hE.same (hid_same sb), hm, ht, fun F1 H1 S1 f1 hF1 hw1 wk1 hc1 => ⟨rfl, ?_⟩, fun hbd H1 f1 hS1 n9 d9 hd9 => ⟨true, T.er_PowerCut.er.te, fun _ a9 ha9 => ?_, fun z => Bool.noConfusion z⟩⟩
    · have f0 := fo (F' := F1) f1
      have hF0 : ∀ b ∈ F1, b ∈ F ∨ H b = none := fun b m => (hF1 b m).imp id fun z => sH.free z
      have hE1 := hw1.ent
      obtain ⟨kB1, d1⟩ := drFr dB kB d f0 fun b m => nB b (List.mem_cons_of_mem _ m)
      walk_at "go"
      rw [List.length_map]
      have lb := hm.b
      refine ⟨by omega, by omega, ?_⟩
      rw [show ((e.bl.length : Int) + 1).toNat = e.bl.length + 1 by omega]
      -- at turn i: the begun file is just c blocks, i ≤ c
      have n0 : ∀ b, (b ∈ F ∨ H b = none) → H0 b = none := fun b h => by
        rcases h with h | h
        · exact nB b (List.mem_cons_of_mem _ h)
        · cases z : H0 b with
          | none => rfl
          | some o =>
            by_cases y : b = st
            · obtain ⟨u, v, _, _, e0⟩ := d.s
              rw [y, e0] at h; cases h
            · rw [kB b o y z] at h; cases h
      have cmp : ∀ {F' F2 : List Addr} {H' H2 : Hp}, (∀ b ∈ F', b ∈ F ∨ H b = none) → Fr (st :: q :: F) H H' → (∃ o, H' st = some o) → (∃ o, H' q = some o) → Fr F' H' H2 → (∀ b ∈ F2, b ∈ F' ∨ H' b = none) →
          Fr (st :: q :: F) H H2 ∧ ∀ b ∈ F2, b ∈ F ∨ H b = none := fun {F' F2 H' H2} h1 h2 h3 h4 h5 h6 => by
        refine ⟨fun b o nb z => h5 b o (fun m => ?_) (h2 b o nb z), fun b m => ?_⟩
        · rcases h1 b m with y | y
          · exact nb (List.mem_cons_of_mem _ (List.mem_cons_of_mem _ y))
          · rw [y] at z; cases z
        · rcases h6 b m with y | y
          · exact h1 b y
          · by_cases w : b ∈ st :: q :: F
            · rcases List.mem_cons.mp w with w | w
              · obtain ⟨o, z⟩ := h3; rw [← w, y] at z; cases z
              rcases List.mem_cons.mp w with w | w
              · obtain ⟨o, z⟩ := h4; rw [← w, y] at z; cases z
              · exact .inl w
            · exact .inr (fr_back h2 w y)
      have fq : Fr (st :: q :: F) H H1 := f0.mono fun b m => List.mem_cons_of_mem _ (List.mem_cons_of_mem _ m)
      have hq1 := f0 _ _ (hS.notin mq) hq
      refine for_rng (fun i σ H' => (∃ v6 v7, σ = [some (.ref st), some (.ref sc), some (.ref a), some (.ref ea), some (.ref q), some (.ref p), v6, v7]) ∧ ∃ F' S' c as1, (∀ b ∈ F', b ∈ F ∨ H b = none) ∧ Fr (st :: q :: F) H H' ∧ Pw K H' D F' p a ea S' e ∧ Wk S S' ∧ Cl e.nm e.bl S' c ∧ i ≤ c ∧ Kp st H0 H' ∧ Dr K st sc ns H' ∧ H' q = some (.lst (as1.map V.int)) ∧ as1.length ≤ 2000 + i ∧ Pd due (Dk S e.bl c) as1 n)
        ⟨⟨_, _, rfl⟩, F1, S1, keptS S e.nm e.bl, asked, hF0, fq, hw1, wk1, hc1, Nat.zero_le _, kB1, d1, hq1, by omega, hpd⟩ (fun i σ H' hi r => ?_) (fun σ H' r => ?_)
      · obtain ⟨⟨v6, v7, rfl⟩, F', S', c, as1, hF', fr', hw', wk', hc', hic, kB', d', hq', la', hpd'⟩ := r
        have hp' := hw'.pul
        have hE' := hw'.ent
        have hm' := wk'.smal hm (hc'.tp1 hm.b)
        have st' : ∃ o, H' st = some o := let ⟨_, _, _, _, e0⟩ := d'.s; ⟨_, e0⟩
        walk_at "go"
        refine ⟨_, rfl, p, a, ea, F', D, S', e, c, rfl, hw', hm', hc', fun F2 H2 S2 f2 hF2 hw2 wk2 hc2 hDk => ?_, fun F2 H2 S2 i2 y f2 hF2 hw2 wk2 hc2 hle hby hDk hDn => ?_, fun F2 H2 S2 n9 hbd f2 hF2 hS2 wk2 tp2 hDk d9 hd9 => ⟨true, T.er_PowerCut.er.te, fun _ a9 ha9 => ?_, fun z => Bool.noConfusion z⟩⟩
        · have hp2 := hw2.pul
          have hm2 := (wk'.trans wk2).smal hm (hc2.tp1 hm.b)
          obtain ⟨g1, g2⟩ := cmp hF' fr' st' ⟨_, hq'⟩ f2 hF2
          obtain ⟨kB2, d2⟩ := drFr dB kB' d' f2 fun b m => n0 b (hF' b m)
          walk_at "go"
          refine ⟨rfl, _, rfl, i_self ?_⟩
          walk_at "go"
          refine ⟨_, rfl, p, a, ea, F2, D, S2, e, rfl, hw2, hm2, fun H3 s3 => ?_⟩
          rw [hc2.kept hm.bb, decide_eq_true rfl]
          walk_at "go"
          refine ⟨_, rfl, p, a, ea, F2, D, S2, e, rfl, hw2.same s3, hm2, fun H4 s4 => ?_⟩
          rw [hc2.kept hm.bb]
          have s34 := s3.trans s4
          have hw4 := hw2.same s34
          have hp4 := hw4.pul
          have hE4 := hw4.ent
          walk_at "go"
          rw [List.length_map]
          refine i_nd (fun z => absurd rfl z) (fun _ => ?_)
          walk_at "go"
          have wk := wk'.trans wk2
          obtain ⟨o2, eo2, go2⟩ := hc2.tp
          rw [wk'.Dk] at hDk
          refine ⟨_, rfl, p, a, ea, F2, D, S2, e, rfl, hw4, by rw [wk.fl]; have := hm.f; omega, fun hb F5 H5 f5 hF5 hS5 => ?_, fun hb d9 hd9 => ⟨true, T.er_PowerCut.er.te, fun _ a9 ha9 => ?_, fun z => Bool.noConfusion z⟩⟩
          · walk_at "go"
            have f25 : Fr F2 H2 H5 := fun b o n z => f5 b o n (s34 _ _ z)
            obtain ⟨j1, j2⟩ := cmp (F2 := F5) g2 g1 (let ⟨_, _, _, _, e0⟩ := d2.s; ⟨_, e0⟩) ⟨_, f2 _ _ (hw'.st.notin mq) hq'⟩ f25 (fun b m => (hF5 b m).imp id fun z => s34.free z)
            obtain ⟨kB5, d5⟩ := drFr dB kB2 d2 f25 fun b m => n0 b (g2 b m)
            refine kd F5 H5 _ as1 j1 j2 hS5 ?_ ?_ wk.at_ kB5 d5 (f25 _ _ (hw2.st.notin mq) (f2 _ _ (hw'.st.notin mq) hq')) (hDk ▸ hpd')
            · show fput e.nm ((lk e.nm S2.tp).getD [], e.tm) S2.fl = _
              rw [wk.fl, eo2, lk_tpl, go2, List.take_length]
            · show fdel e.nm S2.tp = []
              rw [eo2]
              cases o2 with
              | none => rfl
              | some t => simp [fdel, tpl]
          · have s9 := same_new (o := .xd [(("place" : Str), .int S2.n)]) hd9
            have s49 := s34.trans s9
            walk_at "go"
            refine kc F2 _ S2 as1 (fun z => by rw [wk.bd z] at hb; cases hb) (fun b o n z => s49 _ _ (g1 b o n z)) g2 (hw2.st.same (hid_same s49)) wk (hc2.tp1 hm.b) (kB2.trans (Kp.of s49)) (d2.same s49) (s49 _ _ (f2 _ _ (hw'.st.notin mq) hq')) ?_
            rw [hc2.kept hm.bb, Dk_end, ← hDk]
            exact ⟨hpd'.1, hpd'.2.1, by have := hpd'.2.2; omega⟩
        · have hp2 := hw2.pul
          have hm2 := (wk'.trans wk2).smal hm (hc2.tp1 hm.b)
          obtain ⟨g1, g2⟩ := cmp hF' fr' st' ⟨_, hq'⟩ f2 hF2
          obtain ⟨kB2, d2⟩ := drFr dB kB' d' f2 fun b m => n0 b (hF' b m)
          have eq2 := f2 _ _ (hw'.st.notin mq) hq'
          have lc : i2 < e.bl.length := (List.getElem?_eq_some_iff.mp hby).1
          walk_at "go"
          refine ⟨rfl, _, rfl, i_d (fun z => by cases z) (fun _ => ?_)⟩
          walk_at "go"
          refine ⟨q, _, _, rfl, rfl, eq2, ?_, ?_⟩
          · rw [List.length_map]
            exact Nat.lt_of_le_of_lt (by omega : _ ≤ 4000) (by decide)
          have hh : hid D (upd H2 q (.lst (as1.map V.int ++ [.int y]))) = hid D H2 := hid_upd_in mq
          have zq : H0 q = none := nB q (List.mem_cons_self ..)
          have hw3 : Pw K (upd H2 q (.lst (as1.map V.int ++ [.int y]))) D F2 p a ea S2 e := ⟨fun b m => by
            by_cases z : b = q
            · rw [z]; exact ⟨⟨_, upd_same⟩, nt_lst upd_same⟩
            · obtain ⟨⟨o, e0⟩, t0⟩ := hw2.al b m
              exact ⟨⟨o, by rw [upd_ne z]; exact e0⟩, nt_of t0 e0 (by rw [upd_ne z]; exact e0)⟩, by rw [hh]; exact hw2.st, by rw [hh]; exact hw2.pl, by rw [hh]; exact hw2.en⟩
          have g3 := g1.put (a := q) (o := .lst (as1.map V.int ++ [.int y])) (List.mem_cons_of_mem _ (List.mem_cons_self ..))
          have kB3 := kB2.mut (o := .lst (as1.map V.int ++ [.int y])) zq
          have d3 := Dr.mut (o := .lst (as1.map V.int ++ [.int y])) dB d2 zq kB2
          have eq3 := upd_same (H := H2) (a := q) (o := .lst (as1.map V.int ++ [.int y]))
          have g2' : ∀ b ∈ F2, b ∈ F ∨ H b = none := g2
          generalize upd H2 q (.lst (as1.map V.int ++ [.int y])) = H3 at hw3 g3 kB3 d3 eq3 ⊢
          have hp3 := hw3.pul
          walk_at "go"
          refine ⟨_, rfl, p, a, ea, F2, D, S2, e, rfl, hw3, hm2, fun H4 s4 => ?_⟩
          rw [hc2.kept hm.bb, decide_eq_false (by omega)]
          have hw4 := hw3.same s4
          have hp4 := hw4.pul
          have hE4 := hw4.ent
          walk_at "go"
          rename_i v4 hv4
          refine ⟨_, rfl, p, a, ea, F2, D, S2, e, rfl, hw4, hm2, fun H5 s5 => ?_⟩
          rw [hc2.kept hm.bb]
          refine e_ixT (v := .int y) (same_tup s5 hv4) (at_nat26 (by rw [List.getElem?_map, hby]; rfl)) ?_
          walk_at "go"
          refine i_nd (fun z => absurd rfl z) (fun _ => ?_)
          have s35 := s4.trans s5
          have hw5 := hw3.same s35
          have hp5 := hw5.pul
          have d5 := d3.same s35
          walk_at "go"
          intro w6 H6 a6 b6 k6 d6
          have hw6 := hw5.kp mst k6 d6
          have eq6 := k6 q _ (fun z => nsq z.symm) (s35 _ _ eq3)
          have k36 := (Kp.of s35).trans k6
          walk_at "go"
          refine i_d (fun h1 => ?xx) (fun h1 => ?yy)
          case' xx =>
            walk_at "go"
            refine i_nd (fun h2 => ?x2) (fun h2 => ?y2)
            case' x2 =>
              walk_at "go"
              refine ⟨_, _, _, _, _, rfl, st, sc, p, a, ea, ns, F2, D, S2, e, i2, y, rfl, rfl, rfl, rfl, rfl, hw6, hm2, hc2, hby, h2, hcs y (List.mem_of_getElem? hby), mst, d6, fun H7 k7 d7 => ?_⟩
            case' y2 =>
              have k7 := Kp.refl st H6
              have d7 := d6
          case' yy =>
            have k7 := Kp.refl st H6
            have d7 := d6
          all_goals
            have hw7 := hw6.kp mst k7 d7
            have hp7 := hw7.pul
            have eq7 := k7 q _ (fun z => nsq z.symm) eq6
            have k37 := k36.trans k7
            walk_at "go"
            rename_i p8 hp8
            obtain ⟨cs, hP, hcs2⟩ := hcs y (List.mem_of_getElem? hby)
            have s8 := same_new (o := .lst [.int y]) hp8
            refine ⟨_, rfl, p8, [cs], rfl, SqL.of (by rw [upd_same, ← hcs2]; rfl), fun c9 m => by rw [List.mem_singleton.mp m]; exact hP, (by show 1 ≤ 1000; decide), fun q9 H9 hq9 s9 e9 => ?_⟩
            rw [List.flatten_cons, List.flatten_nil, List.append_nil] at e9
            have s79 := s8.trans s9
            have hw9 := hw7.same s79
            have c4 := hP.h4
            have nq9 : q9 ∉ F2 := fun m => by
              obtain ⟨⟨o, z⟩, _⟩ := hw7.sto.has _ m
              rw [s8 _ _ z] at hq9; cases hq9
            rw [wk'.Dk, wk'.Dk] at hDk
            rw [wk'.Dk, wk'.Dk] at hDn
            have pd := Pd.ask (R := Dk S e.bl (i2 + 1)) (y := y) (asks := as1) (n := n) (due := due) (by rw [← hDn, ← hDk]; exact hpd')
            have k3 := k37.trans (Kp.of s79)
            have eq9 := s79 _ _ eq7
            have g9 : Fr (st :: q :: F) H H9 := fun b o nb z => k3 b o (fun w => nb (by rw [w]; exact List.mem_cons_self ..)) (g3 b o nb z)
            have kB9 := kB3.trans k3
            have d9' := d7.same s79
            have st9 : ∃ o, H9 st = some o := let ⟨_, _, _, _, e0⟩ := d9'.s; ⟨_, e0⟩
            refine ⟨_, _, _, rfl, p, a, ea, q9, F2, D, S2, e, i2, y, cs, rfl, rfl, rfl, hw9, hm2, hc2, e9, nq9, by omega, fun z => absurd ⟨hby, by rw [← hcs2, bbytes_bnum hP]⟩ z, fun _ _ => ⟨fun F8 H8 S8 f8 hF8 hw8 wk8 hc8 => ?_, fun F8 H8 S8 n9 hbd8 f8 hF8 hS8 wk8 tp8 hk8 d9 hd9 => ⟨true, T.er_PowerCut.er.te, fun _ a9 ha9 => ?_, fun z => Bool.noConfusion z⟩⟩⟩
            · obtain ⟨j1, j2⟩ := cmp (F2 := F8) g2 g9 st9 ⟨_, eq9⟩ f8 hF8
              obtain ⟨kB8, d8⟩ := drFr dB kB9 d9' f8 fun b m => n0 b (g2 b m)
              walk_at "go"
              refine i_nd (fun z => absurd rfl z) (fun _ => ?_)
              walk_at "go"
              refine ⟨⟨_, _, rfl⟩, F8, S8, i2 + 1, as1 ++ [y], j2, j1, hw8, (wk'.trans wk2).trans wk8, hc8, by omega, kB8, d8, ?_, ?_, pd.1⟩
              · rw [f8 _ _ (hw9.st.notin mq) eq9, List.map_append]; rfl
              · rw [List.length_append]
                show as1.length + 1 ≤ _
                omega
            · obtain ⟨j1, j2⟩ := cmp (F2 := F8) g2 g9 st9 ⟨_, eq9⟩ f8 hF8
              obtain ⟨kB8, d8⟩ := drFr dB kB9 d9' f8 fun b m => n0 b (g2 b m)
              have s10 := same_new (o := .xd [(("place" : Str), .int n9)]) hd9
              walk_at "go"
              refine kc F8 _ S8 (as1 ++ [y]) (fun z => hbd8 ((wk'.trans wk2).bd z)) (fun b o n z => s10 _ _ (j1 b o n z)) j2 (hS8.same (hid_same s10)) ((wk'.trans wk2).trans wk8) tp8 (kB8.trans (Kp.of s10)) (d8.same s10) (by rw [s10 _ _ (f8 _ _ (hw9.st.notin mq) eq9), List.map_append]; rfl) ?_
              rw [hk8, hDn]
              exact pd.2
        · obtain ⟨g1, g2⟩ := cmp hF' fr' st' ⟨_, hq'⟩ f2 hF2
          obtain ⟨kB2, d2⟩ := drFr dB kB' d' f2 fun b m => n0 b (hF' b m)
          have s9 := same_new (o := .xd [(("place" : Str), .int n9)]) hd9
          walk_at "go"
          rw [wk'.Dk, wk'.Dk] at hDk
          refine kc F2 _ S2 as1 (fun z => hbd (wk'.bd z)) (fun b o n z => s9 _ _ (g1 b o n z)) g2 (hS2.same (hid_same s9)) (wk'.trans wk2) tp2 (kB2.trans (Kp.of s9)) (d2.same s9) (s9 _ _ (f2 _ _ (hw'.st.notin mq) hq')) ?_
          rw [← hDk]
          exact ⟨hpd'.1, hpd'.2.1, by have := hpd'.2.2; omega⟩
      · obtain ⟨_, F', S', c, as1, _, _, _, _, hc', hic, _⟩ := r
        have := hc'.le
        omega
    · have f0 := fo (F' := F) f1
      have s9 := same_new (o := .xd [(("place" : Str), .int n9)]) hd9
      walk_at "go"
      obtain ⟨kB1, d1⟩ := drFr dB kB d f0 fun b m => nB b (List.mem_cons_of_mem _ m)
      refine kc F _ S asked hbd (fun b o n z => s9 _ _ (f0 b o (fun m => n (List.mem_cons_of_mem _ (List.mem_cons_of_mem _ m))) z)) (fun b m => .inl m) (hS1.same (hid_same s9)) (Wk.refl S) ht (kB1.trans (Kp.of s9)) (d1.same s9) (s9 _ _ (f0 _ _ (hS.notin mq) hq)) ?_
      exact ⟨hpd.1, hpd.2.1, by have := hpd.2.2; omega⟩
theorem ok_law (T : Txt K mg) (c_Entry : C8.Mak P w K mg base 1 "Entry" (He.ga K "Entry") (sp_Entry___init__ K) [])  (c_Store : C8.Mak P w K mg base 1 "Store" (He.ga K "Store") (sp_Store___init__ K) [])  (c_law_content : Cal P w K mg base 2 "_law_content" (sp_law_content K)) (c_law_blocks : Cal P w K mg base 1 "_law_blocks" (sp_law_blocks K)) (c_law_name : Cal P w K mg base 2 "_law_name" (sp_law_name K)) (c_law_draw : Cal P w K mg base 1 "_law_draw" (spDraw K)) (m_Store_attic_put : MetX P w K mg base 4 (He.ga K "Store") "attic_put" (sp_Store_attic_put K)) (m_Store_append_temp : MetX P w K mg base 4 (He.ga K "Store") "append_temp" (sp_Store_append_temp K)) (c_missing : Cal P w K mg base 6 "missing" (sp_missing K)) (m_Store_attic : C8.Met P w K mg base 1 (He.ga K "Store") "attic" (sp_Store_attic K) []) (c_from_durable : Cal P w K mg base 3 "from_durable" (sp_from_durable K)) (m_Store_durable : C8.Met P w K mg base 1 (He.ga K "Store") "durable" (sp_Store_durable K) []) (m_Store_set_budget : C8.Met P w K mg base 1 (He.ga K "Store") "set_budget" (sp_Store_set_budget K) []) (c_law_pulled : Cal P w K mg base 7 "_law_pulled" (sp_law_pulled K)) (m_Store_temp : C8.Met P w K mg base 1 (He.ga K "Store") "temp" (sp_Store_temp K) []) (m_Store_read : C8.Met P w K mg base 1 (He.ga K "Store") "read" (sp_Store_read K) []) (m_Store_names : C8.Met P w K mg base 1 (He.ga K "Store") "names" (sp_Store_names K) []) {f : Addr} {fd : FuncData} (F : FnP K "law" s_law f fd) : FnOk P w K mg base CX0 8 f fd ["script"] (sp_law K) := by
  refine F.ok sc_law (fun vs H Q E h => ?_) (fun cdv A outer s H vs Q E hr h => ?_)
  · obtain ⟨_, rfl, _⟩ := h
    rfl
  · have S := sc_law
    refine ⟨_, PSs.nox (pss_cons (ps_set (i := 1) S.nd rfl (by first | exact .inl rfl | exact .inr rfl) (pe_lst (pa_cons pe_int (pa_cons pe_int pa_nil))))
    (pss_cons (ps_set (i := 2) S.nd rfl (by first | exact .inl rfl | exact .inr rfl) (pe_c c_law_content hr (by decide) (by rfl) (pa_cons (pv 1) (pa_cons (pv 0) (pa_cons pe_int pa_nil)))))
    (pss_cons (ps_set (i := 3) S.nd rfl (by first | exact .inl rfl | exact .inr rfl) (C8.pe_mk c_Entry hr (by decide) (by rfl) (pa_cons (pe_c c_law_name hr (by decide) (by rfl) (pa_cons (pv 1) (pa_cons (pv 0) pa_nil))) (pa_cons (pe_tup (pa_cons (pe_tup (pa_cons pe_int (pa_cons pe_int pa_nil))) pa_nil)) (pa_cons pe_int (pa_cons (pe_tup (pa_cons pe_int (pa_cons pe_int pa_nil))) (pa_cons pe_bl (pa_cons pe_int (pa_cons (pe_c c_law_blocks hr (by decide) (by rfl) (pa_cons (pv 2) pa_nil)) pa_nil)))))))))
    (pss_cons (ps_set (i := 4) S.nd rfl (by first | exact .inl rfl | exact .inr rfl) pe_dnewK)
    (pss_cons (ps_for PassesOwn.never rfl (pi_range1 (by rfl) T.f_range (pa_cons (pe_c c_law_draw hr (by decide) (by rfl) (pa_cons (pv 1) (pa_cons (pv 0) (pa_cons pe_int pa_nil)))) pa_nil)) (pg_name (i := 5) S.nd rfl (by first | exact .inl rfl | exact .inr rfl))
    (pss_one (ps_dput (hu_of hr) (pv 4) (pe_c c_law_name hr (by decide) (by rfl) (pa_cons (pv 1) (pa_cons (pv 0) pa_nil))) (pe_tup (pa_cons (pe_c c_law_content hr (by decide) (by rfl) (pa_cons (pv 1) (pa_cons (pv 0) (pa_cons pe_int pa_nil)))) (pa_cons (pv 5) pa_nil))) rfl)))
    (pss_cons (ps_set (i := 6) S.nd rfl (by first | exact .inl rfl | exact .inr rfl) (C8.pe_mk c_Store hr (by decide) (by rfl) (pa_cons (pv 4) (pa_cons (pe_lst pa_nil) pa_nil))))
    (pss_cons (ps_for PassesOwn.never rfl (pi_range1 (by rfl) T.f_range (pa_cons (pe_c c_law_draw hr (by decide) (by rfl) (pa_cons (pv 1) (pa_cons (pv 0) (pa_cons pe_int pa_nil)))) pa_nil)) (pg_name (i := 5) S.nd rfl (by first | exact .inl rfl | exact .inr rfl))
    (pss_one (ps_expr (pe_mtXA m_Store_attic_put hr (by decide) (pv 6) (pa_cons (pe_c c_law_name hr (by decide) (by rfl) (pa_cons (pv 1) (pa_cons (pv 0) pa_nil))) (pa_cons (pe_tup (pa_cons (pe_tup (pa_cons pe_int (pa_cons pe_int pa_nil))) pa_nil)) (pa_cons (pe_c c_law_content hr (by decide) (by rfl) (pa_cons (pv 1) (pa_cons (pv 0) (pa_cons pe_int pa_nil)))) pa_nil)))))))
    (pss_cons (ps_expr (pe_mtXA m_Store_append_temp hr (by decide) (pv 6) (pa_cons (pe_fld (pv 3) rfl) (pa_cons (pe_ix ix_list (pe_lst (pa_cons (pe_c c_law_content hr (by decide) (by rfl) (pa_cons (pv 1) (pa_cons (pv 0) (pa_cons pe_int pa_nil)))) (pa_cons (pe_slice sl_list (pv 2) po_none (po_some (pe_c c_law_draw hr (by decide) (by rfl) (pa_cons (pv 1) (pa_cons (pv 0) (pa_cons pe_int pa_nil)))))) pa_nil))) (pe_c c_law_draw hr (by decide) (by rfl) (pa_cons (pv 1) (pa_cons (pv 0) (pa_cons pe_int pa_nil)))) (fun _ _ => rfl)) pa_nil))))
    (pss_cons (ps_set (i := 7) S.nd rfl (by first | exact .inl rfl | exact .inr rfl) (pe_c c_missing hr (by decide) (by rfl) (pa_cons (pv 6) (pa_cons (pv 3) pa_nil))))
    (pss_cons (ps_set (i := 8) S.nd rfl (by first | exact .inl rfl | exact .inr rfl) (C8.pe_mt0 m_Store_attic hr (by decide) (pv 6)))
    (pss_cons (ps_set (i := 9) S.nd rfl (by first | exact .inl rfl | exact .inr rfl) (pe_callTy (call_dictP rfl) (by rfl) T.f_dict (by first | rfl | decide +kernel) (pa_cons (pe_lock (pe_lc (own := [("name", 16)]) (g := gName 16) rfl S.nd (pi_keys (pv 4)) (blkOk_by (N := N_law) (sc := defScope s_law) (by decide +kernel)) (fun _ _ _ _ _ => (pg_name (i := 16) S.nd rfl (by first | exact .inl rfl | exact .inr rfl))) (fun _ _ _ _ _ => (pts_one (pt_cmpR op_ne (pv 16) (pe_fldK K (pv 3) rfl) (nomark _)))) (fun _ _ _ _ _ => (pe_tup (pa_cons (pv 16) (pa_cons (pe_dget (hu_of hr) (pv 4) (pv 16) (fun _ _ => rfl)) pa_nil)))))) pa_nil)))
    (pss_cons (ps_set (i := 10) S.nd rfl (by first | exact .inl rfl | exact .inr rfl) (pe_lst pa_nil))
    (pss_cons (ps_set (i := 11) S.nd rfl (by first | exact .inl rfl | exact .inr rfl) pe_int)
    (pss_cons (ps_set (i := 12) S.nd rfl (by first | exact .inl rfl | exact .inr rfl) pe_str)
    (pss_cons (ps_for PassesOwn.never rfl (pi_range1 (by rfl) T.f_range (pa_cons pe_int pa_nil)) (pg_name (i := 13) S.nd rfl (by first | exact .inl rfl | exact .inr rfl))
    (pss_one (ps_if (pt_cmpR op_eq (pv 12) pe_str (nomark _))
      (pss_cons (ps_set (i := 6) S.nd rfl (by first | exact .inl rfl | exact .inr rfl) (pe_c c_from_durable hr (by decide) (by rfl) (pa_cons (C8.pe_mt0 m_Store_durable hr (by decide) (pv 6)) pa_nil)))
        (C8.pss_cut (ps_if (pt_cmpR op_lt (pv 13) pe_int (nomark _))
        (pss_one (ps_expr (C8.pe_mt m_Store_set_budget hr (by decide) (pv 6) (pa_cons (pe_ix ix_list (pe_lst (pa_cons pe_non (pa_cons (pe_c c_law_draw hr (by decide) (by rfl) (pa_cons (pv 1) (pa_cons (pv 0) (pa_cons pe_int pa_nil)))) pa_nil))) (pe_c c_law_draw hr (by decide) (by rfl) (pa_cons (pv 1) (pa_cons (pv 0) (pa_cons pe_int pa_nil)))) (fun _ _ => rfl)) pa_nil))))
        pss_nil)
        (pss_cons (ps_set (i := 12) S.nd rfl (by first | exact .inl rfl | exact .inr rfl) (pe_c c_law_pulled hr (by decide) (by rfl) (pa_cons (pv 1) (pa_cons (pv 0) (pa_cons (pv 6) (pa_cons (pv 3) (pa_cons (pv 10) pa_nil)))))))
        (pss_one (ps_set (i := 11) S.nd rfl (by first | exact .inl rfl | exact .inr rfl) (pe_op op_add (pv 11) (pe_callTy call_int1 (by rfl) T.f_int (by first | rfl | decide +kernel) (pa_cons (pe_cmpR op_eq (pv 12) pe_str (nomark _)) pa_nil))))))))
      pss_nil)))
    (pss_cons (ps_if (pw_or (pt_cmpR op_ne (pv 12) pe_str (nomark _)) (pw_or (pt_cmpR (op_neP hr.units) (C8.pe_mt m_Store_read hr (by decide) (pv 6) (pa_cons (pe_fld (pv 3) rfl) pa_nil)) (pe_tup (pa_cons (pv 2) (pa_cons pe_int pa_nil))) (nomark _)) (pw_or1 (pt_cmpR op_notN (C8.pe_mt m_Store_temp hr (by decide) (pv 6) (pa_cons (pe_fld (pv 3) rfl) pa_nil)) pe_non (nomark _))))).pt
    (pss_one (ps_ret pe_bl))
    pss_nil)
    (pss_cons (ps_if (pw_or (pt_cmpR (op_neDD hr.units) (pe_callTy (call_dictP rfl) (by rfl) T.f_dict (by first | rfl | decide +kernel) (pa_cons (pe_lc (own := [("name", 16)]) (g := gName 16) rfl S.nd (pi_list (C8.pe_mt0 m_Store_names hr (by decide) (pv 6))) (blkOk_by (N := N_law) (sc := defScope s_law) (by decide +kernel)) (fun _ _ _ _ _ => (pg_name (i := 16) S.nd rfl (by first | exact .inl rfl | exact .inr rfl))) (fun _ _ _ _ _ => (pts_one (pt_cmpR op_ne (pv 16) (pe_fldK K (pv 3) rfl) (nomark _)))) (fun _ _ _ _ _ => (pe_tup (pa_cons (pv 16) (pa_cons (C8.pe_mt m_Store_read hr (by decide) (pv 6) (pa_cons (pv 16) pa_nil)) pa_nil))))) pa_nil)) (pv 9) (nomark _)) (pw_or1 (pt_cmpR (op_neP hr.units) (C8.pe_mt0 m_Store_attic hr (by decide) (pv 6)) (pv 8) (nomark _)))).pt
    (pss_one (ps_ret pe_bl))
    pss_nil)
    (pss_cons (ps_set (i := 14) S.nd rfl (by first | exact .inl rfl | exact .inr rfl) (pe_lst pa_nil))
    (pss_cons (ps_for PassesOwn.never rfl (pi_list (pv 10)) (pg_name (i := 15) S.nd rfl (by first | exact .inl rfl | exact .inr rfl))
    (pss_one (ps_if (pt_cmpR op_notIn_seq (pv 15) (pv 14) (by first | rfl | with_unfolding_all rfl))
      (pss_one (ps_expr (pe_bm PySem.F.plainAttrs_list PySem.F.slot_list_append PySem.F.type_list_append mt_append (pv 14) (pa_cons (pv 15) pa_nil))))
      pss_nil)))
    (pss_one (ps_ret (pe_and (pe_cmpR (op_eqP hr.units) (pv 14) (pv 7) (nomark _)) (pe_one (pe_cmpR op_le (pe_callB call_len_seq (by rfl) T.f_len (by first | rfl | decide +kernel) (pa_cons (pv 10) pa_nil)) (pe_op op_add (pe_callB call_len_seq (by rfl) T.f_len (by first | rfl | decide +kernel) (pa_cons (pv 7) pa_nil)) (pv 11)) (nomark _))))))))))))))))))))))))), ?_⟩
    try dsimp only [cxOf, Cx.nox]
    have st0 : STT K := ⟨T.cl_Store, T.no_Store__files, T.no_Store__temps, T.no_Store__attic, T.no_Store__log, T.no_Store__new_log, T.no_Store__budget, T.no_Store__done⟩
    have t : ET K := ⟨T.cl_Entry, T.no_Entry_name, T.no_Entry_vector, T.no_Entry_height, T.no_Entry_maker, T.no_Entry_deleted, T.no_Entry_time, T.no_Entry_blocks⟩
    have pt : PT K := ⟨T.cl_Pull, T.no_Pull__store, T.no_Pull__entry⟩
    obtain ⟨_, rfl, sc, ns, rfl, hL, hn, k⟩ := h
    walk_at "go"
    rename_i st hst
    have d0 := Dr.start hL hst hn
    refine ⟨_, _, _, rfl, st, sc, ns, 7, rfl, rfl, rfl, by decide, d0, fun c0 ct H2 hc0 k2 d2 e2 b2 l2 => ?_⟩
    have ncs : c0 ≠ st := d0.ne hc0
    walk_at "go"
    refine ⟨_, _, rfl, st, sc, ns, rfl, rfl, d2, fun nm H1 k1 d1 hnm => ?_⟩
    walk_at "go"
    rename_i q1 h1 q2 h2 q3 h3
    have e2 := k1 _ _ ncs e2
    have s1 := same_new (o := .tup [.int 1, .int 1]) h1
    have s2 := same_new (o := .tup [.ref q1]) h2
    have s3 := same_new (o := .tup [.int 1, .int 1]) h3
    have s13 := (s1.trans s2).trans s3
    have e2 := s13 _ _ e2
    have d3 := d1.same s13
    have eq1 := s3 _ _ (s2 _ _ (upd_same (H := H1) (a := q1) (o := .tup [.int 1, .int 1])))
    have eq2 := s3 _ _ (upd_same (a := q2) (o := .tup [.ref q1]))
    refine ⟨_, rfl, c0, ct, rfl, SqL.of e2, by omega, fun bq H3 hbq s4 e3 => ?_⟩
    walk_at "go"
    refine e_mkE fun ea Hb dx hea s5 hi5 => ?_
    have s45 := s4.trans s5
    have dB : Dr K st sc ns Hb := d3.same s45
    have ecB := s45 _ _ e2
    have f1 := s45 _ _ eq1
    have f2 := s45 _ _ eq2
    have f3 := s45 _ _ upd_same
    have hE0 : Ent K Hb false ea ⟨nm, fun k => if k = 0 then 1 else 0, 1, (1, 1), false, 30, nums ct⟩ := ent_made (p := false) (dx := dx) (v := q2) (m := q3) (b := bq) ⟨nm, fun k => if k = 0 then 1 else 0, 1, (1, 1), false, 30, nums ct⟩ hi5 ⟨by
      rw [made_one (by decide) (by decide)]
      exact ⟨[q1], SqT.of f2, .cons (SqT.of f1) .nil⟩, fun z => nomatch z⟩ (SqT.of f3) (SqT.of (s5 _ _ e3))
    have lst : ∀ a ∈ [st], ∃ xs, Hb a = some (.lst xs) := fun a m => by
      obtain ⟨x, y, _, _, e⟩ := dB.s
      rw [List.mem_singleton.mp m]
      exact ⟨_, e⟩
    have hE := hE0.hide (dr_nt dB) lst
    have hct := chunks_piece ct b2
    have hcl : (chunks ct).length ≤ 20 := by rw [chunks_len]; omega
    have hcf := chunks_flat ct
    have hnl : (nums ct).length ≤ 20 := by unfold nums; rw [List.length_map]; exact hcl
    clear hE0 f1 f2 f3 eq1 eq2 hi5 e3 e2
    obtain ⟨e0, hE, hb0, htm⟩ : ∃ e : En, Ent K (hid [st] Hb) false ea e ∧ e.bl = (chunks ct).map bnum ∧ e.tm = 30 := ⟨_, hE, rfl, rfl⟩
    have lb0 : e0.bl.length ≤ 20 := by rw [hb0, List.length_map]; exact hcl
    clear hcl hnl d3 s13 s1 s2 s3 k2 hbq hea s4 s5 s45 hc0 h1 h2 h3 d1 k1 hnm d0 d2
    walk_at "go"
    refine e_dnewK fun fd hfd => ?_
    have sf := same_new (o := .dK []) hfd
    have df := dB.same sf
    walk_at "go"
    intro v1 H4 a1 b1 k4 d4
    walk_at "go"
    have nfd := dB.ne hfd
    have kf := (Kp.of (st := st) sf).trans k4
    refine for_rng (fun i σ H5 => (∃ v5, σ = [some (.ref sc), some (.ref st), some (.ref c0), some (.ref ea), some (.ref fd), v5, none, none, none, none, none, none, none, none, none, none, none]) ∧ Kp st Hb H5 ∧ Dr K st sc ns H5 ∧ ∃ w fl, H5 fd = some (.dK (dct w)) ∧ Fls (hid [fd, st] H5) w fl ∧ (fl.map (·.1)).Nodup ∧ fl.length ≤ i ∧ ∀ r ∈ fl, r.2.1.length ≤ 1000) ⟨⟨_, rfl⟩, kf, d4, [], [], k4 _ _ nfd upd_same, .nil, by simp, Nat.le_refl _, fun r h => (by cases h)⟩ (fun i σ H5 hi q => ?_) (fun σ H5 q => ?_)
    · obtain ⟨⟨v4, rfl⟩, k5, d5, w, fl, e5, q5, n5, l5, m5⟩ := q
      walk_at "go"
      refine ⟨_, _, _, rfl, st, sc, ns, 4, rfl, rfl, rfl, by decide, d5, fun c ct2 H6 hc6 k6 d6 e6 _ l6 => ?_⟩
      walk_at "go"
      rename_i t ht
      have s7 := same_new (o := .tup [.ref c, .int (0 + (i : Int))]) ht
      have d7 := d6.same s7
      refine ⟨_, _, rfl, st, sc, ns, rfl, rfl, d7, fun z H8 k8 d8 _ => ?_⟩
      have k68 := (k6.trans (Kp.of s7)).trans k8
      have nc := d5.ne hc6
      have nt := d6.ne ht
      have e8 := k68 _ _ nfd e5
      have htf : FilA (hid [fd, st] H8) t (ct2, 0 + (i : Int)) := by
        have g1 : t ≠ fd := fun z => by rw [z, k6 _ _ nfd e5] at ht; cases ht
        have g2 : c ≠ fd := fun z => by rw [z, e5] at hc6; cases hc6
        exact ⟨c, by rw [hid_at (by simp [g1, nt])]; exact k8 _ _ nt upd_same, by rw [hid_at (by simp [g2, nc])]; exact k8 _ _ nc (s7 _ _ e6)⟩
      have s58 : Same (hid [fd, st] H5) (hid [fd, st] H8) := hid_fr fun x o n e => k68 x o (fun z => n (by simp [z])) e
      obtain ⟨g1, g2⟩ := put_dct (nm := z) (t := t) (x := (ct2, 0 + (i : Int))) (fls_same q5 s58) htf
      have lw := paired_len q5
      refine ⟨fd, _, rfl, DPut.k (k := Sum.inr z) e8 (by unfold dct; rw [List.length_map]; exact Nat.lt_of_le_of_lt (by omega : _ ≤ 100) (by decide)), ⟨_, rfl⟩, (k5.trans k68).mut hfd, Dr.mut dB d8 hfd (k5.trans k68), fput z t w, fput z (ct2, 0 + (i : Int)) fl, ?_, ?_, fput_nodup n5, Nat.le_trans (fput_len ..) (by omega), fun r hr => ?_⟩
      · rw [upd_same, g1]
      · rw [hid_upd_in (by simp)]
        exact g2
      · rcases fput_mem hr with h | rfl
        · exact m5 r h
        · show ct2.length ≤ 1000
          omega
    obtain ⟨⟨v5, rfl⟩, k5, d5, w, fl, e5, q5, n5, l5, m5⟩ := q
    walk_at "go"
    rename_i lg hlg
    intro a dxs ha hdxs nda
    have sG : Same H5 (upd (upd (upd H5 lg (.lst [])) dxs (.own a)) a (.ins (cSto K) dxs [])) := (same_new hlg).trans (Same.mut (same_new hdxs) ha)
    have eLg : upd (upd (upd H5 lg (.lst [])) dxs (.own a)) a (.ins (cSto K) dxs []) lg = some (.lst []) := (Same.mut (same_new hdxs) ha) _ _ upd_same
    have ha5 := (same_new hlg).free ha
    have alS : ∀ {G : Hp}, Dr K st sc ns G → Al [st] G := fun d b m => by
      obtain ⟨x, y, _, _, e⟩ := d.s
      rw [List.mem_singleton.mp m]
      exact ⟨⟨_, e⟩, nt_lst e⟩
    have dG := d5.same sG
    have nst : a ∉ [st] := fun m => d5.ne ha5 (List.mem_singleton.mp m)
    refine ⟨_, _, _, rfl, a, fd, lg, dxs, w, fl, [], [st], rfl, rfl, rfl, upd_same, sG _ _ e5, paired_imp (fun _ _ q => ⟨q.1, by
      obtain ⟨l, g1, g2⟩ := q.2
      exact ⟨l, sG _ _ (hid_some g1).2, .inl (SqL.of (sG _ _ (hid_some g2).2))⟩⟩) q5, n5, by omega, .inl (SqL.of eLg), alS dG, nst, fun F H6 hk hF hSto => ⟨rfl, ?_⟩⟩
    have hF5 : ∀ b ∈ F, H5 b = none := fun b m => by
      rcases hF b m with z | z
      · rw [z]; exact ha5
      · exact sG.free z
    have s56 : Same H5 H6 := fun b o e => hk b (fun z => by rw [z, ha5] at e; cases e) o (sG b o e)
    have d6 := d5.same s56
    have hE5 := hE.same (kp_same k5)
    have ec5 := k5 _ _ ncs ecB
    have l5 : fl.length ≤ 3 := by omega
    clear hF hk dG eLg hdxs ha sG hE ecB k5 kf k4 d4 sf df nda ha5 nst a1 b1
    walk_at "go"
    intro v2 H7 a2 b2 k7 d7
    have k57 := (Kp.of (st := st) s56).trans k7
    have hS7 := hSto.same (kp_same k7)
    walk_at "go"
    refine for_rng (fun i σ H8 => (∃ v4, σ = [some (.ref sc), some (.ref st), some (.ref c0), some (.ref ea), some (.ref fd), v4, some (.ref a), none, none, none, none, none, none, none, none, none, none]) ∧ Kp st H5 H8 ∧ Dr K st sc ns H8 ∧ ∃ al n, Sto K (hid [st] H8) F a ⟨fl, [], al, n, [], [], none⟩ ∧ al.length ≤ i ∧ ∀ r ∈ al, r.2.2.length ≤ 1000) ⟨⟨_, rfl⟩, k57, d7, [], 0, hS7, Nat.le_refl _, fun r h => (by cases h)⟩ (fun i σ H8 hi q => ?_) (fun σ H8 q => ?_)
    · obtain ⟨⟨v4, rfl⟩, k8, d8, al, n, hS8, l8, m8⟩ := q
      walk_at "go"
      have hS8' := hS8.sub
      walk_at "go"
      refine ⟨_, _, rfl, st, sc, ns, rfl, rfl, d8, fun z H9 k9 d9 _ => ?_⟩
      walk_at "go"
      rename_i u1 hu1 u2 hu2
      have t1 := same_new (o := .tup [.int 2, .int 1]) hu1
      have t2 := same_new (o := .tup [.ref u1]) hu2
      have t12 := t1.trans t2
      have d10 := d9.same t12
      have vc : Vec K _ u2 [(2, 1)] := ⟨[u1], SqT.of upd_same, .cons (SqT.of (t2 _ _ upd_same)) .nil⟩
      refine ⟨_, _, _, rfl, st, sc, ns, 3, rfl, rfl, rfl, by decide, d10, fun c ct2 H11 hc11 k11 d11 e11 _ l11 => ?_⟩
      have kk := (k9.trans (Kp.of t12)).trans k11
      have hS11 := hS8.same (kp_same kk)
      have vc2 := vec_fr vc (kp_fr k11) (dr_nt d10)
      walk_at "go"
      refine ⟨_, _, _, _, rfl, a, u2, c, F, [st], ⟨fl, [], al, n, [], [], none⟩, z, [(2, 1)], ct2, rfl, rfl, rfl, rfl, alS d11, hS11, vc2, SqL.of e11, (by show al.length ≤ 1000; omega), fun _ H12 f12 hS12 => ?_, fun z => nomatch z⟩
      obtain ⟨k12, d12⟩ := drFr d5 (k8.trans kk) d11 f12 hF5
      refine ⟨⟨_, rfl⟩, k12, d12, al ++ [(z, ([(2, 1)], ct2))], n + 1, hS12, by rw [List.length_append, List.length_singleton]; omega, fun r hr => ?_⟩
      rcases List.mem_append.mp hr with h | h
      · exact m8 r h
      · rw [List.mem_singleton.mp h]
        show ct2.length ≤ 1000
        omega
    obtain ⟨⟨v4, rfl⟩, k8, d8, al, n, hS8, l8, m8⟩ := q
    have hE8 := (hE5.same (kp_same k8)).same hid_sub
    have hS8' := hS8.sub
    walk_at "go"
    refine ⟨_, _, _, rfl, st, sc, ns, 2, rfl, rfl, rfl, by decide, d8, fun c2 ct2 H9 hc9 k9 d9 e9 _ l9 => ?_⟩
    have k59 := k8.trans k9
    have ec9 := k59 _ _ ncs ec5
    have nc2 : c2 ≠ st := d8.ne hc9
    have c2F : c2 ∉ F := hS8.new hc9
    walk_at "go"
    intro v3 H10 a3 b3 k10 d10
    obtain ⟨m3, rfl⟩ : ∃ m : Nat, v3 = (m : Int) := ⟨v3.toNat, by omega⟩
    have k510 := k59.trans k10
    have ec10 := k10 _ _ ncs ec9
    have e10 := k10 _ _ nc2 e9
    have hS10 := (hS8.same (kp_same k9)).same (kp_same k10)
    walk_at "go"
    refine e_slL (SqL.of ec10) fun r hr => ?_
    rw [cut_to]
    have s11 := same_new (o := .lst ((ct.take m3).map V.int)) hr
    have rF : r ∉ F := hS10.new hr
    have d11 := d10.same s11
    have nr : r ≠ st := d10.ne hr
    walk_at "go"
    rename_i pl hpl
    have s12 := same_new (o := .lst [.ref c2, .ref r]) hpl
    have d12 := d11.same s12
    have npl : pl ≠ st := d11.ne hpl
    intro v6 H13 a6 b6 k13 d13
    have k1013 := (Kp.of (st := st) (s11.trans s12)).trans k13
    have k513 := k510.trans k1013
    have hS13 := hS10.same (kp_same k1013)
    have e13 := k1013 _ _ nc2 e10
    have er13 := k13 _ _ nr (s12 _ _ upd_same)
    obtain ⟨tq, xs, hv6, e14, ntq, lxs⟩ : ∃ (tq : Addr) (xs : List Int), atI [V.ref c2, V.ref r] v6 = some (.ref tq) ∧ H13 tq = some (.lst (xs.map V.int)) ∧ tq ∉ F ∧ xs.length ≤ 100 := by
      rcases (by omega : v6 = 0 ∨ v6 = 1) with rfl | rfl
      · exact ⟨c2, ct2, rfl, e13, c2F, by omega⟩
      · exact ⟨r, ct.take m3, rfl, er13, rF, by rw [List.length_take]; omega⟩
    refine e_ixL (SqL.of (k13 _ _ npl upd_same)) hv6 ?_
    walk_at "go"
    refine ⟨_, _, _, rfl, a, tq, F, [st], ⟨fl, [], al, n, [], [], none⟩, e0.nm, xs, rfl, rfl, rfl, alS d13, hS13, e14, ntq, by omega, Nat.zero_le _, (fun r h => (by cases h)), fun _ F2 H14 f14 hF2 hS14 => ?_, fun k hk => nomatch hk⟩
    obtain ⟨k514, d14⟩ := drFr d5 k513 d13 f14 hF5
    have hF25 : ∀ b ∈ F2, H5 b = none := fun b m => by
      rcases hF2 b m with z | z
      · exact hF5 b z
      · exact dr_free d13 k513 z
    have hE14 := (hE5.same (kp_same k514)).same hid_sub
    have tp14 : Tp1 e0.nm (S0.apt ⟨fl, [], al, n, [], [], none⟩ e0.nm xs xs.length) := by
      obtain ⟨o', g1, g2⟩ := apt_tpl (nm := e0.nm) (o := none) xs
      refine ⟨o', ?_, ?_⟩
      · show (xs.take xs.length).foldl (ap1 e0.nm) [] = _
        rw [List.take_length]
        exact g1
      · rw [g2]
        show ([] ++ xs : List Int).length ≤ 8000
        rw [List.nil_append]; omega
    have pc : ∀ b ∈ e0.bl, ∃ cs : List Int, Piece cs ∧ bnum cs = b := fun b hb => by
      rw [hb0] at hb
      obtain ⟨c, hc, rfl⟩ := List.mem_map.mp hb
      exact ⟨c, hct c hc, rfl⟩
    obtain ⟨S1, eS1⟩ : ∃ S1, S1 = S0.apt ⟨fl, [], al, n, [], [], none⟩ e0.nm xs xs.length := ⟨_, rfl⟩
    have fl1 : S1.fl = fl := by rw [eS1]; rfl
    have at1 : S1.at_ = al := by rw [eS1]; rfl
    rw [← eS1] at hS14 tp14
    have sm : Smal S1 e0.bl := ⟨by rw [fl1]; omega, by rw [fl1]; exact m5, by rw [at1]; omega, by rw [at1]; exact m8, by omega, fun x hx => by
      obtain ⟨c, hc, rfl⟩ := pc x hx
      rw [bsize_bnum hc]
      have := hc.h1
      omega, fun r hr => Nat.le_trans (tp14.len.2 r hr) (by decide)⟩
    have hS14' := hS14.sub
    clear hS13 hS10 hS8 hS8' hS7 hSto hE8 m8 hv6 e14 ntq lxs e13 er13 ec10 e10 f14 hF2 eS1
    walk_at "go"
    refine ⟨_, _, rfl, a, ea, F2, S1, false, e0, rfl, rfl, hS14', hE14, sm, fun dl ys H15 s15 hdl hsr e15 => ?_⟩
    have hnm := hS14'.names
    rw [miss_Dk hsr.1 hnm] at e15
    have d15 := d14.same s15
    have k515 := k514.trans (Kp.of s15)
    have hS15 := hS14.same (hid_same s15)
    have hS15' := hS15.sub
    have ndl : dl ≠ st := d14.ne hdl
    walk_at "go"
    refine ⟨_, rfl, a, F2, S1, rfl, hS15', (by have := sm.a; omega), fun ol oq H16 hol s16 eol _ hatE => ?_⟩
    have hat : Ats K (hid [st] H16) oq S1.at_ := hatE [st] (alS d15)
    have nol : ol ≠ st := d15.ne hol
    have d16 := d15.same s16
    have k516 := k515.trans (Kp.of s16)
    have hS16 := hS15.same (hid_same s16)
    have hE16 := (hE5.same (kp_same k516)).same hid_sub
    have efd := k516 _ _ nfd e5
    have q16 : Fls (hid [fd, st] H16) w fl := fls_same q5 (hid_fr fun x o n e => k516 x o (fun z => n (by simp [z])) e)
    have edl := s16 _ _ e15
    have lw : w.length ≤ 3 := by rw [paired_len q5]; omega
    have nw : (w.map (·.1)).Nodup := by rw [prd_fst (R := FilA _) q5]; exact n5
    clear hS14 hS14' hS15 hS15' hE14 e15
    walk_at "go"
    refine ⟨fd, _, efd, trivial, fun od => ?_⟩
    have sfz : ∀ {b : Addr} {o : HO}, b ≠ fd → H16 b = some o → upd H16 fd (.frz od (.dK (dct w))) b = some o := fun n e => by rw [upd_ne n]; exact e
    have hE17 : Ent K (upd H16 fd (.frz od (.dK (dct w)))) false ea e0 := hE16.upd_dK efd
    walk_at "go"
    refine ⟨fd, od, rfl, .inl ⟨_, upd_same, ?_⟩⟩
    intro D hD
    refine lc_relF (β := Str × Addr) walk_keys hD (by unfold dct; rw [List.length_map]; omega) (fun H s => s _ _ upd_same) (fun i => (w.take i).filter fun x => decide (x.1 ≠ e0.nm)) rfl (fun i hi => Nat.le_trans (List.length_filter_le ..) (by rw [List.length_take]; omega)) (fun x v H => ∃ q, v = .ref q ∧ SqT K H q [.str x.1, .ref x.2]) (fun x v H H' h s => let ⟨q, h1, h2⟩ := h; ⟨q, h1, same_tup s h2⟩) (fun i x H1 H2 C E acc hi s1 eD y yes no => ?_) (fun H17 us s17 eD hp => ?_)
    · obtain ⟨rfl, kk, v, hk, rfl⟩ := y
      have hi2 : i < w.length := by unfold dct at hi; rw [List.length_map] at hi; exact hi
      obtain ⟨x, hx⟩ : ∃ x, w[i]? = some x := ⟨_, List.getElem?_eq_getElem hi2⟩
      obtain ⟨rfl, rfl⟩ : kk = Sum.inr x.1 ∧ v = .ref x.2 := by
        unfold dct at hk
        rw [List.getElem?_map, hx] at hk
        cases hk
        exact ⟨rfl, rfl⟩
      have hE2 := hE17.same s1
      have efz := s1 _ _ upd_same
      have hvx : valV (dct w) (Sum.inr x.1) = some (.ref x.2) := by
        rcases val_dct (R := FilA _) x.1 q5 with ⟨_, g2⟩ | ⟨q2, r, g1, _, _, g4⟩
        · have hm : x.1 ∈ fl.map (·.1) := by rw [← prd_fst (R := FilA _) q5]; exact List.mem_map.mpr ⟨x, List.mem_of_getElem? hx, rfl⟩
          obtain ⟨r, g3, _⟩ := lk_mem hm
          rw [g2] at g3; cases g3
        · rw [g1]
          obtain ⟨j, hj⟩ := List.getElem?_of_mem g4
          have hij : i = j := by
            have h1 : (w.map (·.1))[i]? = some x.1 := by rw [List.getElem?_map, hx]; rfl
            have h2 : (w.map (·.1))[j]? = some x.1 := by rw [List.getElem?_map, hj]; rfl
            exact (List.getElem?_inj (by rw [List.length_map]; exact hi2) nw).mp (h1.trans h2.symm)
          rw [← hij, hx] at hj
          exact congrArg (fun y : Str × Addr => some (V.ref y.2)) (Option.some.inj hj).symm
      have hex : e0.nm = x.1 ∨ x.1 ≠ e0.nm := by
        by_cases z : x.1 = e0.nm
        · exact .inl z.symm
        · exact .inr z
      have hM := filt_take (p := fun x => decide (x.1 ≠ e0.nm)) hx
      walk_at "go"
      refine i_nd (fun ne => ?_) (fun eq => ?_)
      · have ne2 : x.1 ≠ e0.nm := fun z => ne (by rw [z]; rfl)
        rw [if_pos (decide_eq_true ne2)] at hM
        walk_at "go"
        refine ⟨fd, _, rfl, .inl ⟨_, .inr x.1, .inr ⟨od, efz⟩, rfl, hvx.symm⟩, ?_⟩
        walk_at "go"
        rename_i T hT
        have sT := same_new (o := .tup [kV (Sum.inr x.1), .ref x.2]) hT
        have nTD : T ≠ D := fun z => by rw [z, eD] at hT; cases hT
        exact yes x _ _ hM sT ⟨T, rfl, SqT.of (by rw [hid_at (by simp [nTD]), upd_same]; rfl)⟩
      · have eq2 : x.1 = e0.nm := by injection eq
        rw [if_neg (by simp [eq2]), List.append_nil] at hM
        exact no _ hM (Same.refl _)
    have efz := s17 _ _ upd_same
    refine ⟨efz, ?_⟩
    have sR : Same H16 (upd H17 fd (.dK (dct w))) := fun b o e => by
      by_cases z : b = fd
      · rw [z, upd_same]; rw [z, efd] at e; exact e
      · rw [upd_ne z]; exact s17 _ _ (by rw [upd_ne z]; exact e)
    have nDf : D ≠ fd := fun z => by rw [z, upd_same] at hD; cases hD
    have nfdT : NT H17 fd := ⟨fun xs z => (by rw [efz] at z; cases z), fun c xs z => (by rw [efz] at z; cases z)⟩
    have hDn : H16 D = none := by rw [upd_ne nDf] at hD; exact hD
    rw [show (dct w).length = w.length by unfold dct; rw [List.length_map], List.take_length] at hp
    obtain ⟨qs, rfl⟩ := all_refs us (fun u hu => by
      obtain ⟨j, hj⟩ := List.getElem?_of_mem hu
      obtain ⟨b, _, q, g, _⟩ := paired_get hp j u hj
      exact ⟨q, g⟩)
    have eD2 : upd H17 fd (.dK (dct w)) D = some (.lst (qs.map V.ref)) := by rw [upd_ne nDf]; exact eD
    have pq : Paired (fun p (kv : Key × V) => SqT K (upd H17 fd (.dK (dct w))) p [kV kv.1, kv.2]) qs (dct (fdel e0.nm w)) := by
      refine prd_mk (by
        have := paired_len hp
        rw [List.length_map] at this
        rw [this]
        unfold dct
        rw [List.length_map]
        rfl) fun j q kv h1 h2 => ?_
      unfold dct at h2
      rw [List.getElem?_map] at h2
      obtain ⟨x, hx, rfl⟩ := Option.map_eq_some_iff.mp h2
      obtain ⟨b, hb, q2, g1, g2⟩ := paired_get hp j (.ref q) (by rw [List.getElem?_map, h1]; rfl)
      cases g1
      have eb : b = x := by
        have hx : ((w.filter fun x => decide (x.1 ≠ e0.nm)))[j]? = some x := hx
        rw [hb] at hx
        exact Option.some.inj hx
      rw [eb] at g2
      exact seq_updN nfdT (same_tup hid_sub g2)
    walk_at "go"
    refine ⟨D, qs, _, rfl, SqL.of eD2, pq, fun rd hrd => ?_⟩
    have nde : ((fdel e0.nm w).map (·.1)).Nodup := by rw [del_names]; exact nw.filter _
    rw [show mergeK [] (dct (fdel e0.nm w)) = dct (fdel e0.nm w) from merge_dct (acc := []) (by rw [List.nil_append]; exact nde)]
    have sRd := sR.trans (same_new (o := .dK (dct (fdel e0.nm w))) hrd)
    have erd := upd_same (H := upd H17 fd (.dK (dct w))) (a := rd) (o := .dK (dct (fdel e0.nm w)))
    have nrd : rd ≠ st := d16.ne (sR.free hrd)
    generalize upd (upd H17 fd (.dK (dct w))) rd (.dK (dct (fdel e0.nm w))) = Hc at sRd erd
    have dC := d16.same sRd
    have kC := k516.trans (Kp.of sRd)
    have edlC := sRd _ _ edl
    have eolC := sRd _ _ eol
    have qC : Fls (hid [fd, st] Hc) w fl := fls_same q16 (hid_same sRd)
    have aC : Ats K (hid [st] Hc) oq S1.at_ := ats_same hat (hid_same sRd)
    have hSC := hS16.same (hid_same sRd)
    have ecC := kC _ _ ncs ec5
    have hEC := hE5.same (kp_same kC)
    clear hS16 hE16 hE17 efd q16 edl hat eol sfz hD s17 eD hp efz sR nDf nfdT hDn eD2 pq
    walk_at "go"
    rename_i q hq
    have sq := same_new (o := .lst []) hq
    have nq : q ≠ st := dC.ne hq
    have eq0 := upd_same (H := Hc) (a := q) (o := .lst [])
    have kq := Kp.of (st := st) sq
    have dq := dC.same sq
    have qF2 : q ∉ F2 := hSC.new hq
    generalize upd Hc q (.lst []) = H20 at sq eq0 kq dq
    have hS20 : Sto K (hid [st, q] H20) F2 a S1 := hSC.same fun b o e => by
      obtain ⟨n, e⟩ := hid_some e
      rw [hid_at (by
        simp only [List.mem_cons, List.not_mem_nil, or_false, not_or] at n ⊢
        exact ⟨n, fun z => by rw [z, hq] at e; cases e⟩)]
      exact sq _ _ e
    have alG : ∀ {G : Hp} {xs : List V}, Dr K st sc ns G → G q = some (.lst xs) → Al [st, q] G := fun d e b m => by
      simp only [List.mem_cons, List.not_mem_nil, or_false] at m
      rcases m with rfl | rfl
      · obtain ⟨x, y, _, _, e⟩ := d.s
        exact ⟨⟨_, e⟩, nt_lst e⟩
      · exact ⟨⟨_, e⟩, nt_lst e⟩
    obtain ⟨due, edue⟩ : ∃ due, due = Dk S1 e0.bl (keptS S1 e0.nm e0.bl) := ⟨_, rfl⟩
    have ndue : due.Nodup := by rw [edue]; exact need_nodup
    have ldue : due.length ≤ 1000 := by
      rw [edue]
      have := Dk_len (S := S1) (bl := e0.bl) (c := 0) (l := e0.bl.drop (keptS S1 e0.nm e0.bl)) (pre := e0.bl.take (keptS S1 e0.nm e0.bl))
      rw [List.length_drop] at this
      unfold Dk
      omega
    rw [← edue] at edlC
    refine for_rng (fun i σ H => ∃ (v5 : Option V) (a F : _) (S : S0) (asked : List Int) (cuts : Nat) (done : Bool) (v13 : Option V), σ = [some (.ref sc), some (.ref st), some (.ref c0), some (.ref ea), some (.ref fd), v5, some (.ref a), some (.ref dl), some (.ref ol), some (.ref rd), some (.ref q), some (.int cuts), some (.str (if done = true then "done" else "cut")), v13, none, none, none] ∧ Kp st Hc H ∧ Dr K st sc ns H ∧ H q = some (.lst (asked.map V.int)) ∧ Sto K (hid [st, q] H) F a S ∧ S.at_ = al ∧ cuts ≤ i ∧
      (done = false → S.fl.Perm fl ∧ Tp1 e0.nm S ∧ Pd due (Dk S e0.bl (keptS S e0.nm e0.bl)) asked cuts ∧ i < 6) ∧ (done = true → ∃ fl', fl'.Perm fl ∧ S.fl = fput e0.nm (e0.bl.flatMap bbytes, e0.tm) fl' ∧ S.tp = [] ∧ Pd due [] asked cuts))
      ⟨_, a, F2, S1, [], 0, false, none, rfl, kq, dq, eq0, hS20, at1, Nat.le_refl _, fun _ => ⟨by rw [fl1], tp14, by rw [← edue]; exact Pd.start ndue, by decide⟩, fun z => nomatch z⟩ (fun i σ H21 hi iv => ?_) (fun σ H21 iv => ?_)
    · obtain ⟨v5, a, F, S, asked, cuts, done, v13, rfl, k21, d21, e21, hS21, hat, hcu, hf, ht⟩ := iv
      cases done with
      | true =>
        obtain ⟨fl', g⟩ := ht rfl
        walk_at "go"
        refine i_d (fun z => absurd z (by decide)) (fun _ => ?_)
        walk_at "go"
        exact ⟨_, a, F, S, asked, cuts, true, _, rfl, k21, d21, e21, hS21, hat, by omega, ⟨fun z => Bool.noConfusion z, fun _ => ⟨fl', g⟩⟩⟩
      | false =>
        obtain ⟨hpf, tp1, hpd, hi6⟩ := hf rfl
        have hS21' := hS21.sub
        have lfl : S.fl.length ≤ 3 := by rw [hpf.length_eq]; exact l5
        have lat : S.at_.length ≤ 100 := by rw [hat, ← at1]; exact sm.a
        have ltp := tp1.len.1
        have al21 := alG d21 e21
        walk_at "go"
        refine i_d (fun _ => ?_) (fun z => absurd rfl z)
        walk_at "go"
        refine ⟨_, rfl, a, F, S, rfl, hS21', by omega, by omega, by omega, fun r H22 s22 hDu => ?_⟩
        have al22 := al21.same s22
        walk_at "go"
        refine ⟨_, rfl, r, [st, q], S, rfl, al22, hDu, hS21'.names, hS21'.tnames, by omega, by omega, by omega, fun a2 F2' H23 S2 s23 hF2' ag hS23 => ?_⟩
        have s223 := s22.trans s23
        have k23 := k21.trans (Kp.of s223)
        have d23 := d21.same s223
        have e23 := s223 _ _ e21
        have hFc : ∀ b ∈ F2', Hc b = none := fun b m => dr_free d21 k21 (s22.free (hF2' b m))
        have tpe := tp1.perm ag.tp
        have hDk := again_Dk ag.fl ag.at_ tpe e0.nm e0.bl
        have pf2 := ag.fl.trans hpf
        have at2 := ag.at_.trans hat
        have tp2 : Tp1 e0.nm S2 := by
          obtain ⟨o, g1, g2⟩ := tp1
          exact ⟨o, tpe.trans g1, g2⟩
        rw [← hDk] at hpd
        clear hDk tpe hS21 hS21' hDu al21 al22 ltp lat lfl
        have bd2 := ag.bd
        clear ag
        walk_at "go"
        refine e_cut (Mid := fun σ H => σ = [some (.ref sc), some (.ref st), some (.ref c0), some (.ref ea), some (.ref fd), v5, some (.ref a2), some (.ref dl), some (.ref ol), some (.ref rd), some (.ref q), some (.int cuts), some (.str "cut"), some (.int (0 + (i : Int))), none, none, none] ∧ Kp st Hc H ∧ Dr K st sc ns H ∧ H q = some (.lst (asked.map V.int)) ∧ ∃ o, Sto K (hid [st, q] H) F2' a2 { S2 with bd := o } ∧ (i = 5 → o = none)) ?_ (fun σ H24 iv => ?_)
        · walk_at "go"
          refine i_d (fun lt => ?_) (fun ge => ?_)
          · walk_at "go"
            intro b1 H24 ab1 bb1 k24 d24
            walk_at "go"
            rename_i pl hpl
            have s25 := same_new (o := .lst [.non, .int b1]) hpl
            have d25 := d24.same s25
            have npl := d24.ne hpl
            intro b2 H26 ab2 bb2 k26 d26
            have k2326 := (k24.trans (Kp.of s25)).trans k26
            have e26 := k2326 _ _ nq e23
            have hS26 : Sto K (hid [st, q] H26) F2' a2 S2 := hS23.same (hid_fr ((kp_fr k2326).mono fun b mb => by rw [List.mem_singleton.mp mb]; exact List.mem_cons_self ..))
            obtain ⟨n1, rfl⟩ : ∃ n1 : Nat, b1 = (n1 : Int) := ⟨b1.toNat, by omega⟩
            obtain ⟨o, ho⟩ : ∃ o, atI [V.non, V.int (n1 : Nat)] b2 = some (bdV o) := by
              rcases (by omega : b2 = 0 ∨ b2 = 1) with rfl | rfl
              · exact ⟨none, rfl⟩
              · exact ⟨some n1, rfl⟩
            refine e_ixL (SqL.of (k26 _ _ npl upd_same)) ho ?_
            walk_at "go"
            refine ⟨_, _, rfl, a2, F2', [st, q], S2, o, rfl, rfl, alG d26 e26, hS26, fun H27 f27 hS27 => ?_⟩
            have na2 : ∀ b ∈ [a2], Hc b = none := fun b m => by
              rw [List.mem_singleton.mp m]
              exact hFc _ hS23.self
            obtain ⟨k27, d27⟩ := drFr dC (k23.trans k2326) d26 f27 na2
            have nqa : q ∉ [a2] := fun m => hS26.notin (d := q) (by simp) (by rw [List.mem_singleton.mp m]; exact hS23.self)
            exact ⟨rfl, k27, d27, f27 _ _ nqa e26, o, hS27, fun z => by omega⟩
          · walk_at "go"
            exact ⟨rfl, k23, d23, e23, none, by rw [← bd2]; exact hS23, fun _ => rfl⟩
        · obtain ⟨rfl, k24, d24, e24, o, hS24, ho⟩ := iv
          have al24 := alG d24 e24
          obtain ⟨S3, eS3⟩ : ∃ S3 : S0, S3 = { S2 with bd := o } := ⟨_, rfl⟩
          have pf3 : S3.fl.Perm fl := by rw [eS3]; exact pf2
          have at3 : S3.at_ = al := by rw [eS3]; exact at2
          have tp3 : Tp1 e0.nm S3 := by rw [eS3]; exact tp2
          have hpd3 : Pd due (Dk S3 e0.bl (keptS S3 e0.nm e0.bl)) asked cuts := by rw [eS3]; exact hpd
          have bd3 : i = 5 → S3.bd = none := by rw [eS3]; exact ho
          rw [← eS3] at hS24
          clear eS3 hpd tp2 at2 pf2 bd2 ho
          have sm3 : Smal S3 e0.bl := ⟨by rw [pf3.length_eq]; omega, fun r hr => m5 r (pf3.mem_iff.mp hr), by rw [at3, ← at1]; exact sm.a, by rw [at3, ← at1]; exact sm.al, sm.b, sm.bb, fun r hr => Nat.le_trans (tp3.len.2 r hr) (by decide)⟩
          have hE24 : Ent K (hid F2' (hid [st, q] H24)) false ea e0 := hEC.same fun b o e => by
            obtain ⟨n, e⟩ := hid_some e
            have nb : b ≠ st := fun z => n (List.mem_singleton.mpr z)
            rw [hid_at (fun m => by rw [hFc b m] at e; cases e), hid_at (by
              simp only [List.mem_cons, List.not_mem_nil, or_false, not_or]
              exact ⟨nb, fun z => by rw [z, hq] at e; cases e⟩)]
            exact k24 b o nb e
          have hn0 : ∀ b ∈ q :: F2', Hc b = none := fun b m => by
            rcases List.mem_cons.mp m with rfl | m
            · exact hq
            · exact hFc b m
          have las : asked.length ≤ 2000 := by
            have := hpd3.2.2
            omega
          walk_at "go"
          refine ⟨_, _, _, _, _, rfl, st, sc, a2, ea, q, ns, due, asked, F2', [st, q], S3, e0, cuts, Hc, rfl, rfl, rfl, rfl, rfl, al24, by simp, by simp, Ne.symm nq, hS24, hE24, sm3, tp3, pc, dC, k24, hn0, d24, e24, las, ldue, by omega, hpd3, fun F4 H4 S4 as2 hbd _ _ hS4 wk4 tp4 k4 d4 e4 pd4 => ?_, fun F4 H4 S4 as2 _ _ hS4 fl4 t4 at4 k4 d4 e4 pd4 => ?_⟩
          · walk_at "go"
            refine .inr ⟨_, rfl, ?_⟩
            walk_at "go"
            refine ⟨v5, a2, F4, S4, as2, cuts + 1, false, some (.int (0 + (i : Int))), ?_, k4, d4, e4, hS4, wk4.at_.trans at3, by omega, ⟨fun _ => ⟨by rw [wk4.fl]; exact pf3, tp4, by rw [wk4.Dk]; exact pd4, ?_⟩, fun z => Bool.noConfusion z⟩⟩
            · rw [if_pos (decide_eq_true rfl)]
              rfl
            · have : i ≠ 5 := fun z => hbd (bd3 z)
              omega
          · walk_at "go"
            refine .inr ⟨_, rfl, ?_⟩
            walk_at "go"
            refine ⟨v5, a2, F4, S4, as2, cuts, true, some (.int (0 + (i : Int))), ?_, k4, d4, e4, hS4, at4.trans at3, by omega, ⟨fun z => Bool.noConfusion z, fun _ => ⟨S3.fl, pf3, fl4, t4, pd4⟩⟩⟩
            rw [if_neg (by decide), Int.add_zero]
            rfl
    · obtain ⟨v5, a, F, S, asked, cuts, done, v13, rfl, k21, d21, e21, hS21, hat, hcu, hf, ht⟩ := iv
      cases done with
      | false => exact absurd (hf rfl).2.2.2 (by decide)
      | true =>
      obtain ⟨fl', pf, efl, etp, hpd⟩ := ht rfl
      have hS21' := hS21.sub
      have hE21 : Ent K H21 false ea e0 := (hEC.same (kp_same k21)).same hid_sub
      have nf' : (fl'.map (·.1)).Nodup := (pf.map (·.1)).nodup_iff.mpr n5
      have ec21 := k21 _ _ ncs ecC
      have ebl : e0.bl.flatMap bbytes = ct := by rw [hb0, flat_bb _ hct, hcf]
      have edl21 := k21 _ _ ndl edlC
      have eol21 := k21 _ _ nol eolC
      have erd21 := k21 _ _ nrd erd
      have a21 : Ats K (hid [st] H21) oq S1.at_ := ats_same aC (kp_same k21)
      have q21 : Fls (hid [fd, st] H21) w fl := fls_same qC (hid_fr ((kp_fr k21).mono fun b mb => by rw [List.mem_singleton.mp mb]; simp))
      rw [ebl, htm] at efl
      clear hSC hEC hE5 hct aC qC edlC eolC erd ecC hf ht hS20 eq0 k57 kq sq q5 e5 sm tp14 ec5
      walk_at "go"
      refine i_nd (fun z => absurd rfl z) (fun _ => ?_)
      walk_at "go"
      have hl1 : lk e0.nm S.fl = some (ct, 30) := by rw [efl]; exact lk_put_self nf'
      refine ⟨_, _, rfl, a, F, S, e0.nm, rfl, rfl, hS21', fun z => (by rw [hl1] at z; cases z), fun r9 hr9 t9 l9 H22 _ _ s22 et9 el9 => ?_⟩
      rw [hl1] at hr9
      cases hr9
      walk_at "go"
      rename_i u9 hu9
      have s23 := same_new (o := .tup [.ref c0, .int 30]) hu9
      refine e_neSelf (d := filD (ct, 30)) (dp_filA ⟨l9, s23 _ _ et9, s23 _ _ el9⟩) (dp_filA ⟨c0, upd_same, s23 _ _ (s22 _ _ ec21)⟩) (filD_ok _).1 (filD_ok _).2 ?_
      have s2 := s22.trans s23
      have hS23 := hS21'.same s2
      have hE23 := hE21.same s2
      walk_at "go"
      refine ⟨_, _, rfl, a, F, S, e0.nm, rfl, rfl, hS23, fun _ => ?_, fun bs hb => (by rw [etp] at hb; cases hb)⟩
      walk_at "go"
      refine ⟨rfl, ?_⟩
      walk_at "go"
      refine i_neself ?_
      have lfl : S.fl.length ≤ 4 := by
        rw [efl]
        refine Nat.le_trans (fput_len ..) ?_
        rw [pf.length_eq]; omega
      walk_at "go"
      refine ⟨_, rfl, a, F, S, rfl, hS23, by omega, fun pn H24 ys hpn s24 e24 hpy hsy => ?_⟩
      have s3 := s2.trans s24
      have hS24 := hS21'.same s3
      have hE24 := hE21.same s3
      walk_at "go"
      intro D2 hD2
      have lys : ys.length ≤ 4 := by rw [hpy.length_eq, List.length_map]; exact lfl
      refine lc_relF (β := Str) (walk_list (K := K) (xs := ys.map V.str)) hD2 (by rw [List.length_map]; omega) (fun H s => s.seq (SqL.of e24)) (fun i => (ys.take i).filter fun y => decide (y ≠ e0.nm)) rfl (fun i hi => Nat.le_trans (List.length_filter_le ..) (by rw [List.length_take]; omega)) (fun y v H => ∃ q t r, v = .ref q ∧ SqT K H q [.str y, .ref t] ∧ FilA H t r ∧ lk y S.fl = some r) (fun y v H H' h s => let ⟨q, t, r, h1, h2, h3, h4⟩ := h; ⟨q, t, r, h1, same_tup s h2, h3.same s, h4⟩) (fun i x H1 H2 C E acc hi s1 eD y yes no => ?_) (fun H25 us s25 eD hp => ?_)
      · obtain ⟨rfl, hx⟩ := y
        rw [List.getElem?_map] at hx
        obtain ⟨y, hy, rfl⟩ := Option.map_eq_some_iff.mp hx
        obtain ⟨r, hr, _⟩ := lk_mem (hpy.mem_iff.mp (List.mem_of_getElem? hy))
        have hM := filt_take (p := fun y => decide (y ≠ e0.nm)) hy
        have hE1 := hE24.same s1
        have hS1 := hS24.same s1
        walk_at "go"
        refine i_nd (fun ne => ?_) (fun eq => ?_)
        · have ne2 : y ≠ e0.nm := fun z => ne (by rw [z])
          rw [if_pos (decide_eq_true ne2)] at hM
          walk_at "go"
          refine ⟨_, _, rfl, a, F, S, y, rfl, rfl, hS1, fun z => (by rw [hr] at z; cases z), fun r8 hr8 t8 l8 H3 hl8 ht8 s8 et8 el8 => ?_⟩
          rw [hr] at hr8
          cases hr8
          walk_at "go"
          rename_i T hT
          have sT := same_new (o := .tup [.str y, .ref t8]) hT
          have nTD : T ≠ D2 := fun z => by rw [z, s8 _ _ eD] at hT; cases hT
          have ntD : t8 ≠ D2 := fun z => by rw [z, eD] at ht8; cases ht8
          have nlD : l8 ≠ D2 := fun z => by rw [z, eD] at hl8; cases hl8
          exact yes y _ _ hM (s8.trans sT) ⟨T, t8, r, rfl, SqT.of (by rw [hid_at (by simp [nTD]), upd_same]), ⟨l8, by rw [hid_at (by simp [ntD])]; exact sT _ _ et8, by rw [hid_at (by simp [nlD])]; exact sT _ _ el8⟩, hr⟩
        · have eq2 : y = e0.nm := eq
          rw [if_neg (by simp [eq2]), List.append_nil] at hM
          exact no _ hM (Same.refl _)
      rw [List.length_map, List.take_length] at hp
      obtain ⟨qs, w2, rfl, hq2, hw2, hr2⟩ := rel_pairs (paired_imp (fun _ _ h => let ⟨q, t, r, h1, h2, h3, h4⟩ := h; ⟨q, t, r, h1, same_tup hid_sub h2, h3.same hid_sub, h4⟩) hp)
      have s4 := s3.trans s25
      have nys : ys.Nodup := (hpy.nodup_iff).mpr hS21'.names
      have nw2 : (w2.map (·.1)).Nodup := by rw [hw2]; exact nys.filter _
      have pw2 : (w2.map (·.1)).Perm ((fdel e0.nm w).map (·.1)) := by
        rw [hw2, del_names]
        have p1 := (hpy.trans (by rw [efl])).filter fun y => decide (y ≠ e0.nm)
        rw [put_names] at p1
        refine p1.trans ?_
        have p2 := (pf.map (·.1)).filter fun y => decide (y ≠ e0.nm)
        rw [prd_fst (R := FilA _) q21]
        exact p2
      walk_at "go"
      refine ⟨D2, qs, _, rfl, SqL.of eD, hq2, fun rd2 hrd2 => ?_⟩
      rw [show mergeK [] (dct w2) = dct w2 from merge_dct (acc := []) (by rw [List.nil_append]; exact nw2)]
      have s5 := s4.trans (same_new (o := .dK (dct w2)) hrd2)
      have s55 := same_new (o := .dK (dct w2)) hrd2
      have q26 := (del_dct (nm := e0.nm) (fls_same (fls_same q21 hid_sub) s5)).2
      walk_at "go"
      refine ⟨rd2, rd, _, _, rfl, rfl, upd_same, s5 _ _ erd21, ?_, fun p hp => ?_, ?_⟩
      · have := pw2.length_eq
        rw [List.length_map, List.length_map] at this
        unfold dct
        rw [List.length_map, List.length_map, this]
      · obtain ⟨x, hx, rfl⟩ := List.mem_map.mp hp
        obtain ⟨r, h1, h2⟩ := hr2 x hx
        have hne : x.1 ≠ e0.nm := by
          have : x.1 ∈ ys.filter fun y => decide (y ≠ e0.nm) := by rw [← hw2]; exact List.mem_map.mpr ⟨x, hx, rfl⟩
          exact of_decide_eq_true (List.mem_filter.mp this).2
        have h3 : lk x.1 (fdel e0.nm fl) = some r := by
          rw [lk_del_ne hne, ← lk_perm pf nf', ← h2, efl, lk_put_ne hne]
        rcases val_dct (R := FilA _) x.1 q26 with ⟨_, g2⟩ | ⟨q2, r2, g1, g2, g3, _⟩
        · rw [h3] at g2; cases g2
        · rw [h3] at g2
          cases g2
          exact ⟨_, filD r, g1, dp_filA (h1.same s55), dp_filA g3, filD_alike r, (filD_ok r).2, eqv_self _ (filD_ok r).1⟩
      have hS26 := hS21'.same s5
      walk_at "go"
      refine ⟨_, rfl, a, F, S, rfl, hS26, (by rw [hat]; omega), fun ol2 oq2 H27 hol2 s27 eol2 hat2 _ => ?_⟩
      have s6 := s5.trans s27
      rw [hat] at hat2
      walk_at "go"
      refine e_neAts (SqL.of eol2) (SqL.of (s6 _ _ eol21)) hat2 (ats_same (ats_same (by rw [at1] at a21; exact a21) hid_sub) s6) ?_
      walk_at "go"
      rename_i oc hoc
      have s7 := s6.trans (same_new (o := .lst []) hoc)
      have edl7 := s7 _ _ edl21
      have eq7 := s7 _ _ e21
      have eoc := upd_same (H := H27) (a := oc) (o := .lst [])
      have noq : q ≠ oc := fun z => by rw [← z, s6 _ _ e21] at hoc; cases hoc
      have nod : dl ≠ oc := fun z => by rw [← z, s6 _ _ edl21] at hoc; cases hoc
      generalize upd H27 oc (.lst []) = H28 at eq7 edl7 eoc
      have las : asked.length ≤ 2000 := by
        have := hpd.2.2
        simp only [List.length_nil, Nat.add_zero] at this
        omega
      walk_at "go"
      refine for_ints (ns := asked) (fun pre σ H => (∃ v15, σ = [some (.ref sc), some (.ref st), some (.ref c0), some (.ref ea), some (.ref fd), v5, some (.ref a), some (.ref dl), some (.ref ol), some (.ref rd), some (.ref q), some (.int cuts), some (.str "done"), v13, some (.ref oc), v15, none]) ∧ Fr [oc] H28 H ∧ H oc = some (.lst ((dd pre).map V.int)) ∧ (dd pre).length ≤ pre.length) ⟨⟨_, rfl⟩, Fr.refl _ _, eoc, Nat.le_refl _⟩ (fun pre σ H p => SqL.of (p.2.1 _ _ (fun m => noq (List.mem_singleton.mp m)) eq7)) (fun pre x post σ H e0' p => ?_) (fun σ H p => ?_)
      · obtain ⟨⟨v15, rfl⟩, f1, eo, lo⟩ := p
        have lp : pre.length ≤ 2000 := by
          have := congrArg List.length e0'
          rw [List.length_append] at this
          omega
        have hdd := dd_snoc pre x
        walk_at "go"
        refine e_ninL (SqL.of eo) ?_
        walk_at "go"
        refine i_nd (fun n => ?_) (fun y => ?_)
        · rw [if_neg n] at hdd
          walk_at "go"
          refine ⟨oc, _, _, rfl, rfl, eo, ?_, ⟨_, rfl⟩, f1.put (List.mem_cons_self ..), ?_, ?_⟩
          · rw [List.length_map]
            exact Nat.lt_of_le_of_lt (by omega : _ ≤ 2000) (by decide)
          · rw [upd_same, hdd, List.map_append]; rfl
          · rw [hdd]; simp only [List.length_append, List.length_singleton]; omega
        · rw [if_pos y] at hdd
          walk_at "go"
          exact ⟨⟨_, rfl⟩, f1, by rw [hdd]; exact eo, by rw [hdd, List.length_append]; omega⟩
      obtain ⟨⟨v15, rfl⟩, f1, eo, lo⟩ := p
      have edd : dd asked = due := by
        obtain ⟨_, ⟨P, g1, g2 | ⟨x, R, g2, _⟩⟩, _⟩ := hpd
        · rw [g2, g1, List.append_nil]
        · cases g2
      have lle : asked.length ≤ due.length + cuts := hpd.2.2
      rw [edd] at eo
      have edl8 := f1 _ _ (fun m => nod (List.mem_singleton.mp m)) edl7
      have eq8 := f1 _ _ (fun m => noq (List.mem_singleton.mp m)) eq7
      walk_at "go"
      refine e_eqPL (SqL.of eo) (SqL.of edl8) ?_
      walk_at "go"
      refine i_self ?_
      walk_at "go"
      rw [List.length_map, List.length_map, decide_eq_true (by omega)]
      exact k H
end
theorem facts {P : Program} {w : World} {K : PySem.W.Frag} {h : Heap} {mg : Str → Option Value} {f : Addr} (X : K.In h) (G : h.Ns mainGlobals mg) (hfa : mg ("law" : Str) = some (.ref f)) (cc : SaysX fa fn ex K) :
    ∃ fd : FuncData, (∀ (s : Shared) (v : Value), BindsTo s fd ⟨[v], []⟩ [("script", v)]) ∧ ∀ base : Heap, K.In base → base.Ns mainGlobals mg → FnOk P w K mg base CX0 8 f fd ["script"] (sp_law K) := by
  have c : He.SaysD fa fn K := cc.1
  have k_BLOCK : ∃ u, mg "BLOCK" = some u ∧ RelV (.int 4) u := by
    obtain ⟨t, e⟩ := He.int_ok X G (c.fact 33 (f := .int "BLOCK" 4) rfl)
    exact ⟨_, e, t, rfl⟩
  obtain ⟨fi_PowerCut, Fi_PowerCut⟩ := c.def_ 39 (d := d_init_FolderkinError) rfl
  have er_PowerCut : ErrAll K mg "PowerCut" "FolderkinError" := errAll_ok X G (c.fact 19 (f := .glo "PowerCut") rfl) (c.fact 20 (f := .glo "FolderkinError") rfl) (cc.more 0 rfl) (by exact Fi_PowerCut)
  have T : Txt K mg := ⟨He.free_ok X G (c.fact 24 (f := .free "dict") rfl), He.free_ok X G (c.fact 25 (f := .free "enumerate") rfl), He.free_ok X G (c.fact 26 (f := .free "int") rfl), He.free_ok X G (c.fact 27 (f := .free "len") rfl), He.free_ok X G (c.fact 28 (f := .free "list") rfl), He.free_ok X G (c.fact 29 (f := .free "range") rfl), He.free_ok X G (c.fact 30 (f := .free "reversed") rfl), He.free_ok X G (c.fact 31 (f := .free "sorted") rfl), He.free_ok X G (c.fact 32 (f := .free "tuple") rfl), k_BLOCK, er_PowerCut, He.cls_ok (c.fact 51 (f := .cls "Entry") rfl), He.glo_ok X G (c.fact 21 (f := .glo "Entry") rfl), He.noat_ok (c.fact 52 (f := .noat "Entry" "name") rfl), He.noat_ok (c.fact 53 (f := .noat "Entry" "vector") rfl), He.noat_ok (c.fact 54 (f := .noat "Entry" "height") rfl), He.noat_ok (c.fact 55 (f := .noat "Entry" "maker") rfl), He.noat_ok (c.fact 56 (f := .noat "Entry" "deleted") rfl), He.noat_ok (c.fact 57 (f := .noat "Entry" "time") rfl), He.noat_ok (c.fact 58 (f := .noat "Entry" "blocks") rfl), He.cls_ok (c.fact 60 (f := .cls "Store") rfl), He.glo_ok X G (c.fact 22 (f := .glo "Store") rfl), He.noat_ok (c.fact 61 (f := .noat "Store" "_files") rfl), He.noat_ok (c.fact 62 (f := .noat "Store" "_temps") rfl), He.noat_ok (c.fact 63 (f := .noat "Store" "_attic") rfl), He.noat_ok (c.fact 64 (f := .noat "Store" "_log") rfl), He.noat_ok (c.fact 65 (f := .noat "Store" "_new_log") rfl), He.noat_ok (c.fact 66 (f := .noat "Store" "_budget") rfl), He.noat_ok (c.fact 67 (f := .noat "Store" "_done") rfl), He.cls_ok (c.fact 69 (f := .cls "Pull") rfl), He.glo_ok X G (c.fact 23 (f := .glo "Pull") rfl), He.noat_ok (c.fact 70 (f := .noat "Pull" "_store") rfl), He.noat_ok (c.fact 71 (f := .noat "Pull" "_entry") rfl)⟩
  obtain ⟨fd_block_number, F_block_number⟩ := c.def_ 0 (d := d_block_number) rfl
  have c_block_number : ∀ base : Heap, Cal P w K mg base 1 "block_number" (sp_block_number K) := fun base => ⟨_, _, ["data"], ok_block_number T  F_block_number, He.glo_ok X G (c.fact 0 (f := .glo "block_number") rfl), F_block_number.kp, FunD.bindsN F_block_number fun _ _ _ _ _ _ us hl => match us, hl with | [_], _ => rfl⟩
  obtain ⟨fd_block_size, F_block_size⟩ := c.def_ 1 (d := d_block_size) rfl
  have c_block_size : ∀ base : Heap, Cal P w K mg base 1 "block_size" (sp_block_size K) := fun base => ⟨_, _, ["number"], ok_block_size T  F_block_size, He.glo_ok X G (c.fact 1 (f := .glo "block_size") rfl), F_block_size.kp, FunD.bindsN F_block_size fun _ _ _ _ _ _ us hl => match us, hl with | [_], _ => rfl⟩
  obtain ⟨fd_Entry___init__, F_Entry___init__⟩ := c.def_ 16 (d := d_Entry___init__) rfl
  have M_Entry := He.mkr_ok (c.fact 59 (f := .mkr "Entry") rfl)
  have c_Entry : ∀ base : Heap, C8.Mak P w K mg base 1 "Entry" (He.ga K "Entry") (sp_Entry___init__ K) [] := fun base => ⟨_, _, _, [], M_Entry, ok_Entry___init__ T  F_Entry___init__, He.glo_ok X G (c.fact 21 (f := .glo "Entry") rfl), FunD.bindsN F_Entry___init__ fun _ _ _ _ _ _ us hl => match us, hl with | [_, _, _, _, _, _, _, _], _ => rfl, .nil⟩
  obtain ⟨fd_Store___init__, F_Store___init__⟩ := c.def_ 17 (d := d_Store___init__) rfl
  have M_Store := He.mkr_ok (c.fact 68 (f := .mkr "Store") rfl)
  have c_Store : ∀ base : Heap, C8.Mak P w K mg base 1 "Store" (He.ga K "Store") (sp_Store___init__ K) [] := fun base => ⟨_, _, _, [], M_Store, ok_Store___init__ T  F_Store___init__, He.glo_ok X G (c.fact 22 (f := .glo "Store") rfl), FunD.bindsN F_Store___init__ fun _ _ _ _ _ _ us hl => match us, hl with | [_, _, _], _ => rfl, .nil⟩
  obtain ⟨fd_Store_set_budget, F_Store_set_budget⟩ := c.def_ 18 (d := d_Store_set_budget) rfl
  have m_Store_set_budget : ∀ base : Heap, C8.Met P w K mg base 1 (He.ga K "Store") "set_budget" (sp_Store_set_budget K) [] := fun base => ⟨_, _, ["self", "count"], [], He.cls_ok (c.fact 60 (f := .cls "Store") rfl), He.meth_ok (c.fact 39 (f := .meth "Store" "set_budget") rfl), ok_Store_set_budget T  F_Store_set_budget, FunD.bindsN F_Store_set_budget fun _ _ _ _ _ _ us hl => match us, hl with | [_, _], _ => rfl, .nil⟩
  obtain ⟨fd_Store_names, F_Store_names⟩ := c.def_ 20 (d := d_Store_names) rfl
  have m_Store_names : ∀ base : Heap, C8.Met P w K mg base 1 (He.ga K "Store") "names" (sp_Store_names K) [] := fun base => ⟨_, _, ["self"], [], He.cls_ok (c.fact 60 (f := .cls "Store") rfl), He.meth_ok (c.fact 41 (f := .meth "Store" "names") rfl), ok_Store_names T  F_Store_names, FunD.bindsN F_Store_names fun _ _ _ _ _ _ us hl => match us, hl with | [_], _ => rfl, .nil⟩
  obtain ⟨fd_Store_read, F_Store_read⟩ := c.def_ 21 (d := d_Store_read) rfl
  have m_Store_read : ∀ base : Heap, C8.Met P w K mg base 1 (He.ga K "Store") "read" (sp_Store_read K) [] := fun base => ⟨_, _, ["self", "name"], [], He.cls_ok (c.fact 60 (f := .cls "Store") rfl), He.meth_ok (c.fact 42 (f := .meth "Store" "read") rfl), ok_Store_read T  F_Store_read, FunD.bindsN F_Store_read fun _ _ _ _ _ _ us hl => match us, hl with | [_, _], _ => rfl, .nil⟩
  obtain ⟨fd_Store_temp, F_Store_temp⟩ := c.def_ 22 (d := d_Store_temp) rfl
  have m_Store_temp : ∀ base : Heap, C8.Met P w K mg base 1 (He.ga K "Store") "temp" (sp_Store_temp K) [] := fun base => ⟨_, _, ["self", "name"], [], He.cls_ok (c.fact 60 (f := .cls "Store") rfl), He.meth_ok (c.fact 43 (f := .meth "Store" "temp") rfl), ok_Store_temp T  F_Store_temp, FunD.bindsN F_Store_temp fun _ _ _ _ _ _ us hl => match us, hl with | [_, _], _ => rfl, .nil⟩
  obtain ⟨fd_Store_attic, F_Store_attic⟩ := c.def_ 26 (d := d_Store_attic) rfl
  have m_Store_attic : ∀ base : Heap, C8.Met P w K mg base 1 (He.ga K "Store") "attic" (sp_Store_attic K) [] := fun base => ⟨_, _, ["self"], [], He.cls_ok (c.fact 60 (f := .cls "Store") rfl), He.meth_ok (c.fact 47 (f := .meth "Store" "attic") rfl), ok_Store_attic T  F_Store_attic, FunD.bindsN F_Store_attic fun _ _ _ _ _ _ us hl => match us, hl with | [_], _ => rfl, .nil⟩
  obtain ⟨fd_Store_durable, F_Store_durable⟩ := c.def_ 28 (d := d_Store_durable) rfl
  have m_Store_durable : ∀ base : Heap, C8.Met P w K mg base 1 (He.ga K "Store") "durable" (sp_Store_durable K) [] := fun base => ⟨_, _, ["self"], [], He.cls_ok (c.fact 60 (f := .cls "Store") rfl), He.meth_ok (c.fact 49 (f := .meth "Store" "durable") rfl), ok_Store_durable T  F_Store_durable, FunD.bindsN F_Store_durable fun _ _ _ _ _ _ us hl => match us, hl with | [_], _ => rfl, .nil⟩
  obtain ⟨fd_Store__keep, F_Store__keep⟩ := c.def_ 29 (d := d_Store__keep) rfl
  have m_Store__keep : ∀ base : Heap, C8.Met P w K mg base 1 (He.ga K "Store") "_keep" (sp_Store__keep K) [] := fun base => ⟨_, _, ["self", "temps", "attic", "new_log"], [], He.cls_ok (c.fact 60 (f := .cls "Store") rfl), He.meth_ok (c.fact 50 (f := .meth "Store" "_keep") rfl), ok_Store__keep T  F_Store__keep, FunD.bindsN F_Store__keep fun _ _ _ _ _ _ us hl => match us, hl with | [_, _, _, _], _ => rfl, .nil⟩
  obtain ⟨fd_law_draw, F_law_draw⟩ := c.def_ 31 (d := d_law_draw) rfl
  have c_law_draw : ∀ base : Heap, Cal P w K mg base 1 "_law_draw" (spDraw K) := fun base => ⟨_, _, ["state", "script", "size"], ok_law_draw T  F_law_draw, He.glo_ok X G (c.fact 11 (f := .glo "_law_draw") rfl), F_law_draw.kp, FunD.bindsN F_law_draw fun _ _ _ _ _ _ us hl => match us, hl with | [_, _, _], _ => rfl⟩
  obtain ⟨fd_law_blocks, F_law_blocks⟩ := c.def_ 34 (d := d_law_blocks) rfl
  have c_law_blocks : ∀ base : Heap, Cal P w K mg base 1 "_law_blocks" (sp_law_blocks K) := fun base => ⟨_, _, ["content"], ok_law_blocks T  F_law_blocks, He.glo_ok X G (c.fact 14 (f := .glo "_law_blocks") rfl), F_law_blocks.kp, FunD.bindsN F_law_blocks fun _ _ _ _ _ _ us hl => match us, hl with | [_], _ => rfl⟩
  obtain ⟨fd_law_bytes, F_law_bytes⟩ := c.def_ 35 (d := d_law_bytes) rfl
  have c_law_bytes : ∀ base : Heap, Cal P w K mg base 1 "_law_bytes" (sp_law_bytes K) := fun base => ⟨_, _, ["blocks"], ok_law_bytes T  F_law_bytes, He.glo_ok X G (c.fact 15 (f := .glo "_law_bytes") rfl), F_law_bytes.kp, FunD.bindsN F_law_bytes fun _ _ _ _ _ _ us hl => match us, hl with | [_], _ => rfl⟩
  obtain ⟨fd_is_block, F_is_block⟩ := c.def_ 2 (d := d_is_block) rfl
  have c_is_block : ∀ base : Heap, Cal P w K mg base 2 "is_block" (sp_is_block K) := fun base => ⟨_, _, ["number"], ok_is_block T (c_block_size base) F_is_block, He.glo_ok X G (c.fact 2 (f := .glo "is_block") rfl), F_is_block.kp, FunD.bindsN F_is_block fun _ _ _ _ _ _ us hl => match us, hl with | [_], _ => rfl⟩
  obtain ⟨fd_block_bytes, F_block_bytes⟩ := c.def_ 3 (d := d_block_bytes) rfl
  have c_block_bytes : ∀ base : Heap, Cal P w K mg base 2 "block_bytes" (sp_block_bytes K) := fun base => ⟨_, _, ["number"], ok_block_bytes T (c_block_size base) F_block_bytes, He.glo_ok X G (c.fact 3 (f := .glo "block_bytes") rfl), F_block_bytes.kp, FunD.bindsN F_block_bytes fun _ _ _ _ _ _ us hl => match us, hl with | [_], _ => rfl⟩
  obtain ⟨fd_split, F_split⟩ := c.def_ 4 (d := d_split) rfl
  have c_split : ∀ base : Heap, Cal P w K mg base 2 "split" (sp_split K) := fun base => ⟨_, _, ["content"], ok_split T (c_block_number base) F_split, He.glo_ok X G (c.fact 4 (f := .glo "split") rfl), F_split.kp, FunD.bindsN F_split fun _ _ _ _ _ _ us hl => match us, hl with | [_], _ => rfl⟩
  obtain ⟨fd_law_name, F_law_name⟩ := c.def_ 32 (d := d_law_name) rfl
  have c_law_name : ∀ base : Heap, Cal P w K mg base 2 "_law_name" (sp_law_name K) := fun base => ⟨_, _, ["state", "script"], ok_law_name T (c_law_draw base) F_law_name, He.glo_ok X G (c.fact 12 (f := .glo "_law_name") rfl), F_law_name.kp, FunD.bindsN F_law_name fun _ _ _ _ _ _ us hl => match us, hl with | [_, _], _ => rfl⟩
  obtain ⟨fd_law_content, F_law_content⟩ := c.def_ 33 (d := d_law_content) rfl
  have c_law_content : ∀ base : Heap, Cal P w K mg base 2 "_law_content" (sp_law_content K) := fun base => ⟨_, _, ["state", "script", "most"], ok_law_content T (c_law_draw base) F_law_content, He.glo_ok X G (c.fact 13 (f := .glo "_law_content") rfl), F_law_content.kp, FunD.bindsN F_law_content fun _ _ _ _ _ _ us hl => match us, hl with | [_, _, _], _ => rfl⟩
  obtain ⟨fd_joined, F_joined⟩ := c.def_ 5 (d := d_joined) rfl
  have c_joined : ∀ base : Heap, Cal P w K mg base 3 "joined" (sp_joined K) := fun base => ⟨_, _, ["numbers"], ok_joined T (c_is_block base) (c_block_bytes base) F_joined, He.glo_ok X G (c.fact 5 (f := .glo "joined") rfl), F_joined.kp, FunD.bindsN F_joined fun _ _ _ _ _ _ us hl => match us, hl with | [_], _ => rfl⟩
  obtain ⟨fd_kept_blocks, F_kept_blocks⟩ := c.def_ 8 (d := d_kept_blocks) rfl
  have c_kept_blocks : ∀ base : Heap, Cal P w K mg base 3 "kept_blocks" (sp_kept_blocks K) := fun base => ⟨_, _, ["store", "entry"], ok_kept_blocks T (m_Store_temp base) (c_block_bytes base) F_kept_blocks, He.glo_ok X G (c.fact 8 (f := .glo "kept_blocks") rfl), F_kept_blocks.kp, FunD.bindsN F_kept_blocks fun _ _ _ _ _ _ us hl => match us, hl with | [_, _], _ => rfl⟩
  obtain ⟨fd_Store__count_write, F_Store__count_write⟩ := c.def_ 19 (d := d_Store__count_write) rfl
  have m_Store__count_write : ∀ base : Heap, MetX P w K mg base 3 (He.ga K "Store") "_count_write" (sp_Store__count_write K) := fun base => ⟨_, _, ["self"], He.cls_ok (c.fact 60 (f := .cls "Store") rfl), He.meth_ok (c.fact 40 (f := .meth "Store" "_count_write") rfl), ok_Store__count_write T  F_Store__count_write, FunD.bindsN F_Store__count_write fun _ _ _ _ _ _ us hl => match us, hl with | [_], _ => rfl⟩
  obtain ⟨fd_from_durable, F_from_durable⟩ := c.def_ 30 (d := d_from_durable) rfl
  have c_from_durable : ∀ base : Heap, Cal P w K mg base 3 "from_durable" (sp_from_durable K) := fun base => ⟨_, _, ["value"], ok_from_durable T (c_Store base) (m_Store__keep base) F_from_durable, He.glo_ok X G (c.fact 10 (f := .glo "from_durable") rfl), F_from_durable.kp, FunD.bindsN F_from_durable fun _ _ _ _ _ _ us hl => match us, hl with | [_], _ => rfl⟩
  obtain ⟨fd_near_rows, F_near_rows⟩ := c.def_ 7 (d := d_near_rows) rfl
  have c_near_rows : ∀ base : Heap, Cal P w K mg base 4 "_near_rows" (sp_near_rows K) := fun base => ⟨_, _, ["store", "entry"], ok_near_rows T (c_kept_blocks base) (m_Store_names base) (c_split base) (m_Store_read base) (m_Store_attic base) F_near_rows, He.glo_ok X G (c.fact 7 (f := .glo "_near_rows") rfl), F_near_rows.kp, FunD.bindsN F_near_rows fun _ _ _ _ _ _ us hl => match us, hl with | [_, _], _ => rfl⟩
  obtain ⟨fd_Pull_count, F_Pull_count⟩ := c.def_ 11 (d := d_Pull_count) rfl
  have m_Pull_count : ∀ base : Heap, C8.Met P w K mg base 4 (He.ga K "Pull") "count" (sp_Pull_count K) [] := fun base => ⟨_, _, ["self"], [], He.cls_ok (c.fact 69 (f := .cls "Pull") rfl), He.meth_ok (c.fact 34 (f := .meth "Pull" "count") rfl), ok_Pull_count T (c_kept_blocks base) F_Pull_count, FunD.bindsN F_Pull_count fun _ _ _ _ _ _ us hl => match us, hl with | [_], _ => rfl, .nil⟩
  obtain ⟨fd_Store_append_temp, F_Store_append_temp⟩ := c.def_ 23 (d := d_Store_append_temp) rfl
  have m_Store_append_temp : ∀ base : Heap, MetX P w K mg base 4 (He.ga K "Store") "append_temp" (sp_Store_append_temp K) := fun base => ⟨_, _, ["self", "name", "data"], He.cls_ok (c.fact 60 (f := .cls "Store") rfl), He.meth_ok (c.fact 44 (f := .meth "Store" "append_temp") rfl), ok_Store_append_temp T (m_Store__count_write base) F_Store_append_temp, FunD.bindsN F_Store_append_temp fun _ _ _ _ _ _ us hl => match us, hl with | [_, _, _], _ => rfl⟩
  obtain ⟨fd_Store_cut_temp, F_Store_cut_temp⟩ := c.def_ 24 (d := d_Store_cut_temp) rfl
  have m_Store_cut_temp : ∀ base : Heap, MetX P w K mg base 4 (He.ga K "Store") "cut_temp" (sp_Store_cut_temp K) := fun base => ⟨_, _, ["self", "name", "count"], He.cls_ok (c.fact 60 (f := .cls "Store") rfl), He.meth_ok (c.fact 45 (f := .meth "Store" "cut_temp") rfl), ok_Store_cut_temp T (m_Store__count_write base) F_Store_cut_temp, FunD.bindsN F_Store_cut_temp fun _ _ _ _ _ _ us hl => match us, hl with | [_, _, _], _ => rfl⟩
  obtain ⟨fd_Store_place, F_Store_place⟩ := c.def_ 25 (d := d_Store_place) rfl
  have m_Store_place : ∀ base : Heap, MetX P w K mg base 4 (He.ga K "Store") "place" (sp_Store_place K) := fun base => ⟨_, _, ["self", "name", "time"], He.cls_ok (c.fact 60 (f := .cls "Store") rfl), He.meth_ok (c.fact 46 (f := .meth "Store" "place") rfl), ok_Store_place T (m_Store__count_write base) F_Store_place, FunD.bindsN F_Store_place fun _ _ _ _ _ _ us hl => match us, hl with | [_, _, _], _ => rfl⟩
  obtain ⟨fd_Store_attic_put, F_Store_attic_put⟩ := c.def_ 27 (d := d_Store_attic_put) rfl
  have m_Store_attic_put : ∀ base : Heap, MetX P w K mg base 4 (He.ga K "Store") "attic_put" (sp_Store_attic_put K) := fun base => ⟨_, _, ["self", "name", "vector", "content"], He.cls_ok (c.fact 60 (f := .cls "Store") rfl), He.meth_ok (c.fact 48 (f := .meth "Store" "attic_put") rfl), ok_Store_attic_put T (m_Store__count_write base) F_Store_attic_put, FunD.bindsN F_Store_attic_put fun _ _ _ _ _ _ us hl => match us, hl with | [_, _, _, _], _ => rfl⟩
  obtain ⟨fd_near_places, F_near_places⟩ := c.def_ 6 (d := d_near_places) rfl
  have c_near_places : ∀ base : Heap, Cal P w K mg base 5 "near_places" (sp_near_places K) := fun base => ⟨_, _, ["store", "entry"], ok_near_places T (c_near_rows base) F_near_places, He.glo_ok X G (c.fact 6 (f := .glo "near_places") rfl), F_near_places.kp, FunD.bindsN F_near_places fun _ _ _ _ _ _ us hl => match us, hl with | [_, _], _ => rfl⟩
  obtain ⟨fd_Pull___init__, F_Pull___init__⟩ := c.def_ 10 (d := d_Pull___init__) rfl
  have M_Pull := He.mkr_ok (c.fact 72 (f := .mkr "Pull") rfl)
  have c_Pull : ∀ base : Heap, MakX P w K mg base 5 "Pull" (He.ga K "Pull") (sp_Pull___init__ K) := fun base => ⟨_, _, ["self", "store", "entry"], M_Pull, ok_Pull___init__ T (m_Store_temp base) (c_joined base) (m_Pull_count base) (m_Store_cut_temp base) F_Pull___init__, He.glo_ok X G (c.fact 23 (f := .glo "Pull") rfl), FunD.bindsN F_Pull___init__ fun _ _ _ _ _ _ us hl => match us, hl with | [_, _, _], _ => rfl⟩
  obtain ⟨fd_Pull_is_whole, F_Pull_is_whole⟩ := c.def_ 12 (d := d_Pull_is_whole) rfl
  have m_Pull_is_whole : ∀ base : Heap, C8.Met P w K mg base 5 (He.ga K "Pull") "is_whole" (sp_Pull_is_whole K) [] := fun base => ⟨_, _, ["self"], [], He.cls_ok (c.fact 69 (f := .cls "Pull") rfl), He.meth_ok (c.fact 35 (f := .meth "Pull" "is_whole") rfl), ok_Pull_is_whole T (m_Pull_count base) F_Pull_is_whole, FunD.bindsN F_Pull_is_whole fun _ _ _ _ _ _ us hl => match us, hl with | [_], _ => rfl, .nil⟩
  obtain ⟨fd_Pull_give, F_Pull_give⟩ := c.def_ 14 (d := d_Pull_give) rfl
  have m_Pull_give : ∀ base : Heap, MetX P w K mg base 5 (He.ga K "Pull") "give" (sp_Pull_give K) := fun base => ⟨_, _, ["self", "block", "data"], He.cls_ok (c.fact 69 (f := .cls "Pull") rfl), He.meth_ok (c.fact 37 (f := .meth "Pull" "give") rfl), ok_Pull_give T (m_Pull_count base) (c_block_bytes base) (m_Store_append_temp base) F_Pull_give, FunD.bindsN F_Pull_give fun _ _ _ _ _ _ us hl => match us, hl with | [_, _, _], _ => rfl⟩
  obtain ⟨fd_Pull_place, F_Pull_place⟩ := c.def_ 15 (d := d_Pull_place) rfl
  have m_Pull_place : ∀ base : Heap, MetX P w K mg base 5 (He.ga K "Pull") "place" (sp_Pull_place K) := fun base => ⟨_, _, ["self"], He.cls_ok (c.fact 69 (f := .cls "Pull") rfl), He.meth_ok (c.fact 38 (f := .meth "Pull" "place") rfl), ok_Pull_place T (m_Store_place base) F_Pull_place, FunD.bindsN F_Pull_place fun _ _ _ _ _ _ us hl => match us, hl with | [_], _ => rfl⟩
  obtain ⟨fd_missing, F_missing⟩ := c.def_ 9 (d := d_missing) rfl
  have c_missing : ∀ base : Heap, Cal P w K mg base 6 "missing" (sp_missing K) := fun base => ⟨_, _, ["store", "entry"], ok_missing T (c_near_places base) (c_kept_blocks base) F_missing, He.glo_ok X G (c.fact 9 (f := .glo "missing") rfl), F_missing.kp, FunD.bindsN F_missing fun _ _ _ _ _ _ us hl => match us, hl with | [_, _], _ => rfl⟩
  obtain ⟨fd_Pull_advance, F_Pull_advance⟩ := c.def_ 13 (d := d_Pull_advance) rfl
  have m_Pull_advance : ∀ base : Heap, MetX P w K mg base 6 (He.ga K "Pull") "advance" (sp_Pull_advance K) := fun base => ⟨_, _, ["self"], He.cls_ok (c.fact 69 (f := .cls "Pull") rfl), He.meth_ok (c.fact 36 (f := .meth "Pull" "advance") rfl), ok_Pull_advance T (c_near_places base) (m_Pull_count base) (m_Store_append_temp base) (c_block_bytes base) F_Pull_advance, FunD.bindsN F_Pull_advance fun _ _ _ _ _ _ us hl => match us, hl with | [_], _ => rfl⟩
  obtain ⟨fd_law_refused, F_law_refused⟩ := c.def_ 36 (d := d_law_refused) rfl
  have c_law_refused : ∀ base : Heap, CalX P w K mg base 6 "_law_refused" (sp_law_refused K) := fun base => ⟨_, _, ["state", "script", "store", "pull", "block"], ok_law_refused T (m_Store_durable base) (c_law_bytes base) (c_law_draw base) (m_Pull_give base) F_law_refused, He.glo_ok X G (c.fact 16 (f := .glo "_law_refused") rfl), F_law_refused.kp, FunD.bindsN F_law_refused fun _ _ _ _ _ _ us hl => match us, hl with | [_, _, _, _, _], _ => rfl⟩
  obtain ⟨fd_law_pulled, F_law_pulled⟩ := c.def_ 37 (d := d_law_pulled) rfl
  have c_law_pulled : ∀ base : Heap, Cal P w K mg base 7 "_law_pulled" (sp_law_pulled K) := fun base => ⟨_, _, ["state", "script", "store", "entry", "asked"], ok_law_pulled T (c_Pull base) (m_Pull_advance base) (m_Pull_count base) (m_Pull_is_whole base) (m_Pull_place base) (c_law_refused base) (c_law_draw base) (m_Pull_give base) (c_law_bytes base) F_law_pulled, He.glo_ok X G (c.fact 17 (f := .glo "_law_pulled") rfl), F_law_pulled.kp, FunD.bindsN F_law_pulled fun _ _ _ _ _ _ us hl => match us, hl with | [_, _, _, _, _], _ => rfl⟩
  obtain ⟨fd_law, F_law⟩ := c.def_ 38 (d := d_law) rfl
  have e := hfa.symm.trans (He.glo_ok X G (c.fact 18 (f := .glo "law") rfl))
  cases e
  have b := FunD.bindsA (ps := ["script"]) F_law fun _ _ _ _ _ _ us hl => match us, hl with | [_], _ => rfl
  exact ⟨fd_law, fun s v => b s [v] rfl, fun base _ _ => ok_law T (c_Entry base) (c_Store base) (c_law_content base) (c_law_blocks base) (c_law_name base) (c_law_draw base) (m_Store_attic_put base) (m_Store_append_temp base) (c_missing base) (m_Store_attic base) (c_from_durable base) (m_Store_durable base) (m_Store_set_budget base) (c_law_pulled base) (m_Store_temp base) (m_Store_read base) (m_Store_names base) F_law⟩
end Vk26
set_option maxHeartbeats 0
open PySem PySem.W PySem.Calls PyProof.Rows
theorem PySem.Challenge.cw_folderkin_k26_whole_pulls_holds : PySem.Challenge.rw_folderkin_k26_whole_pulls.Holds := by
  w_on; o_law
  refine HandSHeadRun.head_any (r := OpenLaw.row PySem.Challenge.rw_folderkin_k26_whole_pulls) (q := view (OpenLaw.row PySem.Challenge.rw_folderkin_k26_whole_pulls).prog [32]) (H := Vk26.hk) (ob := Vk26.ob) (M := 10000) (loose := ["_wall", "FolderkinError", "PowerCut", "InvalidBlock", "BLOCK", "block_number", "block_size", "is_block", "block_bytes", "split", "joined", "near_places", "_near_rows", "kept_blocks", "missing", "Pull", "Entry", "Store", "from_durable", "_law_draw", "_law_name", "_law_content", "_law_blocks", "_law_bytes", "_law_refused", "_law_pulled"]) (d := HandSHeadRun.topDef (OpenLaw.row PySem.Challenge.rw_folderkin_k26_whole_pulls).prog 32) (kwd := []) Vk26.ob_eq
    (by kernel_rfl) (fun s => by kernel_rfl) Vk26.run (by kernel_rfl) (by kernel_rfl) (by kernel_rfl) (by rfl) (by first | assumption | decide +kernel) (by decide +kernel) ⟨rfl, rfl, rfl, rfl, rfl, by decide +kernel⟩ ?hw ?hc
  case hw => w_witness2
  case hc =>
    refine L2.walk_ofE (l := PySem.Challenge.rw_folderkin_k26_whole_pulls) (n := 63) (k := 8) (x := "script") (CX := L2.CX0) rfl (by decide) (by kernel_rfl) ⟨rfl, by decide, by decide⟩ ?F (fun _ _ _ _ z => z)
    intro w mg fa h Y G hmg0
    obtain ⟨K, KX, c⟩ := Y
    have hmg : mg ("law" : PySem.Str) = some (.ref fa) := by
      have e : (HandSHeadRun.topDef (OpenLaw.row PySem.Challenge.rw_folderkin_k26_whole_pulls).prog 32).name = ("law" : PySem.Str) := by kernel_rfl
      rw [← e]
      exact hmg0
    obtain ⟨fd, hb, hF⟩ := Vk26.facts (P := (PySem.Challenge.rw_folderkin_k26_whole_pulls).prog) (w := w) KX G hmg c
    exact ⟨K, fd, Vk26.sp_law K, KX, hb, fun H a ns hl _ hS => ⟨_, rfl, a, ns, rfl, hS, hl, fun _ => rfl⟩, hF⟩
