import PyProof.Rows.All
import Wide.All
import OpenK.AllK
import Wide.FinOn
import KE.KStateDown
import HandS.ForMost
import HandS.Codes
import HandS.Defaults
import HandS.Flow
import HandS.Walk
import HandS.Wide
import HandS.IsInst
import HandS.Iter
import KE.GoesMore
import KE.GoesEnum
import KE.LtData
import KE.DataCmp
import HandS.WideBits
import HandS.RevRange
import HandS.TupLe
import HandS.TupAny
import HandS.Style
import HandS.Dict
import HandS.More
import KE.KDictPairs
import KE.OsGo
import HandS.ForSpec
import HandS.ExcIs
import KE.KExcIs
import HandS.Head0
import HandS.Head1
import HandS.Head2
import HandS.HeadEnd
import HandS.HeadHook1
import HandS.HeadHook2
import HandS.OwnEq
import HandS.MakeKw
import KE.DataEq
import HandS.DictTup
import HandS.Deep
import KE.KDictWalk
import HandS.Gcd
import HandS.Text
import HandS.StrMore
import HandS.SortKw
import KE.DataMinKey
import HandS.FStr
import PyProof.NeKinds
import HandS.DictComp
import HandS.SetKeys
import KE.KEqDict
import HandS.SetFor
import HandS.Strs
import KE.DataFind
import HandS.Zip
import KE.KDictZip
import PyProof.InstNe
import HandS.HotCalls
import KE.GoesRaise
import HandS.CallSlots
import Lean
import PySem.Challenge.RW_folderkin_k49_whole_any_bytes_as_letters
set_option Elab.async false
set_option linter.all false
set_option maxRecDepth 100000
set_option maxHeartbeats 4000000
namespace Vf
open PySem L2 PySem.Spec PyProof.Rows

/-- what is left of a loop, of a comprehension, behind what it walks -/
def ForB (J : It) (g : TG) (t : TS) (D : Ends) (σ : L2.St) (H1 : Hp) : Prop := ∃ W : Nat → Nat → L2.St → Hp → Prop, (∃ m, W 0 m σ H1) ∧ ∀ i m σ H, W i m σ H →
  (J.stop i H ∧ D.nx σ H) ∨ (J.go i H ∧ ∃ N : L2.St → Hp → Prop, (∀ σ' H', N σ' H' → ∃ m', m' < m ∧ W (i + 1) m' σ' H') ∧ ∀ x H', J.yld i H x H' → g x σ H' fun σ2 H2 => t { D with nx := N, ct := N, bk := D.nx } σ2 H2)
def LcB (J : It) (g : TG) (tt : TT) (te : TE) (vs : List Nat) (σ : L2.St) (D : Addr) (H1 : Hp) (Q : VK) : Prop := ∃ W : Nat → Nat → Hp → Prop, (∃ m, W 0 m (upd H1 D (.lst []))) ∧ ∀ i m H, W i m H →
  (J.stop i H ∧ Q (.ref D) H) ∨ (J.go i H ∧
    ∃ Nx : Hp → Prop, (∀ H', Nx H' → ∃ m', m' < m ∧ W (i + 1) m' H') ∧
    ∀ x H', J.yld i H x H' → g x (wipe σ vs) H' fun σ2 H2 => wipe σ2 vs = wipe σ vs ∧ tt σ2 H2 fun b H3 =>
    if b = true then te σ2 H3 fun y H4 => 
      ∃ acc, H4 D = some (.lst acc) ∧ acc.length < sizeLine ∧
      Nx (upd H4 D (.lst (acc ++ [y]))) else Nx H3)
section
variable {K : PySem.W.Frag} {g : TG} {t : TS} {D : Ends} {σ : L2.St} {H : Hp} {tt : TT} {te : TE} {vs : List Nat} {Q : VK} {Da : Addr}
/-- for c in z, a text: Pv by the signs gone -/
theorem for_str {z : Str} (Pv : List Nat → L2.St → Hp → Prop) (h0 : Pv [] σ H)
    (hs : ∀ (pre : List Nat) (c : Nat) (post : List Nat) σ H, z.cps.toList = pre ++ c :: post → Pv pre σ H → g (.str ⟨#[c]⟩) σ H fun σ2 H2 => t { D with nx := Pv (pre ++ [c]), ct := Pv (pre ++ [c]), bk := D.nx } σ2 H2)
    (hd : ∀ σ H, Pv z.cps.toList σ H → D.nx σ H) : ForB (Its z) g t D σ H := by
  refine for_it walk_str (fun i => Pv (z.cps.toList.take i)) (by simpa using h0) (fun _ _ _ _ _ => trivial) (fun i x σ H H' hi p y => ?_) (fun σ H p => ?_)
  · obtain ⟨e, c, hc, hx⟩ := y
    subst e hx
    have hc' : z.cps.toList[i]? = some c := by simpa using hc
    have hi' : i < z.cps.toList.length := by simpa using hi
    have e1 : z.cps.toList = z.cps.toList.take i ++ c :: z.cps.toList.drop (i + 1) := by
      have e2 := (List.getElem?_eq_some_iff.mp hc').2
      rw [← e2, List.getElem_cons_drop, List.take_append_drop]
    have e3 : z.cps.toList.take (i + 1) = z.cps.toList.take i ++ [c] := by
      rw [List.take_add_one, hc']; rfl
    rw [e3]
    exact hs _ c _ σ _ e1 p
  · refine hd σ H ?_
    have e : z.cps.toList.take z.cps.size = z.cps.toList := List.take_of_length_le (by simp)
    rw [← e]
    exact p
theorem lc_str {z : Str} (Pv : List Nat → Hp → Prop) (h0 : Pv [] (upd H Da (.lst [])))
    (hs : ∀ (pre : List Nat) (c : Nat) (post : List Nat) H, z.cps.toList = pre ++ c :: post → Pv pre H → g (.str ⟨#[c]⟩) (wipe σ vs) H fun σ2 H2 => wipe σ2 vs = wipe σ vs ∧ tt σ2 H2 fun b H3 =>
      if b = true then te σ2 H3 fun y H4 => ∃ acc, H4 Da = some (.lst acc) ∧ acc.length < sizeLine ∧ Pv (pre ++ [c]) (upd H4 Da (.lst (acc ++ [y]))) else Pv (pre ++ [c]) H3)
    (hd : ∀ H, Pv z.cps.toList H → Q (.ref Da) H) : LcB (Its z) g tt te vs σ Da H Q := by
  refine lc_it walk_str (fun i => Pv (z.cps.toList.take i)) (by simpa using h0) (fun _ _ _ _ => trivial) (fun i x H H' hi p y => ?_) (fun H p => ?_)
  · obtain ⟨e, c, hc, hx⟩ := y
    subst e hx
    have hc' : z.cps.toList[i]? = some c := by simpa using hc
    have e1 : z.cps.toList = z.cps.toList.take i ++ c :: z.cps.toList.drop (i + 1) := by
      have e2 := (List.getElem?_eq_some_iff.mp hc').2
      rw [← e2, List.getElem_cons_drop, List.take_append_drop]
    have e3 : z.cps.toList.take (i + 1) = z.cps.toList.take i ++ [c] := by
      rw [List.take_add_one, hc']; rfl
    rw [e3]
    exact hs _ c _ _ e1 p
  · refine hd H ?_
    have e : z.cps.toList.take z.cps.size = z.cps.toList := List.take_of_length_le (by simp)
    rw [← e]
    exact p
theorem for_rng {lo : Int} {n : Nat} (Pv : Nat → L2.St → Hp → Prop) (h0 : Pv 0 σ H)
    (hs : ∀ i σ H, i < n → Pv i σ H → g (.int (lo + i)) σ H fun σ2 H2 => t { D with nx := Pv (i + 1), ct := Pv (i + 1), bk := D.nx } σ2 H2) (hd : ∀ σ H, Pv n σ H → D.nx σ H) : ForB (Itr lo n) g t D σ H := for_range Pv h0 hs hd
theorem lc_rng {lo : Int} {n : Nat} (Pv : Nat → Hp → Prop) (h0 : Pv 0 (upd H Da (.lst [])))
    (hs : ∀ i H, i < n → Pv i H → g (.int (lo + i)) (wipe σ vs) H 
      fun σ2 H2 => wipe σ2 vs = wipe σ vs ∧ tt σ2 H2 fun b H3 =>
      if b = true then te σ2 H3 fun y H4 => ∃ acc, H4 Da = some (.lst acc) ∧ acc.length < sizeLine ∧ Pv (i + 1) (upd H4 Da (.lst (acc ++ [y]))) else Pv (i + 1) H3) (hd : ∀ H, Pv n H → Q (.ref Da) H) :
    LcB (Itr lo n) g tt te vs σ Da H Q := lc_range Pv h0 hs hd
/-- for x in xs, a list: Pv by what was taken -/
theorem for_lst {a : Addr} {xs : List V} (Pv : List V → L2.St → Hp → Prop) (h0 : Pv [] σ H) (hl : ∀ pre σ H, Pv pre σ H → SqL K H a xs)
    (hs : ∀ (pre : List V) (x : V) (post : List V) σ H, xs = pre ++ x :: post → Pv pre σ H → g x σ H fun σ2 H2 => t { D with nx := Pv (pre ++ [x]), ct := Pv (pre ++ [x]), bk := D.nx } σ2 H2)
    (hd : ∀ σ H, Pv xs σ H → D.nx σ H) : ForB (Itl K a) g t D σ H := by
  refine for_list (xs := xs) (fun i => Pv (xs.take i)) (by simpa using h0) (fun i σ H _ p => hl _ σ H p) (fun i x σ H hx p => ?_) (fun σ H p => ?_)
  · have e1 : xs = xs.take i ++ x :: xs.drop (i + 1) := by
      have e2 := (List.getElem?_eq_some_iff.mp hx).2
      rw [← e2, List.getElem_cons_drop, List.take_append_drop]
    have e3 : xs.take (i + 1) = xs.take i ++ [x] := by
      rw [List.take_add_one, hx]; rfl
    rw [e3]
    exact hs _ x _ σ H e1 p
  · rw [List.take_length] at p
    exact hd σ H p
theorem lc_lst {a : Addr} {xs : List V} (Pv : List V → Hp → Prop) (h0 : Pv [] (upd H Da (.lst []))) (hl : ∀ pre H, Pv pre H → SqL K H a xs)
    (hs : ∀ (pre : List V) (x : V) (post : List V) H, xs = pre ++ x :: post → Pv pre H → g x (wipe σ vs) H fun σ2 H2 => wipe σ2 vs = wipe σ vs ∧ tt σ2 H2 fun b H3 =>
      if b = true then te σ2 H3 fun y H4 => ∃ acc, H4 Da = some (.lst acc) ∧ acc.length < sizeLine ∧ Pv (pre ++ [x]) (upd H4 Da (.lst (acc ++ [y]))) else Pv (pre ++ [x]) H3)
    (hd : ∀ H, Pv xs H → Q (.ref Da) H) : LcB (Itl K a) g tt te vs σ Da H Q := by
  refine lc_list (xs := xs) (fun i => Pv (xs.take i)) (by simpa using h0) (fun i H _ p => hl _ H p) (fun i x H hx p => ?_) (fun H p => ?_)
  · have e1 : xs = xs.take i ++ x :: xs.drop (i + 1) := by
      have e2 := (List.getElem?_eq_some_iff.mp hx).2
      rw [← e2, List.getElem_cons_drop, List.take_append_drop]
    have e3 : xs.take (i + 1) = xs.take i ++ [x] := by
      rw [List.take_add_one, hx]; rfl
    rw [e3]
    exact hs _ x _ H e1 p
  · rw [List.take_length] at p
    exact hd H p
theorem for_tpl {a : Addr} {xs : List V} (Pv : List V → L2.St → Hp → Prop) (h0 : Pv [] σ H) (hl : ∀ pre σ H, Pv pre σ H → SqT K H a xs)
    (hs : ∀ (pre : List V) (x : V) (post : List V) σ H, xs = pre ++ x :: post → Pv pre σ H → g x σ H fun σ2 H2 => t { D with nx := Pv (pre ++ [x]), ct := Pv (pre ++ [x]), bk := D.nx } σ2 H2)
    (hd : ∀ σ H, Pv xs σ H → D.nx σ H) : ForB (Itt K a) g t D σ H := by
  refine for_tup (xs := xs) (fun i => Pv (xs.take i)) (by simpa using h0) (fun i σ H _ p => hl _ σ H p) (fun i x σ H hx p => ?_) (fun σ H p => ?_)
  · have e1 : xs = xs.take i ++ x :: xs.drop (i + 1) := by
      have e2 := (List.getElem?_eq_some_iff.mp hx).2
      rw [← e2, List.getElem_cons_drop, List.take_append_drop]
    have e3 : xs.take (i + 1) = xs.take i ++ [x] := by
      rw [List.take_add_one, hx]; rfl
    rw [e3]
    exact hs _ x _ σ H e1 p
  · rw [List.take_length] at p
    exact hd σ H p
end

/-! ### readings, one lemma a head -/
section
variable {σ : L2.St} {H : Hp} {Q : VK} {D : Ends} {te ta tb tx : TE} {tt tu : TT} {t u : TS} {as : TA} {r r' : R2} {x y v : V} {K : PySem.W.Frag}
theorem e_var {i : Nat} (h : σ[i]? = some (some v)) (q : Q v H) : tVar i σ H Q := ⟨v, h, q⟩
theorem e_c (q : Q v H) : tC v σ H Q := q
theorem e_op (q : ta σ H fun x H1 => tb σ H1 fun y H2 => r x y H2 Q) : tOp r ta tb σ H Q := q
theorem e_un {r : V → Hp → VK → Prop} (q : ta σ H fun x H1 => r x H1 Q) : tUn r ta σ H Q := q
theorem e_I0 {g : Int → Int → V} {i j : Int} (q : Q (g i j) H) : rI0 g (.int i) (.int j) H Q := ⟨i, j, rfl, rfl, q⟩
theorem e_I {C : Int → Int → Prop} {g : Int → Int → V} {i j : Int} (c : C i j) (q : Q (g i j) H) : rI C g (.int i) (.int j) H Q := ⟨i, j, rfl, rfl, c, q⟩
theorem e_U {g : Int → V} {i : Int} (q : Q (g i) H) : rU g (.int i) H Q := ⟨i, rfl, q⟩
theorem e_eq (s : scal x y = true) (q : Q (.bl (decide (x = y))) H) : rEq x y H Q := ⟨s, q⟩
theorem e_ne (s : scal x y = true) (q : Q (.bl (!decide (x = y))) H) : rNe x y H Q := ⟨s, q⟩
theorem e_eqI {i j : Int} (q : Q (.bl (decide (i = j))) H) : rEq (.int i) (.int j) H Q := ⟨rfl, by
  have e : decide (V.int i = V.int j) = decide (i = j) := by
    by_cases h : i = j
    · rw [h]; simp
    · rw [decide_eq_false h, decide_eq_false (fun z => h (V.int.inj z))]
  rw [e]; exact q⟩
theorem e_neI {i j : Int} (q : Q (.bl (!decide (i = j))) H) : rNe (.int i) (.int j) H Q := ⟨rfl, by
  have e : decide (V.int i = V.int j) = decide (i = j) := by
    by_cases h : i = j
    · rw [h]; simp
    · rw [decide_eq_false h, decide_eq_false (fun z => h (V.int.inj z))]
  rw [e]; exact q⟩
theorem e_eqS {i j : Str} (q : Q (.bl (decide (i = j))) H) : rEq (.str i) (.str j) H Q := ⟨rfl, by
  have e : decide (V.str i = V.str j) = decide (i = j) := by
    by_cases h : i = j
    · rw [h]; simp
    · rw [decide_eq_false h, decide_eq_false (fun z => h (V.str.inj z))]
  rw [e]; exact q⟩
theorem e_neS {i j : Str} (q : Q (.bl (!decide (i = j))) H) : rNe (.str i) (.str j) H Q := ⟨rfl, by
  have e : decide (V.str i = V.str j) = decide (i = j) := by
    by_cases h : i = j
    · rw [h]; simp
    · rw [decide_eq_false h, decide_eq_false (fun z => h (V.str.inj z))]
  rw [e]; exact q⟩
theorem e_eqB {i j : Bool} (q : Q (.bl (i == j)) H) : rEq (.bl i) (.bl j) H Q := ⟨rfl, by
  have e : decide (V.bl i = V.bl j) = (i == j) := by cases i <;> cases j <;> rfl
  rw [e]; exact q⟩
theorem e_neB {i j : Bool} (q : Q (.bl (i != j)) H) : rNe (.bl i) (.bl j) H Q := ⟨rfl, by
  have e : (!decide (V.bl i = V.bl j)) = (i != j) := by cases i <;> cases j <;> rfl
  rw [e]; exact q⟩
theorem e_test {Q : Bool → Hp → Prop} (q : te σ H fun x H' => ∃ k, x = .bl k ∧ Q k H') : tTest te σ H Q := q
theorem e_B {Q : Bool → Hp → Prop} (q : te σ H fun x H' => ∃ k, x = .bl k ∧ Q k H') : tB te σ H Q := q
theorem e_ex {b : Bool} {P : Bool → Prop} (q : P b) : ∃ k, V.bl b = .bl k ∧ P k := ⟨b, rfl, q⟩
theorem e_and {Q : Bool → Hp → Prop} (q : tt σ H fun c H1 => if c = true then tu σ H1 Q else Q false H1) : tAnd tt tu σ H Q := q
theorem e_or {Q : Bool → Hp → Prop} (q : tt σ H fun c H1 => if c = true then Q true H1 else tu σ H1 Q) : tOr tt tu σ H Q := q
theorem e_not {Q : Bool → Hp → Prop} (q : tt σ H fun c H1 => Q (!c) H1) : tNot tt σ H Q := q
theorem e_yes {Q : Bool → Hp → Prop} (q : Q true H) : tYes σ H Q := q
theorem e_andV (q : ta σ H fun x H1 => ∃ c, x = .bl c ∧ if c = true then tb σ H1 Q else Q (.bl false) H1) : tAndV ta tb σ H Q := q
theorem e_orV (q : ta σ H fun x H1 => ∃ c, x = .bl c ∧ if c = true then Q (.bl true) H1 else tb σ H1 Q) : tOrV ta tb σ H Q := q
theorem e_notV (q : ta σ H fun x H1 => ∃ c, x = .bl c ∧ Q (.bl (!c)) H1) : tNotV ta σ H Q := q
theorem e_if (q : tt σ H fun c H1 => if c = true then ta σ H1 Q else tb σ H1 Q) : tIf tt ta tb σ H Q := q
theorem e_chain (q : ta σ H fun x H1 => tb σ H1 fun y H2 => r x y H2 fun z H3 => ∃ k, z = .bl k ∧ (if k = true then tx σ H3 fun w' H4 => r' y w' H4 Q else Q (.bl false) H3)) : tChain r r' ta tb tx σ H Q := q
theorem e_seq (q : t { D with nx := u D } σ H) : tSeq t u D σ H := q
theorem e_next (q : D.nx σ H) : tNext D σ H := q
theorem e_break (q : D.bk σ H) : tBreak D σ H := q
theorem e_cont (q : D.ct σ H) : tCont D σ H := q
theorem e_drop (q : te σ H fun _ H1 => D.nx σ H1) : tDrop te D σ H := q
theorem e_ret (q : te σ H D.rt) : tRet te D σ H := q
theorem e_retN (q : D.rt .non H) : tRetN D σ H := q
theorem e_ifS (q : tt σ H fun b H1 => if b = true then t D σ H1 else u D σ H1) : tIfS tt t u D σ H := q
theorem e_asg {g : TG} (q : te σ H fun x H1 => g x σ H1 D.nx) : tAsg te g D σ H := q
theorem e_name {i : Nat} {Q : L2.St → Hp → Prop} (q : Q (σ.set i (some v)) H) : gName i v σ H Q := q
theorem e_sub {to ti : TE} {st : TSet} {Q : L2.St → Hp → Prop} (q : to σ H fun o H1 => ti σ H1 fun i H2 => st o i v H2 fun H3 => Q σ H3) : gSub to ti st v σ H Q := q
theorem e_aug {i : Nat} {ti : TIp} (h : σ[i]? = some (some x)) (q : te σ H fun y H1 => ti x y H1 fun z H2 => D.nx (σ.set i (some z)) H2) : tAug i te ti D σ H := ⟨x, h, q⟩
theorem e_nil {Q : List V → Hp → Prop} (q : Q [] H) : tNil σ H Q := q
theorem e_cons {Q : List V → Hp → Prop} (q : ta σ H fun x H1 => as σ H1 fun xs H2 => Q (x :: xs) H2) : tCons ta as σ H Q := q
theorem e_call {sp : Sp} {dvs : List V} {E : XK} (q : as σ H fun vs H1 => sp (vs ++ dvs) H1 Q E) : tCall sp dvs E as σ H Q := q
theorem e_CB {r : List V → Hp → VK → Prop} (q : as σ H fun vs H1 => r vs H1 Q) : tCB r as σ H Q := q
theorem e_tup (q : as σ H fun xs H1 => xs.length ≤ sizeLine ∧ ∀ p, H1 p = none → Q (.ref p) (upd H1 p (.tup xs))) : tTup as σ H Q := q
theorem e_lst (q : as σ H fun xs H1 => xs.length ≤ sizeLine ∧ ∀ p, H1 p = none → Q (.ref p) (upd H1 p (.lst xs))) : tLst as σ H Q := q
theorem e_sl {r : V → Option Int → Option Int → Hp → VK → Prop} {tl th : TO} (q : te σ H fun x H1 => tl σ H1 fun l H2 => th σ H2 fun u H3 => r x l u H3 Q) : tSl r te tl th σ H Q := q
theorem e_noP {Q : Option Int → Hp → Prop} (q : Q none H) : tNoPart σ H Q := q
theorem e_part {Q : Option Int → Hp → Prop} (q : te σ H fun x H1 => ∃ i, x = .int i ∧ Q (some i) H1) : tPart te σ H Q := q
theorem e_exI {i : Int} {P : Int → Prop} (q : P i) : ∃ k, V.int i = .int k ∧ P k := ⟨i, rfl, q⟩
theorem e_bm {T : String} {r : V → List V → Hp → VK → Prop} {to : TE} (q : to σ H fun x H1 => tyV K T x H1 ∧ as σ H1 fun xs H2 => r x xs H2 Q) : tBM K T r to as σ H Q := q
theorem e_for {wi : TI} {g : TG} (q : wi σ H fun J H1 => ForB J g t D σ H1) : tFor wi g t D σ H := q
theorem e_lc {wi : TI} {g : TG} {vs : List Nat} (q : wi σ H fun J H1 => ∀ D, H1 D = none → LcB J g tt te vs σ D H1 Q) : tLc wi g tt te vs σ H Q := q
theorem e_exS {i : Str} {P : Str → Prop} (q : P i) : ∃ k, V.str i = .str k ∧ P k := ⟨i, rfl, q⟩
theorem e_exR {a : Addr} {xs : List V} {P : Addr → Prop} (h : SqL K H a xs) (q : P a) : ∃ k, V.ref a = .ref k ∧ (∃ xs, SqL K H k xs) ∧ P k := ⟨a, rfl, ⟨xs, h⟩, q⟩
theorem e_exRT {a : Addr} {xs : List V} {P : Addr → Prop} (h : SqT K H a xs) (q : P a) : ∃ k, V.ref a = .ref k ∧ (∃ xs, SqT K H k xs) ∧ P k := ⟨a, rfl, ⟨xs, h⟩, q⟩
theorem e_rng1 {n : Int} {P : Int → Prop} (h1 : -(2 ^ 62) ≤ n) (h2 : n < 2 ^ 62) (q : P n) : ∃ j : Int, [V.int n] = [.int j] ∧ -(2 ^ 62) ≤ j ∧ j < 2 ^ 62 ∧ P j := ⟨n, rfl, h1, h2, q⟩
theorem e_rng2 {m n : Int} {P : Int → Int → Prop} (h : -(2 ^ 62) ≤ m ∧ m < 2 ^ 62 ∧ -(2 ^ 62) ≤ n ∧ n < 2 ^ 62) (q : P m n) : ∃ i j : Int, [V.int m, V.int n] = [.int i, .int j] ∧ (-(2 ^ 62) ≤ i ∧ i < 2 ^ 62 ∧ -(2 ^ 62) ≤ j ∧ j < 2 ^ 62) ∧ P i j := ⟨m, n, rfl, h, q⟩
theorem e_m0 {r : V → List V → Hp → VK → Prop} {to : TE} (q : to σ H fun x H1 => (∃ a, x = .str a) ∧ r x [] H1 Q) : tM0 r to σ H Q := q
theorem e_m1 {r : V → List V → Hp → VK → Prop} {to : TE} (q : to σ H fun x H1 => (∃ a, x = .str a) ∧ te σ H1 fun y H2 => r x [y] H2 Q) : tM1 r to te σ H Q := q
theorem e_slS {z : Str} {lo hi : Option Int} (h : z.length ≤ sizeLine) (q : Q (.str (cutS z lo hi)) H) : rSlS (.str z) lo hi H Q := ⟨z, rfl, h, q⟩
theorem e_iList {R : It → Hp → Prop} {tl : TE} (q : tl σ H fun x H1 => ∃ a, x = .ref a ∧ (∃ xs, SqL K H1 a xs) ∧ R (Itl K a) H1) : iList K tl σ H R := q
theorem e_iTup {R : It → Hp → Prop} {tl : TE} (q : tl σ H fun x H1 => ∃ a, x = .ref a ∧ (∃ xs, SqT K H1 a xs) ∧ R (Itt K a) H1) : iTup K tl σ H R := q
theorem e_iStr {R : It → Hp → Prop} {tl : TE} (q : tl σ H fun v H1 => ∃ x, v = .str x ∧ R (Its x) H1) : iStr tl σ H R := q
theorem e_iRng1 {R : It → Hp → Prop} (q : as σ H fun vs H1 => ∃ j : Int, vs = [.int j] ∧ -(2 ^ 62) ≤ j ∧ j < 2 ^ 62 ∧ R (Itr 0 j.toNat) H1) : iRng1 as σ H R := q
theorem e_iRng2 {R : It → Hp → Prop} (q : as σ H fun vs H1 => ∃ i j : Int, vs = [.int i, .int j] ∧ (-(2 ^ 62) ≤ i ∧ i < 2 ^ 62 ∧ -(2 ^ 62) ≤ j ∧ j < 2 ^ 62) ∧ R (Itr i (j - i).toNat) H1) : iRng2 as σ H R := q
theorem e_ixL {p : Addr} {xs : List V} {i : Int} (h : SqL K H p xs) (ha : atI xs i = some v) (q : Q v H) : rIxL K (.ref p) (.int i) H Q := ⟨p, xs, i, v, rfl, rfl, h, ha, q⟩
theorem e_ixT {p : Addr} {xs : List V} {i : Int} (h : SqT K H p xs) (ha : atI xs i = some v) (q : Q v H) : rIxT K (.ref p) (.int i) H Q := ⟨p, xs, i, v, rfl, rfl, h, ha, q⟩
theorem e_ixS {z : Str} {i : Int} {c : Nat} (hz : z.length ≤ sizeLine) (ha : atI z.cps.toList i = some c) (q : Q (.str ⟨#[c]⟩) H) : rIxS (.str z) (.int i) H Q := ⟨z, i, c, rfl, rfl, hz, ha, q⟩
theorem e_len {p : Addr} {ys : List V} (h : SqL K H p ys) (q : Q (.int ys.length) H) : ∃ p' ys', [V.ref p] = [V.ref p'] ∧ (SqL K H p' ys' ∨ SqT K H p' ys') ∧ Q (.int (ys'.length : Nat)) H := ⟨p, ys, rfl, .inl h, q⟩
theorem e_lenT {p : Addr} {ys : List V} (h : SqT K H p ys) (q : Q (.int ys.length) H) : ∃ p' ys', [V.ref p] = [V.ref p'] ∧ (SqL K H p' ys' ∨ SqT K H p' ys') ∧ Q (.int (ys'.length : Nat)) H := ⟨p, ys, rfl, .inr h, q⟩
theorem e_lenS {z : Str} (h : z.length ≤ sizeLine) (q : Q (.int z.length) H) : ∃ z', [V.str z] = [V.str z'] ∧ z'.length ≤ sizeLine ∧ Q (.int (z'.length : Nat)) H := ⟨z, rfl, h, q⟩
theorem e_int1 {i : Int} (q : Q (.int i) H) : (∃ i', [V.int i] = [V.int i'] ∧ Q (.int i') H) ∨ ∃ k, [V.int i] = [V.bl k] ∧ Q (.int (if k = true then 1 else 0)) H := .inl ⟨i, rfl, q⟩
theorem e_setL {p : Addr} {xs : List V} {k : Int} {j : Nat} {Q : Hp → Prop} (h : H p = some (.lst xs)) (hj : ixN xs.length k = some j) (q : Q (upd H p (.lst (xs.set j v)))) : rSetL (.ref p) (.int k) v H Q := ⟨p, xs, k, j, rfl, rfl, h, hj, q⟩
theorem e_cut {Mid : L2.St → Hp → Prop} (h1 : t { D with nx := Mid } σ H) (h2 : ∀ σ' H', Mid σ' H' → u D σ' H') : C8.tCut t u D σ H := ⟨Mid, h1, h2⟩
/-- a test that is known, or open -/
theorem i_T {A B : Prop} (h : A) : if true = true then A else B := by rw [if_pos rfl]; exact h
theorem i_F {A B : Prop} (h : B) : if false = true then A else B := by rw [if_neg Bool.false_ne_true]; exact h
theorem i_d {p : Prop} [Decidable p] {A B : Prop} (h1 : p → A) (h2 : ¬ p → B) : if decide p = true then A else B := by
  by_cases h : p
  · rw [decide_eq_true h]; exact i_T (h1 h)
  · rw [decide_eq_false h]; exact i_F (h2 h)
theorem i_nd {p : Prop} [Decidable p] {A B : Prop} (h1 : ¬ p → A) (h2 : p → B) : if (!decide p) = true then A else B := by
  by_cases h : p
  · rw [decide_eq_true h]; exact i_F (h2 h)
  · rw [decide_eq_false h]; exact i_T (h1 h)
theorem i_b {b : Bool} {A B : Prop} (h1 : b = true → A) (h2 : b = false → B) : if b = true then A else B := by
  cases b
  · exact i_F (h2 rfl)
  · exact i_T (h1 rfl)
theorem i_nself {b : Bool} {A B : Prop} (h : B) : if (!(b == b)) = true then A else B := by
  rw [beq_self_eq_true]; exact i_F h
theorem i_self {α : Type} [DecidableEq α] {x : α} {A B : Prop} (h : A) : if decide (x = x) = true then A else B := by
  rw [decide_eq_true rfl]; exact i_T h
theorem i_neself {α : Type} [DecidableEq α] {x : α} {A B : Prop} (h : B) : if (!decide (x = x)) = true then A else B := by
  rw [decide_eq_true rfl]; exact i_F h
theorem i_nb {b : Bool} {A B : Prop} (h1 : b = false → A) (h2 : b = true → B) : if (!b) = true then A else B := by
  cases b
  · exact i_T (h1 rfl)
  · exact i_F (h2 rfl)
end

section
variable {K : PySem.W.Frag} {H : Hp} {Q : VK}
theorem isi_ty {x : V} {t n : String} {b : Bool} (ty : TyX K H x (.type t)) (e : PySem.W.kitOne K (.type t) (.type n) = some b) (q : Q (.bl b) H) : rIsi K [x, .ty n] H Q := ⟨x, .ty n, _, _, b, rfl, .ty n, ty, e, q⟩
theorem isi_bb {x : Bool} (q : Q (.bl true) H) : rIsi K [.bl x, .ty "bool"] H Q := isi_ty (.base (.bl x)) (kit_ty (by decide +kernel)) q
theorem isi_ib {x : Int} (q : Q (.bl false) H) : rIsi K [.int x, .ty "bool"] H Q := isi_ty (.base (.int x)) (kit_ty (by decide +kernel)) q
theorem isi_bi {x : Bool} (q : Q (.bl true) H) : rIsi K [.bl x, .ty "int"] H Q := isi_ty (.base (.bl x)) (kit_ty (by decide +kernel)) q
theorem isi_ii {x : Int} (q : Q (.bl true) H) : rIsi K [.int x, .ty "int"] H Q := isi_ty (.base (.int x)) (kit_ty (by decide +kernel)) q
theorem isi_si {x : Str} (q : Q (.bl false) H) : rIsi K [.str x, .ty "int"] H Q := isi_ty (.base (.str x)) (kit_ty (by decide +kernel)) q
theorem isi_ni (q : Q (.bl false) H) : rIsi K [.non, .ty "int"] H Q := isi_ty (.base .non) (kit_ty (by decide +kernel)) q
theorem isi_tt {p : Addr} {xs : List V} (h : H p = some (.tup xs)) (q : Q (.bl true) H) : rIsi K [.ref p, .ty "tuple"] H Q := isi_ty (.base (.tup h)) (kit_ty (by decide +kernel)) q
theorem isi_ll {p : Addr} {xs : List V} (h : H p = some (.lst xs)) (q : Q (.bl true) H) : rIsi K [.ref p, .ty "list"] H Q := isi_ty (.base (.lst h)) (kit_ty (by decide +kernel)) q
theorem isi_lt {p : Addr} {xs : List V} (h : H p = some (.lst xs)) (q : Q (.bl false) H) : rIsi K [.ref p, .ty "tuple"] H Q := isi_ty (.base (.lst h)) (kit_ty (by decide +kernel)) q
end
/-! ### defs that are called by their names -/
structure Cal (P : Program) (w : World) (K : PySem.W.Frag) (mg : Str → Option Value) (base : Heap) (k : Nat) (x : Str) (sp : Sp) : Prop where
  ex : ∃ (f : Addr) (fd : FuncData) (ps : List Str), FnOk P w K mg base CX0 k f fd ps sp ∧ mg x = some (.ref f) ∧ PySem.W.keepIn K (.ref f) = true ∧ Binds K fd ps []
theorem pe_c {X : Cx} {k j : Nat} {x : Str} {sp : Sp} {p pos : Pos} {e : Expr} {es : List Expr} {t : TA} (c : Cal X.prog X.w X.K X.mg X.base k x sp) (hr : Room j X.A) (hk : k ≤ j) (hg : Gl X x) (ha : PA X (e :: es) t)
    (hdb : (x == ("__debug__" : Str)) = false := by decide) 
    (he : starEach (e :: es) X.env = (false, eval e X.env) :: starEach es X.env := by rfl) 
    (hpl : (backTo pos (starEach es X.env)).any (·.1) = false := by rfl) :
    PE X (.Call (.Name x p) (e :: es) [] pos) (tCall sp [] E0 t) := by
  obtain ⟨f, fd, ps, F, hm, kp, b⟩ := c.ex
  exact pe_call F (hr.mono hk) hg hm kp b .nil pass0 ha hdb he hpl
theorem pe_c0 {X : Cx} {k j : Nat} {x : Str} {sp : Sp} {p pos : Pos} (c : Cal X.prog X.w X.K X.mg X.base k x sp) (hr : Room j X.A) (hk : k ≤ j) (hg : Gl X x)
    (hdb : (x == ("__debug__" : Str)) = false := by decide) :
    PE X (.Call (.Name x p) [] [] pos) (tCall sp [] E0 tNil) := by
  obtain ⟨f, fd, ps, F, hm, kp, b⟩ := c.ex
  exact pe_call0 F (hr.mono hk) hg hm kp b .nil pass0 hdb

/-- promises by arity -/
abbrev sp0 (R : Hp → VK → Prop) : Sp := fun vs H Q _ => vs = [] ∧ R H Q
abbrev sp1 (R : V → Hp → VK → Prop) : Sp := fun vs H Q _ => ∃ a, vs = [a] ∧ R a H Q
abbrev sp2 (R : V → V → Hp → VK → Prop) : Sp := fun vs H Q _ => ∃ a b, vs = [a, b] ∧ R a b H Q
abbrev sp3 (R : V → V → V → Hp → VK → Prop) : Sp := fun vs H Q _ => ∃ a b c, vs = [a, b, c] ∧ R a b c H Q
abbrev sp4 (R : V → V → V → V → Hp → VK → Prop) : Sp := fun vs H Q _ => ∃ a b c d, vs = [a, b, c, d] ∧ R a b c d H Q


theorem sz_of {n : Nat} (h : n ≤ 1000000) : n ≤ sizeLine := Nat.le_trans h (by decide)
/-! ### heaps: all but one address as it was -/
def Kp (st : Addr) (H H' : Hp) : Prop := ∀ b o, b ≠ st → H b = some o → H' b = some o
theorem Kp.refl (st : Addr) (H : Hp) : Kp st H H := fun _ _ _ h => h
theorem Kp.trans {st : Addr} {H H1 H2 : Hp} (a : Kp st H H1) (b : Kp st H1 H2) : Kp st H H2 := fun c o n h => b c o n (a c o n h)
theorem Kp.of {st : Addr} {H H' : Hp} (a : Same H H') : Kp st H H' := fun c o _ h => a c o h
theorem same_new {H : Hp} {p : Addr} {o : HO} (h : H p = none) : Same H (upd H p o) := fun b x e => by
  rw [upd_ne (ne_of_none e h)]
  exact e
theorem Kp.new {st p : Addr} {H : Hp} {o : HO} (h : H p = none) : Kp st H (upd H p o) := Kp.of (same_new h)
/-- an object that was not there at first may change -/
theorem Kp.mut {st p : Addr} {H H' : Hp} {o : HO} (a : Kp st H H') (h : H p = none) : Kp st H (upd H' p o) := fun b x n e => by
  rw [upd_ne (ne_of_none e h)]
  exact a b x n e
theorem Kp.put {st : Addr} {H H' : Hp} {o : HO} (a : Kp st H H') : Kp st H (upd H' st o) := fun b x n e => by
  rw [upd_ne n]
  exact a b x n e
theorem Same.mut {p : Addr} {H H' : Hp} {o : HO} (a : Same H H') (h : H p = none) : Same H (upd H' p o) := fun b x e => by
  rw [upd_ne (ne_of_none e h)]
  exact a b x e
theorem Kp.free {st p : Addr} {H H' : Hp} (a : Kp st H H') (hs : ∃ o, H' st = some o) (h : H' p = none) : H p = none := by
  cases q : H p with
  | none => rfl
  | some o =>
    by_cases e : p = st
    · obtain ⟨o', h'⟩ := hs
      rw [e, h'] at h
      cases h
    · rw [a p o e q] at h
      cases h

/-- the state of the draws and the script: two ints at st, the script at sc whatever is drawn -/
structure Dr (K : PySem.W.Frag) (st sc : Addr) (ns : List Int) (H : Hp) : Prop where
  s : ∃ a b : Int, 0 ≤ a ∧ 0 ≤ b ∧ H st = some (.lst [.int a, .int b])
  sc : ∀ H', Kp st H H' → SqL K H' sc (ns.map V.int)
  len : ns.length ≤ 63
theorem Dr.kp {K : PySem.W.Frag} {st sc : Addr} {ns : List Int} {H H' : Hp} (d : Dr K st sc ns H) (k : Kp st H H') (s : ∃ a b : Int, 0 ≤ a ∧ 0 ≤ b ∧ H' st = some (.lst [.int a, .int b])) : Dr K st sc ns H' :=
  ⟨s, fun H2 k2 => d.sc H2 (k.trans k2), d.len⟩
theorem Dr.same {K : PySem.W.Frag} {st sc : Addr} {ns : List Int} {H H' : Hp} (d : Dr K st sc ns H) (k : Same H H') : Dr K st sc ns H' := by
  obtain ⟨a, b, h1, h2, h3⟩ := d.s
  exact d.kp (Kp.of k) ⟨a, b, h1, h2, k _ _ h3⟩
theorem Dr.seq {K : PySem.W.Frag} {st sc : Addr} {ns : List Int} {H : Hp} (d : Dr K st sc ns H) : SqL K H sc (ns.map V.int) := d.sc H (Kp.refl st H)
theorem sq_keep {K : PySem.W.Frag} {H H' : Hp} {a p : Addr} {xs : List V} (h : SqL K H a xs) (hp : H p = none) (k : Kp p H H') : SqL K H' a xs := by
  rcases h with (h | ⟨c9, h⟩) | h
  · exact .inl (.inl (k _ _ (ne_of_none h hp) h))
  · exact .inl (.inr ⟨c9, k _ _ (ne_of_none h hp) h⟩)
  · exact .inr h
theorem Dr.start {K : PySem.W.Frag} {st sc : Addr} {ns : List Int} {H : Hp} (h : SqL K H sc (ns.map V.int)) (hp : H st = none) (hl : ns.length ≤ 63) : Dr K st sc ns (upd H st (.lst [.int 0, .int 0])) :=
  ⟨⟨0, 0, by decide, by decide, upd_same⟩, fun H' k => sq_keep h hp fun b o n e => k b o n (by rw [upd_ne n]; exact e), hl⟩
theorem Dr.ne {K : PySem.W.Frag} {st sc p : Addr} {ns : List Int} {H : Hp} (d : Dr K st sc ns H) (h : H p = none) : p ≠ st := by
  obtain ⟨a, b, _, _, h3⟩ := d.s
  intro e
  rw [e, h3] at h
  cases h
theorem pick_int {l : List Int} {d : Int} (h0 : 0 ≤ d) (h1 : d < l.length) : ∃ n, n ∈ l ∧ atI (l.map V.int) d = some (.int n) := by
  have h : d.toNat < l.length := by omega
  exact ⟨l[d.toNat], List.getElem_mem h, at_of (j := d.toNat) (by omega) (by rw [List.getElem?_map, List.getElem?_eq_getElem h]; rfl)⟩
theorem pick_nat {l : List Nat} {d : Int} (h0 : 0 ≤ d) (h1 : d < l.length) : ∃ n, n ∈ l ∧ atI l d = some n := by
  have h : d.toNat < l.length := by omega
  obtain ⟨j, hj⟩ : ∃ j : Nat, d = (j : Int) := ⟨d.toNat, by omega⟩
  have h2 : j < l.length := by omega
  subst hj
  exact ⟨l[j], List.getElem_mem h2, atI_nat (List.getElem?_eq_getElem h2)⟩
theorem at_last {ns : List Int} (h : 0 < ns.length) : ∃ x, atI (ns.map V.int) (-1) = some (.int x) := by
  have e : ns = ns.dropLast ++ [ns.getLast (by intro q; rw [q] at h; cases h)] := (List.dropLast_concat_getLast _).symm
  rw [e, List.map_append]
  exact ⟨_, atI_last _ _⟩
theorem pick_sign {z : Str} {d : Int} (h0 : 0 ≤ d) (h1 : d < (z.length : Int)) : ∃ c, c ∈ z.cps.toList ∧ atI z.cps.toList d = some c :=
  pick_nat h0 (by simpa [Str.length] using h1)
theorem len_app (a b : Str) : (a ++ b).length = a.length + b.length := PySem.Str.length_append a b
/-- what a call behind which only the draws' state has changed hands on -/
def RDraw (K : PySem.W.Frag) (st sc : Addr) (ns : List Int) (H : Hp) (G : Hp → Prop) : Prop := Dr K st sc ns H ∧ ∀ H', Kp st H H' → Dr K st sc ns H' → G H'
theorem Dr.mut {K : PySem.W.Frag} {st sc p : Addr} {ns : List Int} {H0 H1 : Hp} {o : HO} (d0 : Dr K st sc ns H0) (d : Dr K st sc ns H1) (hp : H0 p = none) (k : Kp st H0 H1) : Dr K st sc ns (upd H1 p o) := by
  obtain ⟨a, b, h1, h2, h3⟩ := d.s
  exact d0.kp (k.mut hp) ⟨a, b, h1, h2, by rw [upd_ne (d0.ne hp).symm]; exact h3⟩
section
variable {K : PySem.W.Frag} {g : TG} {σ : L2.St} {te : TE} {vs : List Nat} {Q : VK} {Da st sc : Addr} {ns : List Int} {H0 : Hp}
/-- [e for k in range(..)], e with draws -/
theorem lc_dr {lo : Int} {n : Nat} (d0 : Dr K st sc ns H0) (hD : H0 Da = none) (hn : n ≤ 1000000) (Pe : V → Prop)
    (hs : ∀ (i : Nat) (H2 : Hp) (C : VK) (E : Hp → Prop), i < n → Kp st H0 H2 → Dr K st sc ns H2 → (∀ y H3, Kp st H2 H3 → Dr K st sc ns H3 → Pe y → C y H3) →
      g (.int (lo + i)) (wipe σ vs) H2 fun σ2 H2 => wipe σ2 vs = wipe σ vs ∧ tYes σ2 H2 fun b H3 => if b = true then te σ2 H3 C else E H3)
    (hd : ∀ (H : Hp) (xs : List V), Kp st H0 H → Dr K st sc ns H → H Da = some (.lst xs) → xs.length = n → (∀ x ∈ xs, Pe x) → Q (.ref Da) H) : LcB (Itr lo n) g tYes te vs σ Da H0 Q := by
  have nD := d0.ne hD
  refine lc_rng (fun i H2 => Kp st H0 H2 ∧ Dr K st sc ns H2 ∧ ∃ xs : List V, H2 Da = some (.lst xs) ∧ xs.length = i ∧ ∀ x ∈ xs, Pe x) ⟨Kp.new hD, d0.same (same_new hD), [], upd_same, rfl, fun _ hy => by cases hy⟩ (fun i H2 hi p => ?_) (fun H2 p => ?_)
  · obtain ⟨k4, d4, xs, e4, l4, o4⟩ := p
    refine hs i H2 _ _ hi k4 d4 fun y H3 k5 d5 hy => ?_
    refine ⟨xs, k5 _ _ nD e4, Nat.lt_of_le_of_lt (Nat.le_of_lt (by omega : xs.length < 1000001)) (by decide), (k4.trans k5).mut hD, Dr.mut d0 d5 hD (k4.trans k5), xs ++ [y], upd_same, by simp [l4], fun z hz => ?_⟩
    rcases List.mem_append.mp hz with h | h
    · exact o4 z h
    · rw [List.mem_singleton.mp h]; exact hy
  · obtain ⟨k4, d4, xs, e4, l4, o4⟩ := p
    exact hd H2 xs k4 d4 e4 l4 o4
/-- [e for k in range(..)], e a function of k -/
theorem lc_map_rng {lo : Int} {n : Nat} (hD : H0 Da = none) (hn : n ≤ 1000000) (f : Nat → V)
    (hs : ∀ (i : Nat) (H2 : Hp) (C : VK) (E : Hp → Prop), i < n → Same H0 H2 → (∀ H3, Same H2 H3 → C (f i) H3) →
      g (.int (lo + i)) (wipe σ vs) H2 fun σ2 H2 => wipe σ2 vs = wipe σ vs ∧ tYes σ2 H2 fun b H3 => if b = true then te σ2 H3 C else E H3)
    (hd : ∀ (H : Hp), Same H0 H → H Da = some (.lst ((List.range n).map f)) → Q (.ref Da) H) : LcB (Itr lo n) g tYes te vs σ Da H0 Q := by
  refine lc_rng (fun i H2 => Same H0 H2 ∧ H2 Da = some (.lst ((List.range i).map f))) ⟨same_new hD, upd_same⟩ (fun i H2 hi p => ?_) (fun H2 p => hd H2 p.1 p.2)
  obtain ⟨k4, e4⟩ := p
  refine hs i H2 _ _ hi k4 fun H3 k5 => ?_
  refine ⟨_, k5 _ _ e4, Nat.lt_of_le_of_lt (by simp; omega : _ ≤ 1000000) (by decide), Same.mut (k4.trans k5) hD, ?_⟩
  rw [upd_same, List.range_succ, List.map_append]
  rfl
/-- [e for x in xs], a list, e a function of x -/
theorem lc_map_lst {a : Addr} {xs : List V} (hS : SqL K H0 a xs) (hD : H0 Da = none) (hn : xs.length ≤ 1000000) (f : V → V)
    (hs : ∀ (x : V) (H2 : Hp) (C : VK) (E : Hp → Prop), x ∈ xs → Same H0 H2 → (∀ H3, Same H2 H3 → C (f x) H3) →
      g x (wipe σ vs) H2 fun σ2 H2 => wipe σ2 vs = wipe σ vs ∧ tYes σ2 H2 fun b H3 => if b = true then te σ2 H3 C else E H3)
    (hd : ∀ (H : Hp), Same H0 H → H Da = some (.lst (xs.map f)) → Q (.ref Da) H) : LcB (Itl K a) g tYes te vs σ Da H0 Q := by
  refine lc_lst (xs := xs) (fun pre H2 => Same H0 H2 ∧ H2 Da = some (.lst (pre.map f)) ∧ pre.length ≤ xs.length) ⟨same_new hD, upd_same, Nat.zero_le _⟩ (fun pre H2 p => p.1.seq hS) (fun pre x post H2 e p => ?_) (fun H2 p => hd H2 p.1 p.2.1)
  obtain ⟨k4, e4, l4⟩ := p
  refine hs x H2 _ _ (by rw [e]; simp) k4 fun H3 k5 => ?_
  refine ⟨_, k5 _ _ e4, Nat.lt_of_le_of_lt (by simp; omega : _ ≤ 1000000) (by decide), Same.mut (k4.trans k5) hD, ?_, by rw [e]; simp⟩
  rw [upd_same, List.map_append]
  rfl
end
/-- a draw: any number below the size -/
def spDraw (K : PySem.W.Frag) : Sp := sp3 fun a b c H Q => ∃ (st sc : Addr) (ns : List Int) (n : Int), a = .ref st ∧ b = .ref sc ∧ c = .int n ∧ Dr K st sc ns H ∧ 0 < n ∧ n < 2 ^ 60 ∧
  ∀ (d : Int) (H' : Hp), 0 ≤ d → d < n → Kp st H H' → Dr K st sc ns H' → Q (.int d) H'

abbrev FnP (K : PySem.W.Frag) (x : Str) (st : Stmt) (f : Addr) (fd : FuncData) : Prop :=
  FunD K x x (defArgs st) (defBody st) (defScope st) [] [] f fd
end Vf

namespace PySem
open Sem (wp)
theorem meets_enumerate_newTup (l : Addr) (row : Array Value) (ob : Obj) (cap : Nat) :
    Meets (Builtin.«enumerate.__new__» ⟨[.type "enumerate", .ref l], []⟩) (fun _ R s => (s.heap.get? l = some ob ∧ ob.cls = .type "tuple" ∧ ob.data = .seq row cap) ∧
      R (.ok (.ret (.ref (s.heap.push { cls := .type "tuple_iterator", data := .fields #[.ref l, .int 0 0] }).objs.size)))
        { s with heap := (s.heap.push { cls := .type "tuple_iterator", data := .fields #[.ref l, .int 0 0] }).push { cls := .type "enumerate", data := .fields #[.none, .bool false, .ref s.heap.objs.size, rawInt 0, .none, .none] } }) :=
  .of_wp fun prg w A R s h => by
    obtain ⟨hp, g, d, tk, os⟩ := s; obtain ⟨⟨hl9, wc, wd⟩, h⟩ := h
    have hsub := sub_enumerate
    have isT : Heap.IsTuple (Shared.heap ⟨hp, g, d, tk, os⟩) l row := ⟨_, hl9, wc, cap, wd⟩
    have q1 : ∀ {A' : Around} {E : Value → Shared → Prop} {Q : Value → Shared → Prop}, Q (.ref hp.objs.size) ⟨hp.push { cls := .type "tuple_iterator", data := .fields #[.ref l, .int 0 0] }, g, d, tk, os⟩ → wpAny (model prg w) A' (pyIter (.ref l)) Q E ⟨hp, g, d, tk, os⟩ :=
      fun q => wpAny_pyIter_tuple isT q
    wp_walk using q1
    refine wpAny_stack_any fun here => wpAny_pure ?_
    split
    · rename_i cls9 _ _ _ _ _
      cases (cls9 == Value.type "enumerate")
      · wp_walk using q1
        exact ⟨_, rfl, h⟩
      · wp_walk using q1
        exact ⟨_, rfl, h⟩
    · wp_walk using q1
      exact ⟨_, rfl, h⟩
section
variable {prg : Program} {w : World} {A : Around} {E : Value → Shared → Prop} {s : Shared}
/-- the object that enumerate makes, and the turning over a tuple -/
abbrev enOf (it : Addr) : Obj := { data := .fields #[.none, .bool false, .ref it, rawInt 0, .none, .none], cls := .type "enumerate" }
abbrev tiOf (l : Addr) : Obj := { data := .fields #[.ref l, .int 0 0], cls := .type "tuple_iterator" }
theorem call_enumerate_tup {l : Addr} {row : Array Value} {Q : Value → Shared → Prop} (isT : s.heap.IsTuple l row)
    (h : ∀ h', IsEnum h' (s.heap.objs.size + 1) s.heap.objs.size 0 .none → h'.IsTupleIter s.heap.objs.size l 0 → h'.objs.size = s.heap.objs.size + 2 →
      (∀ bb ob, s.heap.get? bb = some ob → h'.get? bb = some ob) → Q (.ref (s.heap.objs.size + 1)) { s with heap := h' }) :
    wpAny (model prg w) A
      (call (.type "enumerate") [.ref l]) Q E s := by
  obtain ⟨ob, hl9, wc, cap, wd⟩ := isT
  refine callType_new F.called_enumerate (by decide) (F.typeCall_enumerate_1 _)
    (F.newCall_enumerate_1 _) (fun it => F.args_object_init_2 it _) F.entry_enumerate_new (meets_enumerate_newTup l row ob cap) ⟨⟨hl9, wc, wd⟩, ?_⟩
  have szz : (s.heap.push (tiOf l)).objs.size = s.heap.objs.size + 1 := Heap.size_push ..
  show _ ∧ _
  rw [szz]
  have qe : IsEnum ((s.heap.push (tiOf l)).push
      (enOf s.heap.objs.size)) (s.heap.objs.size + 1) s.heap.objs.size 0 .none := by
    have := Heap.get?_push_size (s.heap.push (tiOf l))
      (o := enOf s.heap.objs.size) rfl
    rw [szz] at this; exact this
  refine ⟨⟨_, qe, rfl⟩, h _ qe ⟨_, Heap.get?_push_of_some _ (Heap.get?_push_size _ rfl), rfl, rfl⟩ (by rw [Heap.size_push, szz]) fun bb ob x => Heap.get?_push_of_some _ (Heap.get?_push_of_some _ x)⟩
theorem enumT_end {e it t : Addr} {i : Nat} {row : Array Value} {prev : Value} {Q : Option Value → Shared → Prop} (hh : A.handled = none)
    (qe : IsEnum s.heap e it i prev) (qi : s.heap.IsTupleIter it t i) (hl9 : s.heap.IsTuple t row) (ne2 : t ≠ it) (atx : row[i]? = none)
    (hQ : ∀ h', Heap.ExtBut it s.heap h' → Q none { s with heap := h' }) : wpAny (model prg w) A (pyNext (.ref e)) Q E s := by
  have ty1 : s.TypeIs (.ref e) "enumerate" := ⟨_, qe, rfl⟩
  unfold pyNext
  refine wpAny_bind (wpAny_attempt (wpAny_callSpecial?_slot (name := Str.ofString "__next__") ty1 F.slot_enumerate_next
    (wpAny_call_entry F.slot_enumerate_next ty1 F.entry_enumerate_next ?_ (F.args_enumerate_next_1 _))))
  show wpAny (model prg w) A.in1
    (field (.ref e) 2 >>= _) _ _ s
  refine wpAny_bind (wpAny_field qe rfl (x := .ref it) rfl ?_)
  refine wpAny_bind (wpAny_nextOf_tuple_end hh qi hl9 atx fun h' x he' hx' => ?_)
  obtain ⟨ob, wo, wc⟩ := hx'
  refine wpAny_bind (wpAny_isInstance (T := "StopIteration") (b := true) ⟨ob, wo, wc⟩ isSubtype_stop ?_)
  exact wpAny_pure (hQ _ he')
end
end PySem
namespace Vf
open PySem L2 PySem.Spec PyProof.Rows
/-- enumerate(t), t a tuple -/
def IteT (K : PySem.W.Frag) (a : Addr) : It :=
  ⟨fun i H => ∃ (xs : List V) (x : V), SqT K H a xs ∧ xs[i]? = some x, fun i H v H' => ∃ T x, v = .ref T ∧ H T = none ∧ H' = upd H T (.tup [.int (i : Nat), x]) ∧ ∀ xs, SqT K H a xs → xs[i]? = some x, fun i H => ∃ xs : List V, SqT K H a xs ∧ xs.length ≤ i⟩
theorem turn_enumT {P : Program} {w : World} {K : PySem.W.Frag} {elts : List Expr} {kk : Nat} {tpos : Pos} (a e it : Addr) :
    Turn P w K (.Tuple elts kk tpos) (IteT K a) [e, it] e (fun i h => (∃ prev, IsEnum h e it ((i : Nat) : Int) prev) ∧ h.IsTupleIter it a i ∧ e ≠ it) where
  mem := by simp
  obj := fun i h here bb mb => by
    obtain ⟨⟨prev, qe⟩, ⟨ob, wo, wc, wd⟩, _⟩ := here
    have e' : bb = e ∨ bb = it := by simpa using mb
    rcases e' with z | z
    · rw [z]; exact ⟨_, qe, fun v q => nomatch q⟩
    · rw [z]; exact ⟨ob, wo, fun v q => by rw [wd] at q; cases q⟩
  keep := fun i h h' here k => let ⟨⟨prev, qe⟩, hi9, qn⟩ := here; ⟨⟨prev, k e (by simp) _ qe⟩, hi9.at fun ob q => k it (by simp) ob q, qn⟩
  item := by
    intro X hP hw hK wc i pins s σ H E I fp here got
    subst hP hw hK
    obtain ⟨⟨prev, qe⟩, qi, qn⟩ := here
    obtain ⟨xs, x, wq, atx⟩ := got
    obtain ⟨cells, rds, p, szz⟩ := I.tuple wq
    obtain ⟨u, mu, rdu⟩ := rds.get atx
    have le1 : e < s.heap.objs.size := Heap.lt_size qe
    have le2 : it < s.heap.objs.size := by obtain ⟨_, q, _⟩ := qi; exact Heap.lt_size q
    have ne1 : a ≠ e := by
      intro z
      obtain ⟨ob, wo, hc2, _⟩ := p
      rw [z, qe] at wo
      cases wo
      injection hc2 with q
      exact absurd q (by decide)
    have ne2 : a ≠ it := by
      intro z
      obtain ⟨ob, wo, hc2, _⟩ := p
      obtain ⟨o2, ho2, hc3, _⟩ := qi
      rw [z, ho2] at wo
      cases wo
      rw [hc3] at hc2
      injection hc2 with q
      exact absurd q (by decide)
    have hlt : i < cells.toArray.size := by
      have := (List.getElem?_eq_some_iff.mp mu).1
      simpa using this
    refine wpAny_pyNext_enum_itemD (Draws.tuple (A := X.A.in1) (show X.A.in1.handled = none from I.ok.hd wc) it a ne2 cells.toArray) qe ⟨qi, p⟩ hlt qn (by simp [qn, Ne.symm ne1]) fun x' h' tk hP wo hst' ty1 hsz keep1 => ?_
    have ex : x' = u := by
      have q1 : cells[i]? = some x' := by simpa using hP
      exact Option.some.inj (q1.symm.trans mu)
    subst ex
    refine ⟨_, rfl, wpAny_letOwnedTupleGo_enum (s := { s with heap := h', toks := tk + 1 }) wo fun h'' he' only1 => ?_⟩
    have ty2 : h''.get? s.heap.objs.size = some { cls := .type "tuple", data := .seq #[.int i tk, x'] } := (only1.2 _ (Nat.ne_of_gt le1)).trans ty1
    have fresh1 : ObjOk X.prog X.w (upd H s.heap.objs.size (.tup [.int (i : Nat), x])) h'' s.heap.objs.size (.tup [.int (i : Nat), x]) :=
      ⟨by show 2 ≤ sizeLine; decide, [.int i tk, x'], .cons ⟨_, rfl⟩ (.cons rdu .nil), ⟨_, ty2, rfl, _, rfl⟩⟩
    have J1 : Inv X pins σ (upd H s.heap.objs.size (.tup [.int (i : Nat), x])) { s with heap := h'', toks := tk + 1 } :=
      I.turnedNew (ch := [e, it]) (fun bb ob mb q => (only1.2 bb (fun z => mb (by simp [z]))).trans (keep1 bb ob (fun z => mb (by simp [z])) (fun z => mb (by simp [z])) q)) fp (Nat.le_refl _) fresh1
    refine ⟨.ref s.heap.objs.size, _, J1, rfl, ⟨_, x, rfl, I.hok.fresh (Nat.le_refl _), rfl, fun ys hy => by rw [I.tuple_inj hy wq]; exact atx⟩, ⟨⟨x', ?_⟩, hst'.1.at fun ob q => (only1.2 it (Ne.symm qn)).trans q, qn⟩, fun bb mb => ?_⟩
    · have up1 : ((i + 1 : Nat) : Int) = (i : Int) + 1 := by
        omega
      rw [up1]; exact he'
    · have below : bb < s.heap.objs.size := by
        have two : bb = e ∨ bb = it := by simpa using mb
        rcases two with rfl | rfl
        · exact le1
        · exact le2
      rw [upd_ne (Nat.ne_of_lt below)]
      exact (fp bb mb).1
  done := by
    intro X hP hw hK wc i pins s σ H E I fp here got
    subst hP hw hK
    obtain ⟨⟨prev, qe⟩, qi, qn⟩ := here
    obtain ⟨xs, wq, atx⟩ := got
    obtain ⟨cells, rds, p, szz⟩ := I.tuple wq
    obtain ⟨f0, f1, f2, f3, f4, f5⟩ := fp it (by simp)
    have hl := rds.length
    have ne2 : a ≠ it := by
      intro z
      obtain ⟨ob, wo, hc2, _⟩ := p
      obtain ⟨o2, ho2, hc3, _⟩ := qi
      rw [z, ho2] at wo
      cases wo
      rw [hc3] at hc2
      injection hc2 with q
      exact absurd q (by decide)
    refine enumT_end (I.ok.hd wc) qe qi p ne2 (by simp; omega) fun h' eb => ⟨rfl, I.turned (t' := s.toks) (fun bb ob mb q => eb bb ob mb q) f0 f1 f3 f4 f5⟩
  self := fun A i s Q E here h => let ⟨⟨_, qe⟩, _⟩ := here; wpAny_pyIter_enum qe h
def iEnumT (K : PySem.W.Frag) (ta : TA) : TI := fun σ H R => ta σ H fun vs H1 => ∃ a xs, vs = [.ref a] ∧ SqT K H1 a xs ∧ R (IteT K a) H1
theorem pi_enumT {X : Cx} {e : Expr} {ta : TA} {p pos tpos : Pos} {elts : List Expr} {kk : Nat} (got : Gl X "enumerate") (hm : X.mg "enumerate" = none) (ha : PA X [e] ta) (hs : starEach [e] X.env = [(false, eval e X.env)] := by rfl) :
    PI X (.Tuple elts kk tpos) (.Call (.Name "enumerate" p) [e] [] pos) (iEnumT X.K ta) := by
  constructor
  intro pins s σ H R I h
  refine Call_ (ld_blt I got hm boot_enumerate (PyProof.Rows.callWith_type1 (thn (ha.run pos pins s σ H _ I h) fun us s1 ⟨vs, H1, J1, r1, q1⟩ => ?_) hs rfl))
  obtain ⟨a, xs, ex, wq, q⟩ := q1
  subst ex
  cases r1 with
  | cons r rr =>
    cases rr
    cases r
    obtain ⟨cells, rds, p', szz⟩ := J1.tuple wq
    refine call_enumerate_tup p' fun h' qe qi hsz keep1 => wpAny_pyIter_enum qe ?_
    have J2 : Inv X pins σ H1 { s1 with heap := h' } := J1.kept (t' := s1.toks) keep1
    refine ⟨s1.heap.objs.size + 1, [s1.heap.objs.size + 1, s1.heap.objs.size], _, _, H1, rfl, J2, turn_enumT a (s1.heap.objs.size + 1) s1.heap.objs.size, ⟨⟨.none, qe⟩, qi, Nat.succ_ne_self _⟩, fun bb mb => ?_, q⟩
    have e' : bb = s1.heap.objs.size + 1 ∨ bb = s1.heap.objs.size := by simpa using mb
    have above : bb ≥ s1.heap.objs.size := by
      rcases e' with w9 | w9 <;> rw [w9]
      · exact Nat.le_succ _
      · exact Nat.le.refl
    exact J1.fpOk above (J1.hok.fresh above)
/-- enumerate of a list or of a tuple -/
theorem pi_or {X : Cx} {tg l : Expr} {w1 w2 : TI} (h1 : PI X tg l w1) (h2 : PI X tg l w2) : PI X tg l (fun σ H R => w1 σ H R ∨ w2 σ H R) := ⟨fun pins s σ H R I h => by
  rcases h with h | h
  · exact h1.run pins s σ H R I h
  · exact h2.run pins s σ H R I h⟩
end Vf

namespace Vf
open PySem L2 PySem.Spec PyProof.Rows
/-! ### rules with the written part named (inside a comprehension nothing may lean on its block) -/
section
variable {X : Cx} (K : PySem.W.Frag) {pos : Pos}
theorem ixL (hK : X.K = K := by rfl) : IxR X (rIxL K) := hK ▸ ix_list
theorem ixT (hK : X.K = K := by rfl) : IxR X (rIxT K) := hK ▸ ix_tup
theorem slL (hK : X.K = K := by rfl) : SlR X (rSlL K) := hK ▸ sl_list
theorem slT (hK : X.K = K := by rfl) : SlR X (rSlA K) := hK ▸ sl_tupA
theorem eqDK (hu : X.A.units + 64 < cLine) (hK : X.K = K := by rfl) : OpR X (compareOp .Eq) (rEqD K) := hK ▸ op_eqD hu
theorem neDK (hu : X.A.units + 64 < cLine) (hK : X.K = K := by rfl) : OpR X (compareOp .NotEq) (rNeD K) := hK ▸ op_neD hu
theorem inSK (hK : X.K = K := by rfl) : OpR X (compareOp .In) (rIn K false) := hK ▸ op_in_seq
theorem niSK (hK : X.K = K := by rfl) : OpR X (compareOp .NotIn) (rIn K true) := hK ▸ op_notIn_seq
theorem lenSK (hK : X.K = K := by rfl) : CallR X (.builtin "len") (fun xs H Q => ∃ p ys, xs = [.ref p] ∧ (SqL K H p ys ∨ SqT K H p ys) ∧ Q (.int (ys.length : Nat)) H) := hK ▸ call_len_seq
theorem lstOK (hK : X.K = K := by rfl) : CallR X (.type "list") (fun xs H Q => ∃ p ys, xs = [.ref p] ∧ (SqL K H p ys ∨ SqT K H p ys) ∧ ∀ l, H l = none → Q (.ref l) (upd H l (.lst ys))) := hK ▸ call_list_of
theorem isiK (hK : X.K = K := by rfl) : CallR X (.builtin "isinstance") (rIsi K) := hK ▸ call_isi
theorem pe_fldK {e : Expr} {f : Str} {ta : TE} (ha : PE X e ta) (hb : attributeBase e f X.env (eval e X.env) = eval e X.env := by rfl) (hK : X.K = K := by rfl) : PE X (.Attribute e f pos) (tFld K ta f) := hK ▸ pe_fld ha hb
theorem pg_tupK {es : List Expr} {k : Nat} {t : TGs} {n : Nat} (hc : X.calm = true) (h : PGs X es t)
    (hn : (assignEach es X.env).length = n := by rfl) (hst : (assignEach es X.env).findIdx? (·.1) = none := by rfl) (hK : X.K = K := by rfl) : PG X (.Tuple es k pos) (gTup K n t) := hK ▸ pg_tup hc h hn hst
end
/-! ### readings of these -/
section
variable {σ : L2.St} {H : Hp} {K : PySem.W.Frag} {ta tb : TE} {as : TA}
theorem e_iRevR {tr : L2.St → Hp → (Int → Int → Hp → Prop) → Prop} {R : It → Hp → Prop} (q : tr σ H fun a b H1 => -(2 ^ 62) ≤ a ∧ a < 2 ^ 62 ∧ -(2 ^ 62) ≤ b ∧ b < 2 ^ 62 ∧ R (Itc (a + (((b - a).toNat : Nat) : Int) - 1) (-1) (b - a).toNat) H1) : iRevR tr σ H R := q
theorem e_rg1 {Q : Int → Int → Hp → Prop} (q : ta σ H fun x H1 => ∃ n, x = .int n ∧ Q 0 n H1) : tRg1 ta σ H Q := q
theorem e_rg2 {Q : Int → Int → Hp → Prop} (q : ta σ H fun x H1 => tb σ H1 fun y H2 => ∃ i j, x = .int i ∧ y = .int j ∧ Q i j H2) : tRg2 ta tb σ H Q := q
theorem e_iEnum {R : It → Hp → Prop} (q : as σ H fun vs H1 => ∃ a xs, vs = [.ref a] ∧ SqL K H1 a xs ∧ R (Ite K a) H1) : iEnum K as σ H R := q
theorem e_iEnumT {R : It → Hp → Prop} (q : as σ H fun vs H1 => ∃ a xs, vs = [.ref a] ∧ SqT K H1 a xs ∧ R (IteT K a) H1) : iEnumT K as σ H R := q
theorem e_iRng3 {R : It → Hp → Prop} (q : as σ H fun vs H1 => ∃ (i j c : Int) (n : Nat), vs = [.int i, .int j, .int c] ∧ RgC i j c n ∧ R (Itc i c n) H1) : iRng3 as σ H R := q
theorem e_slL {Q : VK} {p : Addr} {xs : List V} {lo hi : Option Int} (h : SqL K H p xs) (q : ∀ r, H r = none → Q (.ref r) (upd H r (.lst (cutV xs lo hi)))) : rSlL K (.ref p) lo hi H Q := ⟨p, xs, rfl, h, q⟩
theorem e_app {Q : VK} {l : Addr} {xs : List V} {y : V} (h : H l = some (.lst xs)) (hz : xs.length < sizeLine) (q : Q .non (upd H l (.lst (xs ++ [y])))) : rAppend (.ref l) [y] H Q := ⟨l, xs, y, rfl, rfl, h, hz, q⟩
theorem e_ext {Q : VK} {l b : Addr} {xs zs : List V} (h : H l = some (.lst xs)) (hb : H b = some (.lst zs)) (hz : xs.length + zs.length ≤ sizeLine) (q : Q .non (upd H l (.lst (xs ++ zs)))) : rExtend (.ref l) [.ref b] H Q := ⟨l, b, xs, zs, rfl, rfl, h, hb, hz, q⟩
end
/-! ### rows of ints as data -/
abbrev Di (l : List Int) : List PyData := l.map PyData.int
theorem dpAll_ints {K : PySem.W.Frag} {H : Hp} : ∀ xs : List Int, DpAll K H (xs.map V.int) (Di xs)
  | [] => .nil
  | x :: r => .cons (.int x) (dpAll_ints r)
theorem eqvAll_ints : ∀ xs ys : List Int, PyData.eqvAll (Di xs) (Di ys) = decide (xs = ys)
  | [], [] => by
      simp [PyData.eqvAll]
  | [], _ :: _ => by
      simp [PyData.eqvAll]
  | _ :: _, [] => by
      simp [PyData.eqvAll]
  | x :: xs, y :: ys => by
    have ih := eqvAll_ints xs ys
    show (PyData.eqv (.int x) (.int y) && PyData.eqvAll (Di xs) (Di ys)) = _
    rw [ih]
    show ((x == y) && decide (xs = ys)) = decide (x :: xs = y :: ys)
    by_cases h : x = y
    · subst h; simp
    · simp [h]
theorem canAll_ints : ∀ xs : List Int, PyData.canLayAll0 (Di xs) = true
  | [] => rfl
  | x :: r => by
    show (PyData.canLay0 (.int x) && PyData.canLayAll0 (Di r)) = true
    rw [canAll_ints r]; rfl
theorem depthAll_ints : ∀ xs : List Int, PyData.depthAll (Di xs) = 0
  | [] => rfl
  | x :: r => by
    show max 0 (PyData.depthAll (Di r)) = 0
    rw [depthAll_ints r]; rfl
theorem shaped_list {ds : List PyData} (h1 : PyData.canLayAll0 ds = true) (h2 : PyData.depthAll ds ≤ 60) : SeqAt.shaped (.list ds) = true := by
  unfold SeqAt.shaped
  rw [show PyData.canLay0 (.list ds) = PyData.canLayAll0 ds from rfl, h1, show PyData.depth (.list ds) = PyData.depthAll ds + 1 from rfl]
  simp
  omega
theorem shaped_tuple {ds : List PyData} (h1 : PyData.canLayAll0 ds = true) (h2 : PyData.depthAll ds ≤ 60) : SeqAt.shaped (.tuple ds) = true := by
  unfold SeqAt.shaped
  rw [show PyData.canLay0 (.tuple ds) = PyData.canLayAll0 ds from rfl, h1, show PyData.depth (.tuple ds) = PyData.depthAll ds + 1 from rfl]
  simp
  omega
theorem shaped_li (xs : List Int) : SeqAt.shaped (.list (Di xs)) = true := shaped_list (canAll_ints xs) (by rw [depthAll_ints]; decide)
theorem shaped_ti (xs : List Int) : SeqAt.shaped (.tuple (Di xs)) = true := shaped_tuple (canAll_ints xs) (by rw [depthAll_ints]; decide)
section
variable {K : PySem.W.Frag} {H : Hp} {Q : VK} {a b : Addr} {xs ys : List Int}
theorem e_eqLL (h1 : SqL K H a (xs.map V.int)) (h2 : SqL K H b (ys.map V.int)) (q : Q (.bl (decide (xs = ys))) H) : rEqD K (.ref a) (.ref b) H Q :=
  ⟨_, _, .lst h1 (dpAll_ints xs), .lst h2 (dpAll_ints ys), shaped_li xs, shaped_li ys, by rw [show PyData.eqv (.list (Di xs)) (.list (Di ys)) = PyData.eqvAll (Di xs) (Di ys) from rfl, eqvAll_ints]; exact q⟩
theorem e_neLL (h1 : SqL K H a (xs.map V.int)) (h2 : SqL K H b (ys.map V.int)) (q : Q (.bl (!decide (xs = ys))) H) : rNeD K (.ref a) (.ref b) H Q :=
  ⟨_, _, .lst h1 (dpAll_ints xs), .lst h2 (dpAll_ints ys), shaped_li xs, shaped_li ys, by rw [show PyData.eqv (.list (Di xs)) (.list (Di ys)) = PyData.eqvAll (Di xs) (Di ys) from rfl, eqvAll_ints]; exact q⟩
theorem e_eqTT (h1 : SqT K H a (xs.map V.int)) (h2 : SqT K H b (ys.map V.int)) (q : Q (.bl (decide (xs = ys))) H) : rEqD K (.ref a) (.ref b) H Q :=
  ⟨_, _, .tup h1 (dpAll_ints xs), .tup h2 (dpAll_ints ys), shaped_ti xs, shaped_ti ys, by rw [show PyData.eqv (.tuple (Di xs)) (.tuple (Di ys)) = PyData.eqvAll (Di xs) (Di ys) from rfl, eqvAll_ints]; exact q⟩
theorem e_neTT (h1 : SqT K H a (xs.map V.int)) (h2 : SqT K H b (ys.map V.int)) (q : Q (.bl (!decide (xs = ys))) H) : rNeD K (.ref a) (.ref b) H Q :=
  ⟨_, _, .tup h1 (dpAll_ints xs), .tup h2 (dpAll_ints ys), shaped_ti xs, shaped_ti ys, by rw [show PyData.eqv (.tuple (Di xs)) (.tuple (Di ys)) = PyData.eqvAll (Di xs) (Di ys) from rfl, eqvAll_ints]; exact q⟩
end
/-! ### the order of alike data -/
def rLtD (K : PySem.W.Frag) : R2 := fun x y H Q => ∃ d e, Dp K H x d ∧ Dp K H y e ∧ PySem.W.alike d e = true ∧ d ≠ .none ∧ d.depth ≤ 60 ∧ Q (.bl (PySem.W.dataLt d e)) H
def rGtD (K : PySem.W.Frag) : R2 := fun x y H Q => ∃ d e, Dp K H x d ∧ Dp K H y e ∧ PySem.W.alike d e = true ∧ d ≠ .none ∧ d.depth ≤ 60 ∧ Q (.bl (PySem.W.dataLt e d)) H
theorem op_ltD {X : Cx} (hu : X.A.units + 64 < cLine) : OpR X (compareOp .Lt) (rLtD X.K) := by
  intro pins s σ H x y v u C I rx ry hq
  obtain ⟨d, e, hd, he, sd, se, hp, q⟩ := hq
  obtain ⟨toks1, r1⟩ := Dp.reads I d x v hd rx
  obtain ⟨toks2, r2⟩ := Dp.reads I e y u he ry
  exact PySem.W.lt_data r1 r2 sd se (by have := Nat.min_le_left d.depth e.depth; omega) ⟨.bl _, H, I, rfl, q⟩
theorem op_gtD {X : Cx} (hu : X.A.units + 64 < cLine) : OpR X (compareOp .Gt) (rGtD X.K) := by
  intro pins s σ H x y v u C I rx ry hq
  obtain ⟨d, e, hd, he, sd, se, hp, q⟩ := hq
  obtain ⟨toks1, r1⟩ := Dp.reads I d x v hd rx
  obtain ⟨toks2, r2⟩ := Dp.reads I e y u he ry
  exact PySem.W.gt_data r1 r2 sd se (by have := Nat.min_le_left d.depth e.depth; omega) ⟨.bl _, H, I, rfl, q⟩
theorem alikeAll_ints : ∀ xs ys : List Int, PySem.W.alikeAll (Di xs) (Di ys) = true
  | [], _ => by simp [PySem.W.alikeAll]
  | _ :: _, [] => by simp [PySem.W.alikeAll]
  | x :: xs, y :: ys => by
    show (PySem.W.alike (.int x) (.int y) && PySem.W.alikeAll (Di xs) (Di ys)) = true
    rw [alikeAll_ints xs ys]; rfl
theorem lt_ints : ∀ xs ys : List Int, PyProof.Rows.lexLt PyProof.Rows.itemOrd (PySem.W.keyToksAll (Di xs)) (PySem.W.keyToksAll (Di ys)) = HT.lexLt xs ys
  | [], [] => by decide
  | [], y :: ys => by
    show PyProof.Rows.lexLt PyProof.Rows.itemOrd [.inl 0] (.inl 1 :: _) = true
    rw [PySem.W.lex_atom (by decide)]
    decide
  | x :: xs, [] => by
    show PyProof.Rows.lexLt PyProof.Rows.itemOrd (.inl 1 :: _) [.inl 0] = false
    rw [PySem.W.lex_atom (by decide)]
    decide
  | x :: xs, y :: ys => by
    have ih := lt_ints xs ys
    show _ = if x = y then HT.lexLt xs ys else decide (x < y)
    by_cases h : x = y
    · subst h
      rw [if_pos rfl, ← ih]
      exact PySem.W.dataLt_all_yes (x := .int x) (y := .int x) rfl (by simp [PyData.eqv])
    · rw [if_neg h, ← PySem.W.dataLt_int x y]
      exact PySem.W.dataLt_all_no (x := .int x) (y := .int y) rfl (by simpa [PyData.eqv] using h)
theorem e_ltLL {K : PySem.W.Frag} {H : Hp} {Q : VK} {a b : Addr} {xs ys : List Int} (h1 : SqL K H a (xs.map V.int)) (h2 : SqL K H b (ys.map V.int)) (q : Q (.bl (HT.lexLt xs ys)) H) : rLtD K (.ref a) (.ref b) H Q :=
  ⟨_, _, .lst h1 (dpAll_ints xs), .lst h2 (dpAll_ints ys), alikeAll_ints xs ys, by simp, by show PyData.depthAll (Di xs) + 1 ≤ 60; rw [depthAll_ints]; decide, by
    rw [PySem.W.dataLt_list, lt_ints]; exact q⟩
/-! ### loops over rows of ints -/
theorem at_split {ns : List Int} {i : Nat} {x : V} (hx : (ns.map V.int)[i]? = some x) : ∃ y, x = .int y ∧ ns = ns.take i ++ y :: ns.drop (i + 1) ∧ ns.take (i + 1) = ns.take i ++ [y] := by
  rw [List.getElem?_map] at hx
  cases e : ns[i]? with
  | none => rw [e] at hx; cases hx
  | some y =>
    rw [e] at hx
    have e2 := (List.getElem?_eq_some_iff.mp e).2
    refine ⟨y, (Option.some.inj hx).symm, ?_, by rw [List.take_add_one, e]; rfl⟩
    rw [← e2, List.getElem_cons_drop, List.take_append_drop]
section
variable {K : PySem.W.Frag} {g : TG} {t : TS} {D : Ends} {σ : L2.St} {H : Hp} {tt : TT} {te : TE} {vs : List Nat} {Q : VK} {Da a : Addr} {ns : List Int}
theorem for_ints (Pv : List Int → L2.St → Hp → Prop) (h0 : Pv [] σ H) (hl : ∀ pre σ H, Pv pre σ H → SqL K H a (ns.map V.int))
    (hs : ∀ (pre : List Int) (x : Int) (post : List Int) σ H, ns = pre ++ x :: post → Pv pre σ H → g (.int x) σ H fun σ2 H2 => t { D with nx := Pv (pre ++ [x]), ct := Pv (pre ++ [x]), bk := D.nx } σ2 H2)
    (hd : ∀ σ H, Pv ns σ H → D.nx σ H) : ForB (Itl K a) g t D σ H := by
  refine for_list (xs := ns.map V.int) (fun i => Pv (ns.take i)) (by simpa using h0) (fun i σ H _ p => hl _ σ H p) (fun i x σ H hx p => ?_) (fun σ H p => ?_)
  · obtain ⟨y, rfl, e1, e2⟩ := at_split hx
    rw [e2]
    exact hs _ y _ σ H e1 p
  · rw [List.length_map, List.take_length] at p
    exact hd σ H p
theorem for_intsT (Pv : List Int → L2.St → Hp → Prop) (h0 : Pv [] σ H) (hl : ∀ pre σ H, Pv pre σ H → SqT K H a (ns.map V.int))
    (hs : ∀ (pre : List Int) (x : Int) (post : List Int) σ H, ns = pre ++ x :: post → Pv pre σ H → g (.int x) σ H fun σ2 H2 => t { D with nx := Pv (pre ++ [x]), ct := Pv (pre ++ [x]), bk := D.nx } σ2 H2)
    (hd : ∀ σ H, Pv ns σ H → D.nx σ H) : ForB (Itt K a) g t D σ H := by
  refine for_tup (xs := ns.map V.int) (fun i => Pv (ns.take i)) (by simpa using h0) (fun i σ H _ p => hl _ σ H p) (fun i x σ H hx p => ?_) (fun σ H p => ?_)
  · obtain ⟨y, rfl, e1, e2⟩ := at_split hx
    rw [e2]
    exact hs _ y _ σ H e1 p
  · rw [List.length_map, List.take_length] at p
    exact hd σ H p
theorem walk_enumT {xs : List V} : Walk (IteT K a) xs.length (fun H => SqT K H a xs) (YPair (fun i => some (.int (i : Nat))) (fun i => xs[i]?)) := by
  refine ⟨fun i _ hi q => ⟨xs, xs[i], q, by simp [hi]⟩,
    fun _ q => ⟨xs, q, Nat.le_refl _⟩, fun i H v H' _ q y => ?_⟩
  obtain ⟨T, x, g1, g2, g3, g4⟩ := y
  exact ⟨T, .int (i : Nat), x, g1, g2, g3, rfl, g4 xs q⟩
theorem for_enumI (Pv : List Int → L2.St → Hp → Prop) (h0 : Pv [] σ H) (hl : ∀ pre σ H, Pv pre σ H → SqL K H a (ns.map V.int))
    (hs : ∀ (pre : List Int) (x : Int) (post : List Int) (T : Addr) σ H, ns = pre ++ x :: post → Pv pre σ H → H T = none → g (.ref T) σ (upd H T (.tup [.int (pre.length : Nat), .int x])) fun σ2 H2 => t { D with nx := Pv (pre ++ [x]), ct := Pv (pre ++ [x]), bk := D.nx } σ2 H2)
    (hd : ∀ σ H, Pv ns σ H → D.nx σ H) : ForB (Ite K a) g t D σ H := by
  refine for_it (walk_enum (xs := ns.map V.int)) (fun i => Pv (ns.take i)) (by simpa using h0) (fun i σ H _ p => hl _ σ H p) (fun i x σ H H' hi p y => ?_) (fun σ H p => ?_)
  · obtain ⟨T, u, v, rfl, hT, rfl, hu, hv⟩ := y
    obtain ⟨z, rfl, e1, e2⟩ := at_split hv
    cases (Option.some.inj hu)
    rw [e2]
    have hl : (ns.take i).length = i := by rw [List.length_map] at hi; rw [List.length_take]; omega
    have q := hs (ns.take i) z _ T σ H e1 p hT
    rw [hl] at q
    exact q
  · rw [List.length_map, List.take_length] at p
    exact hd σ H p
theorem for_enumIT (Pv : List Int → L2.St → Hp → Prop) (h0 : Pv [] σ H) (hl : ∀ pre σ H, Pv pre σ H → SqT K H a (ns.map V.int))
    (hs : ∀ (pre : List Int) (x : Int) (post : List Int) (T : Addr) σ H, ns = pre ++ x :: post → Pv pre σ H → H T = none → g (.ref T) σ (upd H T (.tup [.int (pre.length : Nat), .int x])) fun σ2 H2 => t { D with nx := Pv (pre ++ [x]), ct := Pv (pre ++ [x]), bk := D.nx } σ2 H2)
    (hd : ∀ σ H, Pv ns σ H → D.nx σ H) : ForB (IteT K a) g t D σ H := by
  refine for_it (walk_enumT (xs := ns.map V.int)) (fun i => Pv (ns.take i)) (by simpa using h0) (fun i σ H _ p => hl _ σ H p) (fun i x σ H H' hi p y => ?_) (fun σ H p => ?_)
  · obtain ⟨T, u, v, rfl, hT, rfl, hu, hv⟩ := y
    obtain ⟨z, rfl, e1, e2⟩ := at_split hv
    cases (Option.some.inj hu)
    rw [e2]
    have hl : (ns.take i).length = i := by rw [List.length_map] at hi; rw [List.length_take]; omega
    have q := hs (ns.take i) z _ T σ H e1 p hT
    rw [hl] at q
    exact q
  · rw [List.length_map, List.take_length] at p
    exact hd σ H p
/-- [e for k in range(a, b, c)], e a function of the turn -/
theorem lc_map_rngC {lo c : Int} {n : Nat} {H0 : Hp} (hD : H0 Da = none) (hn : n ≤ 1000000) (f : Nat → V)
    (hs : ∀ (i : Nat) (H2 : Hp) (C : VK) (E : Hp → Prop), i < n → Same H0 H2 → (∀ H3, Same H2 H3 → C (f i) H3) →
      g (.int (lo + (i : Nat) * c)) (wipe σ vs) H2 fun σ2 H2 => wipe σ2 vs = wipe σ vs ∧ tYes σ2 H2 fun b H3 => if b = true then te σ2 H3 C else E H3)
    (hd : ∀ (H : Hp), Same H0 H → H Da = some (.lst ((List.range n).map f)) → Q (.ref Da) H) : LcB (Itc lo c n) g tYes te vs σ Da H0 Q := by
  refine lc_it walk_rangeC (fun i H2 => Same H0 H2 ∧ H2 Da = some (.lst ((List.range i).map f))) ⟨same_new hD, upd_same⟩ (fun _ _ _ _ => trivial) (fun i x H2 H' hi p y => ?_) (fun H2 p => hd H2 p.1 p.2)
  obtain ⟨rfl, rfl⟩ := y
  obtain ⟨k4, e4⟩ := p
  refine hs i _ _ _ hi k4 fun H3 k5 => ?_
  refine ⟨_, k5 _ _ e4, Nat.lt_of_le_of_lt (by simp; omega : _ ≤ 1000000) (by decide), Same.mut (k4.trans k5) hD, ?_⟩
  rw [upd_same, List.range_succ, List.map_append]
  rfl
end
theorem i_bneself {b : Bool} {A B : Prop} (h : B) : if (b != b) = true then A else B := by
  have e : (b != b) = false := by cases b <;> rfl
  rw [e]; exact i_F h
theorem i_beself {b : Bool} {A B : Prop} (h : A) : if (b == b) = true then A else B := by
  rw [beq_self_eq_true]; exact i_T h
/-! ### a list or a tuple -/
/-- a row of values, a list's or a tuple's -/
abbrev SqE (K : PySem.W.Frag) (H : Hp) (p : Addr) (xs : List V) : Prop := SqL K H p xs ∨ SqT K H p xs
theorem Same.seqE {K : PySem.W.Frag} {H H' : Hp} {a : Addr} {xs : List V} (e : Same H H') (h : SqE K H a xs) : SqE K H' a xs := by
  rcases h with h | h
  · exact .inl (e.seq h)
  · refine .inr ?_
    rcases h with (h | ⟨c9, h⟩) | h
    · exact .inl (.inl (e _ _ h))
    · exact .inl (.inr ⟨c9, e _ _ h⟩)
    · exact .inr h
theorem e_ixE {K : PySem.W.Frag} {H : Hp} {Q : VK} {p : Addr} {xs : List V} {i : Int} {v : V} (h : SqE K H p xs) (ha : atI xs i = some v) (q : Q v H) : rIxL K (.ref p) (.int i) H Q ∨ rIxT K (.ref p) (.int i) H Q := by
  rcases h with h | h
  · exact .inl (e_ixL h ha q)
  · exact .inr (e_ixT h ha q)
/-- a list of the turn's values, over a list -/
theorem lc_map_lstI {K : PySem.W.Frag} {g : TG} {te : TE} {vs : List Nat} {σ : L2.St} {Da a : Addr} {H0 : Hp} {Q : VK} {xs : List V} (hS : SqL K H0 a xs) (hD : H0 Da = none) (hn : xs.length ≤ 1000000) (f : Nat → V)
    (hs : ∀ (i : Nat) (x : V) (H2 : Hp) (C : VK) (E : Hp → Prop), xs[i]? = some x → Same H0 H2 → (∀ H3, Same H2 H3 → C (f i) H3) →
      g x (wipe σ vs) H2 fun σ2 H2 => wipe σ2 vs = wipe σ vs ∧ tYes σ2 H2 fun b H3 => if b = true then te σ2 H3 C else E H3)
    (hd : ∀ (H : Hp), Same H0 H → H Da = some (.lst ((List.range xs.length).map f)) → Q (.ref Da) H) : LcB (Itl K a) g tYes te vs σ Da H0 Q := by
  refine lc_list (xs := xs) (fun i H2 => Same H0 H2 ∧ H2 Da = some (.lst ((List.range i).map f))) ⟨same_new hD, upd_same⟩ (fun i H2 _ p => p.1.seq hS) (fun i x H2 hx p => ?_) (fun H2 p => hd H2 p.1 p.2)
  obtain ⟨k4, e4⟩ := p
  have hi := (List.getElem?_eq_some_iff.mp hx).1
  refine hs i x H2 _ _ hx k4 fun H3 k5 => ?_
  refine ⟨_, k5 _ _ e4, Nat.lt_of_le_of_lt (by rw [List.length_map, List.length_range]; omega : _ ≤ 1000000) (by decide), Same.mut (k4.trans k5) hD, ?_⟩
  rw [upd_same, List.range_succ, List.map_append]
  rfl
end Vf

namespace Vf
open PySem L2 PySem.Spec PyProof.Rows
/-- a plain tuple of pairs: made by tuple(list), or by an update -/
def PlT (H : Hp) (a : Addr) (xs : List V) : Prop := ∃ o : Obj, o.dict = none ∧ H a = some (.frz o (.tup xs))
theorem PlT.seq {K : PySem.W.Frag} {H : Hp} {a : Addr} {xs : List V} (h : PlT H a xs) : SqT K H a xs := by
  obtain ⟨o, _, e⟩ := h
  exact .inl (.inr ⟨o, e⟩)
theorem PlT.same {H H' : Hp} {a : Addr} {xs : List V} (h : PlT H a xs) (e : Same H H') : PlT H' a xs := by
  obtain ⟨o, d, q⟩ := h
  exact ⟨o, d, e _ _ q⟩
theorem uvs_of {X : Cx} {pins : List (Addr × Obj)} {σ : L2.St} {H : Hp} {s : Shared} (I : Inv X pins σ H s) : ∀ {ps : List Addr} {kvs : List (Key × V)}, Paired (fun p kv => SqT X.K H p [kV kv.1, kv.2]) ps kvs →
    ∃ (prs : List (Key × Value)) (uvs : List (Value × Value)), KV kvs prs ∧ prs.length = ps.length ∧ uvs.length = ps.length ∧
      ∀ (j : Nat) (u y : Value), uvs[j]? = some (u, y) → ∃ (b : Addr) (k : Key), ps[j]? = some b ∧ PairAt s.heap b u y ∧ prs[j]? = some (k, y) ∧ keyIs k u = true
  | _, _, .nil => ⟨[], [], .nil, rfl, rfl, fun j u y e => by simp at e⟩
  | _, _, .cons (a := p) (b := kv) h t => by
    obtain ⟨prs, uvs, r, l1, l2, q⟩ := uvs_of I t
    obtain ⟨its, rv, ht, _⟩ := I.tuple h
    obtain ⟨u, y, rfl, ru, ry⟩ := vals2 rv
    refine ⟨(kv.1, y) :: prs, (u, y) :: uvs, .cons ⟨rfl, ry⟩ r, by simp [l1], by simp [l2], fun j u' y' e => ?_⟩
    cases j with
    | zero =>
      cases (Option.some.inj e)
      exact ⟨p, kv.1, rfl, .inl ht, rfl, kV_is (P := X.prog) (w := X.w) ru⟩
    | succ j =>
      obtain ⟨b, k, e1, e2, e3, e4⟩ := q j u' y' (by simpa using e)
      exact ⟨b, k, by simpa using e1, e2, by simpa using e3, e4⟩
theorem refs_of : ∀ {ps : List Addr} {us : List Value}, Vals (ps.map V.ref) us → us = ps.map Value.ref
  | [], _, .nil => rfl
  | p :: ps, _, .cons h t => by
    cases h
    rw [refs_of t]
    rfl
/-- dict(t), t a plain tuple of pairs -/
theorem call_dictPT {X : Cx} (hcalm : X.calm = true) : CallR X (.type "dict") (fun xs H Q => ∃ (a : Addr) (ps : List Addr) (kvs : List (Key × V)), xs = [.ref a] ∧ PlT H a (ps.map V.ref) ∧ Paired (fun p kv => SqT X.K H p [kV kv.1, kv.2]) ps kvs ∧
    ∀ p, H p = none → Q (.ref p) (upd H p (.dK (mergeK [] kvs)))) := by
  intro pins s σ H xs us Q I r q
  obtain ⟨a, ps, kvs, rfl, ⟨o, hd, ea⟩, hp, q⟩ := q
  obtain ⟨u, rfl, rx⟩ := vals1 r
  cases rx
  obtain ⟨ho, hz, its, rv, o2, ho2, hc, n, hdat⟩ := (show ObjOk X.prog X.w H s.heap a (.frz o (.tup (ps.map V.ref))) from I.hok a _ ea)
  rw [ho] at ho2
  cases (Option.some.inj ho2)
  have ei := refs_of rv
  subst ei
  rw [List.length_map] at hz
  obtain ⟨prs, uvs, rel, l1, l2, hq⟩ := uvs_of I hp
  have ok : PlainSeq "tuple" s.heap a (ps.map Value.ref).toArray ∧ PairItems s.heap (ps.map Value.ref).toArray (fun j => ps.getD j 0) uvs := by
    refine ⟨⟨o, n, ho, hc, hd, hdat⟩, by simp [l2], fun j k v hj => ?_⟩
    obtain ⟨b, key, e1, e2, _, _⟩ := hq j k v hj
    have e5 : ps.getD j 0 = b := by rw [List.getD_eq_getElem?_getD, e1]; rfl
    show _ ∧ PairAt s.heap (ps.getD j 0) k v
    rw [e5]
    exact ⟨by simp [e1], e2⟩
  refine PySem.call_dict_pairs (knd := mixKind X.prog X.w) (kvs := prs) (PairArg.tuple a (ps.map Value.ref).toArray (fun j => ps.getD j 0) uvs) (I.ok.hd hcalm) ok ⟨by rw [l1, l2], fun i key v hr => ?_⟩ (by rw [l2]; exact hz) fun h' tk hd' k => ?_
  · obtain ⟨b, k, _, _, e3, e4⟩ := hq i key v hr
    exact ⟨k, e3, e4⟩
  · have hm : (s.heap.objs.size == sysModules) = false := beq_eq_false_iff_ne.mpr (Nat.ne_of_gt I.big)
    have hlen : (mergeK [] kvs).length ≤ sizeLine := by
      have h1 := length_mergeK kvs []
      have h2 := rel.length
      rw [List.length_nil] at h1
      omega
    exact ⟨.ref s.heap.objs.size, upd H s.heap.objs.size (.dK (mergeK [] kvs)), I.laid (t' := tk) (fun b ob e => k b ob (by simp) e) (Nat.le_refl _) (show ObjOk X.prog X.w _ _ _ (.dK (mergeK [] kvs)) from ⟨hlen, hm, merged [] prs, KV.merge rel .nil, hd'⟩), rfl, q _ (I.hok.fresh (Nat.le_refl _))⟩
/-- tuple(l), l a list: a plain tuple -/
theorem call_tupleF {X : Cx} : CallR X (.type "tuple") (fun xs H Q => ∃ p ys, xs = [.ref p] ∧ SqL X.K H p ys ∧ ∀ l H', H l = none → Same H H' → PlT H' l ys → (∀ b, b ≠ l → H' b = H b) → Q (.ref l) H') := by
  intro pins s σ H xs us Q I r q
  obtain ⟨p, ys, rfl, hq, q⟩ := q
  obtain ⟨u, rfl, rx⟩ := vals1 r
  cases rx
  obtain ⟨its, rv, pl, hz⟩ := I.list hq
  have hlen := rv.length
  refine call_tuple_list pl.isList (fun h' kp => ?_) (by simp only [List.size_toArray] <;> omega)
  have J1 : Inv X pins σ H { s with heap := h' } := I.kept (t' := s.toks) kp
  have hfr := J1.hok.fresh (Nat.le_refl _)
  have J2 : Inv X pins σ (upd H h'.objs.size (.frz { cls := .type "tuple", data := .seq its.toArray } (.tup ys))) { s with heap := h'.push { cls := .type "tuple", data := .seq its.toArray } } :=
    J1.laid (t' := s.toks) (fun b ob e => Heap.get?_push_of_some _ e) (Nat.le_refl _) ⟨Heap.get?_push_size _ rfl, hz, its, rv, IsTup.new _ _⟩
  exact ⟨.ref h'.objs.size, _, J2, rfl, q _ _ hfr (same_new hfr) ⟨_, rfl, upd_same⟩ fun b hb => upd_ne hb⟩
theorem tupFK (K : PySem.W.Frag) {X : Cx} (hK : X.K = K := by rfl) : CallR X (.type "tuple") (fun xs H Q => ∃ p ys, xs = [.ref p] ∧ SqL K H p ys ∧ ∀ l H', H l = none → Same H H' → PlT H' l ys → (∀ b, b ≠ l → H' b = H b) → Q (.ref l) H') := hK ▸ call_tupleF
end Vf

namespace PySem
namespace ErrX
open PySem.W PySem.Calls PyProof.Rows PySem.HandSPX
/-! ### the text of __init__ -/
def iA (p1 p2 : Pos) : Arguments := { posonlyargs := [], args := [{ arg := "self", annotation := none, pos := p1 }, { arg := "place", annotation := none, pos := p2 }], vararg := none, kwonlyargs := [], kw_defaults := [], kwarg := none, defaults := [] }
def iB (q1 q2 q3 q4 : Pos) : List Stmt := [.Assign [.Attribute (.Name "self" q1) "place" q2] (.Name "place" q3) q4]
def iS : Scope := { kind := .function, names := [(PySem.Str.ofString "self", .local), (PySem.Str.ofString "place", .local)], isGenerator := false, isCoroutine := false, more := [] }
/-- what the written part says of Low, at C, and of its __init__, at fI -/
structure ErrTxt (K : Frag) (mg : Str → Option Value) (x : Str) (C fI : Addr) : Prop where
  gC : mg x = some (.ref C)
  cls : ∃ nm q N bs bm sn sub ab col dd k0 k1 k2 k3 k5, K.lookup C = some (excClassObj nm q C N bs bm true sn sub ab col dd k0 k1 k2 k3 k5 "ValueError.__new__") ∧ refsVE bm = true
  sa : findIn K (.ref C) "__setattr__" = some (some (.builtin "object.__setattr__"))
  ga : findIn K (.ref C) "__getattribute__" = some (some (.builtin "BaseException.__getattribute__"))
  gg : findIn K (.ref C) "__getattr__" = some none
  noN : findIn K (.ref C) "place" = some none
  iC : findIn K (.ref C) "__init__" = some (some (.ref fI))
  tC : typeIn K (.ref fI) = some (.type "function")
  kC : keepIn K (.ref C) = true
  exC : subIn K (.ref C) (.type "BaseException") = some true
  tyC : typeIn K (.ref C) = some (.type "type")
  hdC : hasDictIn K C = true
  te : exmOne K (.ref C) (.ref C) = some true
  fn : ∃ (oc : Value) (od : Option Addr) (kV doc pm : Value) (an : Option Addr) (cdv ct : Value) (osl : Array (Option Value)) (p1 p2 q1 q2 q3 q4 : Pos),
    K.lookup fI = some ⟨oc, od, .func (fnOf "__init__" "FolderkinError.__init__" (iA p1 p2) (iB q1 q2 q3 q4) iS .none kV doc pm an cdv ct), osl⟩ ∧ codeIn K cdv "FolderkinError.__init__" = true
theorem one_size (v : Value) : [v].length ≤ sizeLine := by
  rw [sizeLine_eq]
  exact (by decide : 1 ≤ 16777216)
theorem kept_but {K : Frag} {h h' : Heap} {x : Addr} (X : K.In h) (hx : K.lookup x = none) (k : ∀ b o, b ≠ x → h.get? b = some o → h'.get? b = some o) : K.In h' := fun a o e =>
  k a o (fun z => by rw [z, hx] at e; cases e) (X a o e)
theorem ldC {M : Model} {s : Shared} {name : Str} {scope : Scope} {L a : Addr} {cd : Value} {m : Str → Option Value} {x : Str} {pos : Pos} {v : Value} {Q : Value → Shared → Prop} {A : Around} {E : Value → Shared → Prop} (hn : s.heap.Ns L m) (hv : m x = some v) (h : Q v s)
    (hk : scope.kind = .function := by rfl) (hl : (envOfC name scope L a cd).kindOf x = some .local := by rfl) (hd : (x == ("__debug__" : Str)) = false := by decide) :
    wpAny M A (eval (.Name x pos) (envOfC name scope L a cd)) Q E s := wpAny_Name (wpAny_loadName_local hk hl hn hv h) hd
/-- what __init__ leaves of a fresh exception at x -/
structure InitEnd (h h' : Heap) (x C dx t1 : Addr) (v : Value) : Prop where
  keep : ∀ b o, b ≠ x → h.get? b = some o → h'.get? b = some o
  obj : h'.get? x = some { cls := .ref C, dict := some dx, data := .fields #[.ref t1, .none, .none, .none, .bool false, .none] }
  dbig : h.objs.size ≤ dx
  dne : dx ≠ x
  ns : h'.Ns1 dx (fun y => if y = "place" then some v else none)
/-- a made Low -/
structure OwnMade (h h' : Heap) (e C d : Addr) (v : Value) : Prop where
  keep : ∀ b o, h.get? b = some o → h'.get? b = some o
  new : h.objs.size ≤ e
  obj : ∃ oe vs, h'.get? e = some oe ∧ oe.cls = .ref C ∧ oe.dict = some d ∧ oe.data = .fields vs ∧ vs[1]? = some .none
  dbig : h.objs.size ≤ d
  dne : d ≠ e
  ns : h'.Ns1 d (fun y => if y = "place" then some v else none)
section
variable {prog : Program} {w : World} {A : Around} {E : Value → Shared → Prop} {R : Result → Shared → Prop} {s : Shared} {K : Frag} {mg : Str → Option Value} {C fI : Addr}
theorem err_init (T : ErrTxt K mg nmx C fI) {x t0 : Addr} {v : Value} (X : K.In s.heap) (hlim : s.heap.NoLimit) (hx : s.heap.get? x = some (excO C t0)) (hnx : K.lookup x = none) (hroom : A.depth < recursionLimit)
    (hq : ∀ h' tk dx, InitEnd s.heap h' x C dx t0 v → R (.ok (.ret .none)) { s with heap := h', toks := tk }) :
    codeAny (model prog w) A (.call (.ref fI) ⟨[.ref x, v], []⟩) R s := by
  obtain ⟨oc, od, kV, doc, pm, an, cdv, ct, osl, p1, p2, q1, q2, q3, q4, ho, hcd⟩ := T.fn
  obtain ⟨nm, q, N, bs, bm, sn, sub, ab, col, dd, k0, k1, k2, k3, k5, hC, hbm⟩ := T.cls
  have hcl : clsIn K C = some { name := nm, bases := bs, mro := .ref C :: bm, ns := N, qualname := q, hasDict := true, slotNames := sn, subclasses := sub, abstract := ab, collection := col, hasDel := false } := by unfold clsIn; rw [hC] <;> rfl
  refine Att.call_fn (binds := [("self", .ref x), ("place", v)]) X hlim ho hcd hroom (BindsTo.of_eq (by first | rfl | with_unfolding_all rfl)) (by first | rfl | decide | with_unfolding_all rfl) (fun s₁ IC => ?_) rfl rfl rfl
  obtain ⟨h₁, tk₁, rfl⟩ := IC.toInCall.same
  have k : ∀ b o, s.heap.get? b = some o → h₁.get? b = some o := IC.toInCall.keep
  have hn := IC.toInCall.ns
  have hxL : s.heap.objs.size ≠ x := Nat.ne_of_gt (Heap.lt_size hx)
  have X₁ : K.In h₁ := X.keeps k
  have hx₁ := k _ _ hx
  -- self.by = by
  show wpAny _ _ (execs _ _) _ _ _
  refine wpAny_execs_cons (plainObj_wpAny_Assign_Attribute ?_)
  refine ldC (v := v) hn (by first | rfl | with_unfolding_all rfl | kernel_rfl) (ldC (v := .ref x) hn (by first | rfl | with_unfolding_all rfl | kernel_rfl) ?_)
  refine set_plain X₁ (ox := excO C t0) (od := none) ⟨hx₁, rfl, rfl, trivial⟩ T.sa ?_
  refine exc_osa X₁ hx₁ hcl (show refsVE (.ref C :: bm) = true from hbm) rfl T.noN (fun h₃ tk₃ dx k₃ dn dne hx₃ hn₃ => ?_)
  show wpAny _ _ (execs _ _) _ _ _
  have z : s.heap.objs.size < h₁.objs.size := hn.lt
  exact wpAny_execs_nil (hq h₃ tk₃ dx ⟨fun b o hb e => k₃ b o hb (k b o e), hx₃, Nat.le_of_lt (Nat.lt_of_lt_of_le z dn), dne, hn₃⟩)
theorem err_made (T : ErrTxt K mg nmx C fI) {v : Value} (X : K.In s.heap) (hlim : s.heap.NoLimit) (hroom : A.depth + 1 < recursionLimit)
    (hq : ∀ h' tk e d, OwnMade s.heap h' e C d v → R (.ok (.ret (.ref e))) { s with heap := h', toks := tk }) :
    codeAny (model prog w) A (.call (.ref C) ⟨[v], []⟩) R s := by
  obtain ⟨nm, q, N, bs, bm, sn, sub, ab, col, dd, k0, k1, k2, k3, k5, hC, hbm⟩ := T.cls
  obtain ⟨hp, g, dr, tk, os⟩ := s
  have k : ∀ b o, hp.get? b = some o → ((hp.push (kdv_tup [v])).push (excO C hp.objs.size)).get? b = some o := fun b o e => Heap.get?_push_of_some _ (Heap.get?_push_of_some _ e)
  have hget : ((hp.push (kdv_tup [v])).push (excO C hp.objs.size)).get? (hp.objs.size + 1) = some (excO C hp.objs.size) := by heap_get
  have hnx : K.lookup (hp.objs.size + 1) = none := by
    cases e : K.lookup (hp.objs.size + 1) with
    | none => rfl
    | some o =>
      have z : hp.get? (hp.objs.size + 1) = some o := X _ _ e
      exact absurd (Nat.lt_of_succ_lt (Heap.lt_size z)) (Nat.lt_irrefl _)
  refine call_own F.excBase_ValueError (fun X => refsVE_contains X bm hbm) (X _ _ hC) (looks_findIn X T.iC) (fun self => bind_fn X self T.tC) (one_size v) ?_
  refine err_init (s := ⟨(hp.push (kdv_tup [v])).push (excO C hp.objs.size), g, dr, tk, os⟩) T (X.keeps k) (hlim.keeps k) hget hnx ?_ fun h' tk' dx ⟨k', hx, dn, dne, hns⟩ => ?_
  · show A.depth + 1 < recursionLimit
    exact hroom
  · have old : ∀ b o, hp.get? b = some o → h'.get? b = some o := fun b o e => k' b o (Nat.ne_of_lt (Nat.lt_succ_of_lt (Heap.lt_size e))) (k b o e)
    have z : hp.objs.size + 1 + 1 ≤ dx := by
      first
        | (simpa only [Heap.size_push] using dn)
        | exact dn
        | (have q := dn; rw [Heap.size_push, Heap.size_push] at q; exact q)
    exact ⟨rfl, hq h' tk' (hp.objs.size + 1) dx ⟨old, Nat.le_succ _, ⟨_, _, hx, rfl, rfl, rfl, rfl⟩, Nat.le_trans (Nat.le_trans (Nat.le_succ _) (Nat.le_succ _)) z, dne, hns⟩⟩
end
end ErrX
end PySem
namespace L2
open PySem PySem.Spec PyProof.Rows
theorem relO_plc {v : V} {v' : Value} (r : RelV v v') (f : Str) : RelO (List.lookup f [(("place" : Str), v)]) (if f = "place" then some v' else none) := by
  by_cases hw : f = "place"
  · subst hw
    rw [if_pos rfl]
    have q : List.lookup ("place" : Str) [(("place" : Str), v)] = some v := by simp [List.lookup]
    rw [q]
    exact r
  · rw [if_neg hw]
    have qw : (f == ("place" : Str)) = false := by simpa using hw
    have q2 : List.lookup f [(("place" : Str), v)] = none := by simp [List.lookup, qw]
    rw [q2]
    trivial
section
variable {X : Cx} {C fI : Addr}
/-- Low(e) -/
def tMkErr (C : Addr) (ta : TA) : St → Hp → XK → Prop := fun σ H Q => ta σ H fun vs H1 => ∃ v, vs = [v] ∧ ∀ d, H1 d = none → Q (.ref C) (some d) (upd H1 d (.xd [(("place" : Str), v)]))
theorem pmk_err {a : Expr} {ta : TA} {p pos : Pos} {k : Nat} (T : PySem.ErrX.ErrTxt X.K X.mg nmx C fI) (hr : Room k X.A) (ha : PA X [a] ta) (hg : Gl X nmx := by rfl)
    (he : starEach (a :: []) X.env = (false, eval a X.env) :: starEach [] X.env := by rfl) (hpl : (backTo pos (starEach [] X.env)).any (·.1) = false := by rfl) (hdb : (nmx == ("__debug__" : Str)) = false := by decide) :
    PMk X (.Call (.Name nmx p) [a] [] pos) (tMkErr C ta) := by
  intro pins s σ H Q I h
  refine wpAny_Call_Name_kw (ld_glob I hg T.gC ?_ hdb)
  refine PySem.W.callWith_K (h₀ := X.base) I.ok.mod.kin T.kC (thn (ha.run pos pins s σ H _ I h) fun us s1 hh => ?_) he hpl
  obtain ⟨vs, H1, I1, r1, v, ev, q1⟩ := hh
  subst ev
  refine ⟨I1.kIn, ?_⟩
  cases r1 with
  | cons rv rn =>
    rename_i v' us'
    cases rn
    show wpAny _ _ (call (.ref C) [v']) _ _ _
    have hlim := I1.nolimit
    obtain ⟨hp, g, dr, tk, os⟩ := s1
    refine wpAny_call (PySem.ErrX.err_made T I1.kIn hlim (by have := hr.dp; omega) fun h' tk' e d M => ?_)
    show MkP X pins σ Q (.ref e) ⟨h', g, dr, tk', os⟩
    obtain ⟨oe, fv, hoe, hc, hd, hdat, h1⟩ := M.obj
    have hns := M.ns
    obtain ⟨G', g1, g2⟩ := restrict h' fun b => decide (b ≠ e)
    have gk : ∀ b, b ≠ e → G'.get? b = h'.get? b := fun b hb => g1 b (decide_eq_true hb)
    have ge : G'.get? e = none := g2 e (by simp)
    have old : ∀ b o, hp.get? b = some o → G'.get? b = some o := fun b o q => (gk b (Nat.ne_of_lt (Nat.lt_of_lt_of_le (Heap.lt_size q) M.new))).trans (M.keep b o q)
    have ob : ObjOk X.prog X.w (upd H1 d (.xd [(("place" : Str), v)])) G' d (.xd [(("place" : Str), v)]) :=
      ⟨_, hns.at (fun o q => (gk d M.dne).trans q), fun f => relO_plc rv f⟩
    have J : Inv X pins σ (upd H1 d (.xd [(("place" : Str), v)])) ⟨G', g, dr, tk', os⟩ := I1.laid (t' := tk') old M.dbig ob
    refine ⟨e, oe, fv, ⟨G', g, dr, tk', os⟩, _, .ref C, some d, rfl, J, fun b o q => ?_, ge, hoe, ⟨hc, hd⟩, hdat, h1, ?_, rfl, I1.bare, raises_own T.exC T.tyC, q1 d (I1.hok.fresh M.dbig)⟩
    · by_cases hb : b = e
      · have q' : G'.get? b = some o := q
        rw [hb, ge] at q'; cases q'
      · exact (gk b hb).symm.trans q
    · rw [upd_ne (Ne.symm M.dne)]
      exact I1.hok.fresh M.new
/-- raise Low(e) -/
def tRaiseErr (C : Addr) (W : WX) (ta : TA) : TS := fun _ σ H => tMkErr C ta σ H fun cls d H' => W cls d σ H'
theorem ps_raiseErr {a : Expr} {ta : TA} {W : WX} {p pos pos2 : Pos} {k : Nat} (hc : X.calm = true) (T : PySem.ErrX.ErrTxt X.K X.mg nmx C fI) (hr : Room k X.A) (tk : Takes X W) (ha : PA X [a] ta) (hg : Gl X nmx := by rfl)
    (he : starEach (a :: []) X.env = (false, eval a X.env) :: starEach [] X.env := by rfl) (hpl : (backTo pos (starEach [] X.env)).any (·.1) = false := by rfl) (hdb : (nmx == ("__debug__" : Str)) = false := by decide) :
    PS X (.Raise (some (.Call (.Name nmx p) [a] [] pos)) none pos2) (tRaiseErr C W ta) := ps_raise hc tk (pmk_err T hr ha hg he hpl hdb)
/-- low.by, low the exception that the suite holds (at a; its class cls, its dict d) -/
def tPlcErr (C : Addr) (a : Addr) (cls : Value) (d : Option Addr) (te : TE) : TE := fun σ H Q => te σ H fun x H1 => x = .ref a ∧ cls = .ref C ∧ ∃ (dd : Addr) (v : V), d = some dd ∧ H1 dd = some (.xd [(("place" : Str), v)]) ∧ Q v H1
theorem pe_plcErr {a : Addr} {oe : Obj} {cls : Value} {d : Option Addr} {pn : List (Addr × Obj)} {e : Expr} {te : TE} {pos : Pos} (T : PySem.ErrX.ErrTxt X.K X.mg nmx C fI) (hz : Zc cls d oe) (hf : ∃ vs, oe.data = .fields vs) (he : PE (X.suite a ((a, oe) :: pn)) e te)
    (hb : attributeBase e "place" X.env (eval e X.env) = eval e X.env := by rfl) :
    PE (X.suite a ((a, oe) :: pn)) (.Attribute e "place" pos) (tPlcErr C a cls d te) := by
  refine ⟨fun pins s σ H Q I h => ?_⟩
  refine attr_of hb (thn (he.run pins s σ H _ I h) fun u s1 hh => ?_)
  obtain ⟨x, H1, I1, rx, ex, ec, dd, v, ed, ea, q⟩ := hh
  subst ex
  obtain rfl : u = Value.ref a := rx
  subst ec
  subst ed
  obtain ⟨ha, _⟩ := I1.pin (a, oe) (List.mem_append_left _ List.mem_cons_self)
  obtain ⟨vs, hd⟩ := hf
  have hx : ObjOk X.prog X.w H1 s1.heap dd (.xd [(("place" : Str), v)]) := I1.hok dd _ ea
  obtain ⟨mA, hns, hr⟩ := hx
  obtain ⟨od, ho, hl⟩ := lookIn_ns hns
  have l : List.lookup ("place" : Str) [(("place" : Str), v)] = some v := by simp [List.lookup]
  obtain ⟨u, hu, ru⟩ := RelO.some_of (v := v) (o := mA "place") (by rw [← l]; exact hr "place")
  have J : PySem.W.InstAt s1.heap a oe C (some od) := ⟨ha, hz.1, by unfold PySem.W.notCls; rw [hd] <;> rfl, by rw [hz.2]; exact ho⟩
  exact HandSPX.exc_get I1.kIn J T.ga T.gg T.exC (PySem.W.findObj_own T.hdC T.noN rfl (by rw [hl, hu])) (handed_of ru) ⟨v, H1, I1.tok _, ru, q⟩
end
end L2

namespace Vf
open PySem L2 PySem.Spec PyProof.Rows
/-- isinstance(e, c), e the error that the suite holds (at a; its class cls, its own dict d) -/
def rIsP (K : PySem.W.Frag) (D a : Addr) (cls : Value) (d : Option Addr) : List V → Hp → VK → Prop := fun xs H Q => cls = .ref D ∧ ∃ (dd : Addr) (pl c : V) (cv : Value) (b : Bool),
  d = some dd ∧ H dd = some (.xd [(("place" : Str), pl)]) ∧ xs = [.ref a, c] ∧ (∀ u, RelV c u → u = cv) ∧ PySem.W.kitOne K (.ref D) cv = some b ∧ Q (.bl b) H
theorem call_isP {X : Cx} {a D : Addr} {oe : Obj} {cls : Value} {d : Option Addr} {pn : List (Addr × Obj)} (C : ExcC X.K D) (hz : Zc cls d oe) (hf : ∃ vs, oe.data = .fields vs) : CallR (X.suite a ((a, oe) :: pn)) (.builtin "isinstance") (rIsP X.K D a cls d) := by
  intro pins s σ H xs us Q I r h
  obtain ⟨rfl, dd, pl, c, cv, b, rfl, ea, rfl, hcv, e, q⟩ := h
  obtain ⟨u1, u2, rfl, r1, r2⟩ := vals2 r
  cases (show u1 = Value.ref a from r1)
  have e2 := hcv _ r2
  subst e2
  obtain ⟨ha, _⟩ := I.pin (a, oe) (List.mem_append_left _ List.mem_cons_self)
  obtain ⟨vs, hd⟩ := hf
  obtain ⟨mA, hns, _⟩ := (show ObjOk X.prog X.w H s.heap dd (.xd [(("place" : Str), pl)]) from I.hok dd _ ea)
  obtain ⟨od, ho, _⟩ := lookIn_ns hns
  have J : PySem.W.InstAt s.heap a oe D (some od) := ⟨ha, hz.1, by unfold PySem.W.notCls; rw [hd] <;> rfl, by rw [hz.2]; exact ho⟩
  have hcl : (PySem.W.clsIn X.K D).isSome = true := by
    have h1 := C.hd
    unfold PySem.W.hasDictIn at h1
    cases h2 : PySem.W.clsIn X.K D with
    | none => rw [h2] at h1; cases h1
    | some cd => rfl
  exact PySem.W.kia_one (PySem.W.kitx_exc hcl C.hg C.hk C.hs C.ha C.hn C.ht C.hm) I.kIn J e (fun z => nomatch z) fun tk => ⟨.bl b, H, I.kept (t' := tk) fun _ _ z => z, rfl, q⟩
end Vf

namespace Vf
open PySem L2 PySem.Spec PyProof.Rows He
/-! ### the head's facts, and further ones that are yes or no -/
abbrev AlX : Type := AlD × Bool
def obsX (fa : List Fa) (fn : List DefD) (ex : List (PySem.W.Frag → Bool)) (K : PySem.W.Frag) : AlX := (obsD fa fn K, ex.all fun p => p K)
def obsXG (n : Nat) (fa : List Fa) (fn : List DefD) (ex : List (PySem.W.Frag → Bool)) (g : Addr → Option Obj) : AlX := obsX fa fn ex (frG g (asD g n))
def SaysX (fa : List Fa) (fn : List DefD) (ex : List (PySem.W.Frag → Bool)) (K : PySem.W.Frag) : Prop := SaysD fa fn K ∧ (ex.all fun p => p K) = true
def hookX (n : Nat) (fa : List Fa) (fn : List DefD) (ex : List (PySem.W.Frag → Bool)) : PySem.W.Hook where
  α := AlX
  obs := fun s => obsXG n fa fn ex s.heap.get?
  val := fun _ => (valD fn, true)
  says := fun _ h => ∃ K : PySem.W.Frag, K.In h ∧ SaysX fa fn ex K
  of := fun _ _ e => ⟨_, frG_in, congrArg (fun z : AlX => z.1) e, congrArg (fun z : AlX => z.2) e⟩
  keeps := fun _ _ _ ⟨K, hK, c⟩ k => ⟨K, PySem.W.Frag.In.keeps hK k, c⟩
theorem obsXG_eq {n : Nat} {fa : List Fa} {fn : List DefD} {ex : List (PySem.W.Frag → Bool)} {g : Addr → Option Obj} {s : Shared} (h : ∀ a, g a = s.heap.get? a) : obsXG n fa fn ex g = (hookX n fa fn ex).obs s := by
  have e : g = s.heap.get? := funext h
  rw [e] <;> rfl
theorem SaysX.more {fa : List Fa} {fn : List DefD} {ex : List (PySem.W.Frag → Bool)} {K : PySem.W.Frag} (c : SaysX fa fn ex K) (i : Nat) {p : PySem.W.Frag → Bool} (h : ex[i]? = some p := by rfl) : p K = true :=
  List.all_eq_true.mp c.2 p (List.mem_of_getElem? h)
/-! ### an own error, over ValueError through own classes, with __init__ from one of them -/
def errB (K : PySem.W.Frag) (C : Addr) : Bool := match K.lookup C with
  | some ⟨.type "type", _, .cls cd, sl⟩ => (match cd.mro, sl.toList with
    | .ref D :: bm, [_, _, _, _, some (.builtin n), _] => D == C && (n == "ValueError.__new__" && (!cd.hasDel && (cd.hasDict && PySem.HandSPX.refsVE bm)))
    | _, _ => false)
  | _ => false
theorem errB_ok {K : PySem.W.Frag} {C : Addr} (q : errB K C = true) : ∃ nm qn N bs bm sn sub ab col dd k0 k1 k2 k3 k5, K.lookup C = some (excClassObj nm qn C N bs bm true sn sub ab col dd k0 k1 k2 k3 k5 "ValueError.__new__") ∧ PySem.HandSPX.refsVE bm = true := by
  unfold errB at q
  split at q
  · rename_i dd cd sl ho
    split at q
    · rename_i D bm k0 k1 k2 k3 n k5 hm hs
      simp only [Bool.and_eq_true, beq_iff_eq, Bool.not_eq_true'] at q
      obtain ⟨rfl, rfl, hdel, hdi, hv⟩ := q
      obtain ⟨nm, bs, mro, ns, qn, hd, sn, sub, ab, col, del⟩ := cd
      dsimp only at hm hdel hdi
      subst hm hdel hdi
      obtain ⟨l⟩ := sl
      simp only at hs
      subst hs
      exact ⟨nm, qn, ns, bs, bm, sn, sub, ab, col, dd, k0, k1, k2, k3, k5, ho, hv⟩
    · cases q
  · cases q
def errAll (x bx : Str) (K : PySem.W.Frag) : Bool :=
  errB K (ga K x) && (eqO (PySem.W.findIn K (.ref (ga K x)) "__setattr__") (some (some (.builtin "object.__setattr__"))) && (eqO (PySem.W.findIn K (.ref (ga K x)) "__getattribute__") (some (some (.builtin "BaseException.__getattribute__"))) &&
  (eqO (PySem.W.findIn K (.ref (ga K x)) "__getattr__") (some none) && (eqO (PySem.W.findIn K (.ref (ga K x)) "place") (some none) && (eqO (PySem.W.findIn K (.ref (ga K x)) "__init__") (some (some (.ref (ma K (ga K bx) "__init__")))) &&
  (decide (PySem.W.typeIn K (.ref (ma K (ga K bx) "__init__")) = some (.type "function")) && (PySem.W.keepIn K (.ref (ga K x)) && (decide (PySem.W.subIn K (.ref (ga K x)) (.type "BaseException") = some true) && (decide (PySem.W.typeIn K (.ref (ga K x)) = some (.type "type")) &&
  (PySem.W.hasDictIn K (ga K x) && (decide (PySem.W.exmOne K (.ref (ga K x)) (.ref (ga K x)) = some true) && (decide (PySem.W.exmOne K (.ref (ga K x)) (.ref (ga K bx)) = some true) && (eqO (PySem.W.findIn K (.ref (ga K x)) "__class__") (some (some (.builtin "object.__class__"))) &&
  (eqO (PySem.W.specialIn K (.builtin "object.__class__") "__get__") (some (some (.builtin "getset_descriptor.__get__"))) && (decide (PySem.W.takesIn K (.builtin "object.__class__") = some true) && (decide (PySem.W.mroIn K (ga K x) (.type "object") = some true) &&
  (decide (PySem.W.kitOne K (.ref (ga K x)) (.ref (ga K x)) = some true) && (decide (PySem.W.kitOne K (.ref (ga K x)) (.ref (ga K bx)) = some true) && decide (PySem.W.kitOne K (.ref (ga K x)) (.type "ValueError") = some true)))))))))))))))))))
structure ErrAll (K : PySem.W.Frag) (mg : Str → Option Value) (x bx : Str) : Prop where
  er : PySem.ErrX.ErrTxt K mg x (ga K x) (ma K (ga K bx) "__init__")
  gB : mg bx = some (.ref (ga K bx))
  ec : ExcC K (ga K x)
  xb : PySem.W.exmOne K (.ref (ga K x)) (.ref (ga K bx)) = some true
  ii : PySem.W.kitOne K (.ref (ga K x)) (.ref (ga K x)) = some true
  ib : PySem.W.kitOne K (.ref (ga K x)) (.ref (ga K bx)) = some true
  iv : PySem.W.kitOne K (.ref (ga K x)) (.type "ValueError") = some true
theorem errAll_ok {K : PySem.W.Frag} {h : Heap} {mg : Str → Option Value} {x bx : Str} {fd : FuncData} {p1 p2 q1 q2 q3 q4 : Pos} (X : K.In h) (G : h.Ns mainGlobals mg) (c1 : (Fa.glo x).ok K = true) (c2 : (Fa.glo bx).ok K = true) (ce : errAll x bx K = true)
    (F : FunD K "__init__" "FolderkinError.__init__" (PySem.ErrX.iA p1 p2) (PySem.ErrX.iB q1 q2 q3 q4) PySem.ErrX.iS [] [] (ma K (ga K bx) "__init__") fd) : ErrAll K mg x bx := by
  obtain ⟨e1, ce⟩ := ba ce
  obtain ⟨e2, ce⟩ := ba ce
  obtain ⟨e3, ce⟩ := ba ce
  obtain ⟨e4, ce⟩ := ba ce
  obtain ⟨e5, ce⟩ := ba ce
  obtain ⟨e6, ce⟩ := ba ce
  obtain ⟨e7, ce⟩ := ba ce
  obtain ⟨e8, ce⟩ := ba ce
  obtain ⟨e9, ce⟩ := ba ce
  obtain ⟨e10, ce⟩ := ba ce
  obtain ⟨e11, ce⟩ := ba ce
  obtain ⟨e12, ce⟩ := ba ce
  obtain ⟨e13, ce⟩ := ba ce
  obtain ⟨e14, ce⟩ := ba ce
  obtain ⟨e15, ce⟩ := ba ce
  obtain ⟨e16, ce⟩ := ba ce
  obtain ⟨e17, ce⟩ := ba ce
  obtain ⟨e18, ce⟩ := ba ce
  obtain ⟨e19, e20⟩ := ba ce
  obtain ⟨oc, od, dV, kV, doc, pm, an, cdv, ct, osl, rfl, lk, hcd, dfl, _⟩ := F.ex
  have ed : dV = .none := by
    rcases dfl with ⟨_, h⟩ | ⟨h, _⟩
    · exact h
    · exact absurd rfl h
  subst ed
  exact { er := { gC := glo_ok X G c1, cls := errB_ok e1, sa := eqO_ok e2, ga := eqO_ok e3, gg := eqO_ok e4, noN := eqO_ok e5, iC := eqO_ok e6, tC := of_decide_eq_true e7, kC := e8, exC := of_decide_eq_true e9, tyC := of_decide_eq_true e10, hdC := e11, te := of_decide_eq_true e12,
                  fn := ⟨oc, od, kV, doc, pm, an, cdv, ct, osl, p1, p2, q1, q2, q3, q4, lk, hcd⟩ },
          gB := glo_ok X G c2, ec := ⟨eqO_ok e3, eqO_ok e4, of_decide_eq_true e9, e11, eqO_ok e14, eqO_ok e15, of_decide_eq_true e16, of_decide_eq_true e17⟩,
          xb := of_decide_eq_true e13, ii := of_decide_eq_true e18, ib := of_decide_eq_true e19, iv := of_decide_eq_true e20 }
/-! ### calls of a def that may raise -/
structure CalX (P : Program) (w : World) (K : PySem.W.Frag) (mg : Str → Option Value) (base : Heap) (k : Nat) (x : Str) (sp : Sp) : Prop where
  ex : ∃ (f : Addr) (fd : FuncData) (ps : List Str), FnOk P w K mg base (L2.CX P w) k f fd ps sp ∧ mg x = some (.ref f) ∧ PySem.W.keepIn K (.ref f) = true ∧ Binds K fd ps []
theorem pe_cX {X : Cx} {k j : Nat} {x : Str} {sp : Sp} {p pos : Pos} {e : Expr} {es : List Expr} {t : TA} {W : WX} (c : CalX X.prog X.w X.K X.mg X.base k x sp) (hr : Room j X.A) (hk : k ≤ j) (tk : Takes X W) (hg : Gl X x) (ha : PA X (e :: es) t)
    (hdb : (x == ("__debug__" : Str)) = false := by decide) (he : starEach (e :: es) X.env = (false, eval e X.env) :: starEach es X.env := by rfl)
    (hpl : (backTo pos (starEach es X.env)).any (·.1) = false := by rfl) : PE X (.Call (.Name x p) (e :: es) [] pos) (tCallS sp (WE W) t) := by
  obtain ⟨f, fd, ps, F, hm, kp, b⟩ := c.ex
  exact pe_callS F (hr.mono hk) hg hm kp b (fun σ => passAt tk σ) ha hdb he hpl
/-- promises of a def that may raise, by arity -/
abbrev sp1X (R : V → Hp → VK → XK → Prop) : Sp := fun vs H Q E => ∃ a, vs = [a] ∧ R a H Q E
end Vf

namespace Vf
open PySem L2 PySem.Spec PyProof.Rows
/-- x == y, x an instance of a class with its own __eq__ that answers True or False; y one too, or a tuple -/
def rEqO (K : PySem.W.Frag) (C : Addr) (sp : Sp) (E : XK) : R2 := fun x y H Q => ∃ (a b dx : Addr) (fs : List (Str × V)), x = .ref a ∧ y = .ref b ∧ H a = some (.ins C dx fs) ∧
  ((∃ (dy : Addr) (gs : List (Str × V)), H b = some (.ins C dy gs)) ∨ (PySem.W.notFirst K C (.type "tuple") = true ∧ ∃ ys, SqT K H b ys)) ∧ sp [x, y] H (fun z H' => ∃ t, z = .bl t ∧ Q z H') E
theorem op_eqOwn {X : Cx} {CX : CXT} {C f : Addr} {fd : FuncData} {ps : List Str} {sp : Sp} {E : XK} {n : Nat} (F : FnOk X.prog X.w X.K X.mg X.base CX n f fd ps sp)
    (hs : PySem.W.findIn X.K (.ref C) "__eq__" = some (some (.ref f))) (hf : PySem.W.isFn X.K (.ref f) = true) (hb : Binds X.K fd ps []) (hx : Passes CX X E) (hr : Room n X.A) : OpR X (compareOp .Eq) (rEqO X.K C sp E) := by
  intro pins s σ H x y v u Q I rx ry q
  obtain ⟨a, b, dx, fs, rfl, rfl, ha, hy, hsp⟩ := q
  cases rx
  cases ry
  obtain ⟨mA, J, _⟩ := ins_get I.hok ha
  obtain ⟨od, J, _⟩ := J.look
  obtain ⟨m, hF⟩ := I.fr
  have go : ∀ tb : Value, PySem.W.Looks (model X.prog X.w) s.heap (typeOf (.ref b)) tb → PySem.W.notFirst X.K C tb = true → wpAny (model X.prog X.w) X.A (richCompare .Eq (.ref a) (.ref b)) (EP X pins σ Q) X.xe s := fun tb ht hn => by
    refine PySem.W.cmp_K (op := .Eq) (tb := tb) hr.units0 hF I.ok.mod.kin J ht hn hs hf ?_
    have hl := F.len _ _ _ _ hsp
    have r2 : Vals [V.ref a, V.ref b] [Value.ref a, Value.ref b] := .cons rfl (.cons rfl .nil)
    refine wpAny_call (codeAny_mono (F.run X.A X.stack s H ⟨[.ref a, .ref b], []⟩ [.ref a, .ref b] [.ref a, .ref b] _ E hr I.env0 (by
      have := hb s [.ref a, .ref b] I.kIn (by simpa using hl)
      simpa using this) r2 hsp) fun r s' hq => ?_)
    cases r with
    | error e => exact hx pins σ H s e s' I hq
    | ok fl =>
      cases fl with
      | ret w =>
        obtain ⟨z, H', I', rz, t, ez, hQ⟩ := I.after hq
        subst ez
        cases rz
        exact ⟨.bl t, H', I', rfl, hQ⟩
      | next => exact False.elim hq
      | brk => exact False.elim hq
      | cont => exact False.elim hq
  rcases hy with ⟨dy, gs, hy⟩ | ⟨hn, ys, hy⟩
  · obtain ⟨mB, J', _⟩ := ins_get I.hok hy
    obtain ⟨od', J', _⟩ := J'.look
    exact go (.ref C) J'.type (by simp [PySem.W.notFirst])
  · obtain ⟨its, rv, ⟨o, ho, hc, _⟩, _⟩ := I.tuple hy
    exact go (.type "tuple") (fun A Q E s' k z => wpAny_typeOf (T := "tuple") ⟨o, k _ _ ho, hc⟩ z) hn
end Vf

namespace Vf
open PySem L2 PySem.Spec PyProof.Rows He
/-! ### an own class: all yes-or-no facts of it -/
def clsB (x : Str) (K : PySem.W.Frag) : Bool :=
  eqO (PySem.W.findIn K (.ref (ga K x)) "__class__") (some (some (.builtin "object.__class__"))) &&
  (eqO (PySem.W.specialIn K (.builtin "object.__class__") "__get__") (some (some (.builtin "getset_descriptor.__get__"))) && (decide (PySem.W.takesIn K (.builtin "object.__class__") = some true) &&
  (decide (PySem.W.mroIn K (ga K x) (.type "object") = some true) && (decide (PySem.W.kitOne K (.ref (ga K x)) (.ref (ga K x)) = some true) && (decide (PySem.W.kitOne K (.type "tuple") (.ref (ga K x)) = some false) && PySem.W.notFirst K (ga K x) (.type "tuple"))))))
structure ClsT (K : PySem.W.Frag) (x : Str) : Prop where
  ha : PySem.W.findIn K (.ref (ga K x)) "__class__" = some (some (.builtin "object.__class__"))
  hn : PySem.W.specialIn K (.builtin "object.__class__") "__get__" = some (some (.builtin "getset_descriptor.__get__"))
  htk : PySem.W.takesIn K (.builtin "object.__class__") = some true
  hm : PySem.W.mroIn K (ga K x) (.type "object") = some true
  own : PySem.W.kitOne K (.ref (ga K x)) (.ref (ga K x)) = some true
  tup : PySem.W.kitOne K (.type "tuple") (.ref (ga K x)) = some false
  nf : PySem.W.notFirst K (ga K x) (.type "tuple") = true
theorem clsB_ok {x : Str} {K : PySem.W.Frag} (c : clsB x K = true) : ClsT K x := by
  unfold clsB at c
  obtain ⟨c1, c⟩ := ba c
  obtain ⟨c2, c⟩ := ba c
  obtain ⟨c3, c⟩ := ba c
  obtain ⟨c4, c⟩ := ba c
  obtain ⟨c5, c⟩ := ba c
  obtain ⟨c6, c7⟩ := ba c
  exact ⟨eqO_ok c1, eqO_ok c2, of_decide_eq_true c3, of_decide_eq_true c4, of_decide_eq_true c5, of_decide_eq_true c6, c7⟩
/-- == by its own __eq__ -/
def eqB (x : Str) (K : PySem.W.Frag) : Bool := eqO (PySem.W.findIn K (.ref (ga K x)) "__eq__") (some (some (.ref (ma K (ga K x) "__eq__")))) && PySem.W.isFn K (.ref (ma K (ga K x) "__eq__"))
structure EqC (P : Program) (w : World) (K : PySem.W.Frag) (mg : Str → Option Value) (base : Heap) (k : Nat) (x : Str) (sp : Sp) : Prop where
  ex : ∃ (f : Addr) (fd : FuncData) (ps : List Str), FnOk P w K mg base CX0 k f fd ps sp ∧ PySem.W.findIn K (.ref (ga K x)) "__eq__" = some (some (.ref f)) ∧ PySem.W.isFn K (.ref f) = true ∧ Binds K fd ps []
theorem op_eqC {X : Cx} {k j : Nat} {x : Str} {sp : Sp} (c : EqC X.prog X.w X.K X.mg X.base k x sp) (hr : Room j X.A) (hk : k ≤ j) : OpR X (compareOp .Eq) (rEqO X.K (ga X.K x) sp E0) := by
  obtain ⟨f, fd, ps, F, hs, hf, hb⟩ := c.ex
  exact op_eqOwn F hs hf hb pass0 (hr.mono hk)
/-- C(e, .., k = v) -/
structure MakN (P : Program) (w : World) (K : PySem.W.Frag) (mg : Str → Option Value) (base : Heap) (k : Nat) (x : Str) (C : Addr) (sp : Sp) (n : Nat) (ks : List Str) (gV : List V → List V → List V) : Prop where
  ex : ∃ (f : Addr) (fd : FuncData) (ps : List Str) (g : List Value → List Value → List Value), Mk K C f ∧ FnOk P w K mg base CX0 k f fd ps sp ∧ mg x = some (.ref C) ∧ KBn K fd ps (n + 1) ks g gV
theorem pe_mkN {X : Cx} {k j n : Nat} {C : Addr} {x : Str} {sp : Sp} {p pos : Pos} {e : Expr} {es : List Expr} {kws : List Keyword} {ks : List Str} {t tk : TA} {gV : List V → List V → List V} (c : MakN X.prog X.w X.K X.mg X.base k x C sp n ks gV) (hr : Room j X.A) (hk : k + 1 ≤ j) (hg : Gl X x)
    (ha : PA X (e :: es) t) (hkw : PK X kws tk) (hall : (backToKw pos (keywordEach kws X.env)).all (·.1.isSome) = true := by rfl) (hks : (backToKw pos (keywordEach kws X.env)).filterMap (·.1) = ks := by rfl)
    (hdb : (x == ("__debug__" : Str)) = false := by decide) (he : starEach (e :: es) X.env = (false, eval e X.env) :: starEach es X.env := by rfl)
    (hpl : ((backTo pos (starEach (e :: es) X.env)).any (·.1) || (backToKw pos (keywordEach kws X.env)).any (·.1.isNone)) = false := by rfl) :
    PE X (.Call (.Name x p) (e :: es) kws pos) (tMakeN C n ks.length sp gV E0 t tk) := by
  obtain ⟨f, fd, ps, g, M, F, hm, b⟩ := c.ex
  exact pe_makeN M F (hr.mono hk) hg hm b pass0 ha hkw hall hks hdb he hpl
theorem e_tMake {C : Addr} {sp : Sp} {dvs : List V} {E : XK} {t : TA} {σ : L2.St} {H : Hp} {Q : VK} (q : t σ H fun vs H1 => ∀ x dx, H1 x = none → H1 dx = none → dx ≠ x → sp (.ref x :: (vs ++ dvs)) (upd (upd H1 dx (.own x)) x (.ins C dx [])) (fun v H2 => v = .non ∧ Q (.ref x) H2) E) : tMake C sp dvs E t σ H Q := q
theorem e_tMakeN {C : Addr} {n m : Nat} {sp : Sp} {gV : List V → List V → List V} {E : XK} {t tk : TA} {σ : L2.St} {H : Hp} {Q : VK} (q : t σ H fun vs H1 => tk σ H1 fun zs H2 => vs.length = n ∧ zs.length = m ∧
  ∀ x dx, H2 x = none → H2 dx = none → dx ≠ x → sp (gV (.ref x :: vs) zs) (upd (upd H2 dx (.own x)) x (.ins C dx [])) (fun v H3 => v = .non ∧ Q (.ref x) H3) E) : tMakeN C n m sp gV E t tk σ H Q := q
/-! ### == and != of data with any texts -/
def rEqP (K : PySem.W.Frag) : R2 := fun x y H Q => ∃ d e, Dp K H x d ∧ Dp K H y e ∧ d.plain = true ∧ e.plain = true ∧ d.depth ≤ 60 ∧ Q (.bl (PyData.eqv d e)) H
def rNeP (K : PySem.W.Frag) : R2 := fun x y H Q => ∃ d e, Dp K H x d ∧ Dp K H y e ∧ d.plain = true ∧ e.plain = true ∧ d.depth ≤ 60 ∧ Q (.bl (!PyData.eqv d e)) H
theorem op_eqP {X : Cx} (hu : X.A.units + 64 < cLine) : OpR X (compareOp .Eq) (rEqP X.K) := by
  intro pins s σ H x y v u Q I rx ry h
  obtain ⟨d, e, hd, he, sd, se, hp, q⟩ := h
  obtain ⟨as, r1⟩ := Dp.reads I d x v hd rx
  obtain ⟨bs, r2⟩ := Dp.reads I e y u he ry
  exact PySem.SeqAt.eq_plain r1 r2 sd se (by omega) ⟨.bl _, H, I, rfl, q⟩
theorem op_neP {X : Cx} (hu : X.A.units + 64 < cLine) : OpR X (compareOp .NotEq) (rNeP X.K) := by
  intro pins s σ H x y v u Q I rx ry h
  obtain ⟨d, e, hd, he, sd, se, hp, q⟩ := h
  obtain ⟨as, r1⟩ := Dp.reads I d x v hd rx
  obtain ⟨bs, r2⟩ := Dp.reads I e y u he ry
  exact PySem.SeqAt.ne_plain r1 r2 sd se (by omega) ⟨.bl _, H, I, rfl, q⟩
end Vf

namespace Vf
open PySem L2 PySem.Spec PyProof.Rows He
/-! ### t[::-1] of a pair -/
section
variable {prog : Program} {w : World} {A : Around} {E : Value → Shared → Prop} {s : Shared}
theorem rev2_applied {sl : Addr} {u : Tok} {Q : Int × Int × Nat → Shared → Prop} (hs : s.heap.IsSliceOf sl .none .none (.int (-1) u)) (h : Q (1, -1, 2) s) :
    wpAny (model prog w) A (Builtin.Slice.sliceApplied (.ref sl) (pure ((2 : Nat) : Int))) Q E s := by
  obtain ⟨os, hos, hcs, hds⟩ := id hs
  unfold Builtin.Slice.sliceApplied Builtin.Slice.sliceFields
  refine wpAny_bind (wpAny_bind (wpAny_field hos hds (x := .none) rfl (wpAny_bind (wpAny_field hos hds (x := .none) rfl (wpAny_bind (wpAny_field hos hds (x := .int (-1) u) rfl (wpAny_pure ?_)))))))
  refine wpAny_bind (slicePart_int ?_)
  show wpAny _ _ (if ((-1 : Int) == 0) = true then _ else _) _ _ s
  rw [if_neg (by decide)]
  refine wpAny_bind (slicePart_none (wpAny_bind (slicePart_none (wpAny_bind (wpAny_pure ?_)))))
  show wpAny _ _ (match Builtin.Slice.sliceAdjust none none (-1) ((2 : Nat) : Int) with | (lo, hi) => pure (lo, (-1 : Int), Builtin.Slice.slicePlaces lo hi (-1))) _ _ s
  exact wpAny_pure h
theorem getItem_pair_rev {t sl : Addr} {v0 v1 : Value} {u : Tok} {Q : Value → Shared → Prop} (ht : IsTup s.heap t #[v0, v1]) (hs : s.heap.IsSliceOf sl .none .none (.int (-1) u))
    (h : Q (.ref s.heap.objs.size) { s with heap := s.heap.push { cls := .type "tuple", data := .seq #[v1, v0] } }) : wpAny (model prog w) A (getItem (.ref t) (.ref sl)) Q E s := by
  obtain ⟨os, hos, hcs, hds⟩ := id hs
  have hTs : s.TypeIs (.ref sl) "slice" := ⟨os, hos, hcs⟩
  unfold getItem
  try with_reducible refine wpAny_holding ?_
  first | refine wpAny_bind (wpAny_pure ?_) | skip
  refine wpAny_bind (wpAny_sequenceKey ht.typeIs (by decide) ?_)
  refine wpAny_bind (wpAny_callSpecial?_slot (name := Str.ofString "__getitem__") ht.typeIs PyProof.Rows.slot_tuple_getitem
    (wpAny_call_entry PyProof.Rows.slot_tuple_getitem ht.typeIs entry_tuple_getitem ?_ (args_tuple_getitem _ _)))
  show wpAny _ _ (Builtin.Tuple.tupleItemsOf (.ref t) >>= _) _ _ s
  refine wpAny_bind (tupleItemsOf_ ht ?_)
  refine wpAny_bind (wpAny_typeOf hTs ?_)
  rw [if_pos (by decide)]
  refine wpAny_bind (rev2_applied hs ?_)
  show wpAny _ _ (if (((1 : Int)) == 0 && (-1 : Int) == 1 && ((2 : Nat) == 2)) = true then _ else _) _ _ s
  rw [if_neg (by decide)]
  have hz : sizeOk (.seq #[v1, v0]) := by show (2 : Nat) ≤ sizeLine; decide
  first
    | exact wpAny_bind (m := Builtin.Tuple.tupleExact _) (wpAny_newObj_type (wpAny_pure ⟨_, rfl, wpAny_pure h⟩) hz)
    | exact wpAny_bind (m := Builtin.Tuple.tupleExact _) (wpAny_newObj_type (wpAny_bind (wpAny_pure (wpAny_pure ⟨_, rfl, wpAny_pure h⟩))) hz)
    | exact wpAny_bind (wpAny_bind (m := Builtin.Tuple.tupleExact _) (wpAny_newObj_type (wpAny_pure (wpAny_pure ⟨_, rfl, wpAny_pure h⟩)) hz))
    | exact wpAny_bind (wpAny_bind (m := Builtin.Tuple.tupleExact _) (wpAny_newObj_type (wpAny_pure ⟨_, rfl, wpAny_pure h⟩) hz))
end
section
variable {X : Cx}
def tRevT (K : PySem.W.Frag) (te : TE) : TE := fun σ H Q => te σ H fun x H1 => ∃ a u v, x = .ref a ∧ SqT K H1 a [u, v] ∧ ∀ p, H1 p = none → Q (.ref p) (upd H1 p (.tup [v, u]))
theorem pe_revT {e : Expr} {te : TE} {k : Nat} {p1 p2 p3 pos : Pos} (he : PE X e te) : PE X (.Subscript e (.Slice none none (some (.UnaryOp .USub (.Constant (.int 1) k p1) p2)) p3) pos) (tRevT X.K te) := by
  refine ⟨fun pins s σ H Q I h => ?_⟩
  refine Subscript_ (thn (he.run pins s σ H _ I h) fun v s1 ⟨x, H1, I1, r1, q1⟩ => ?_)
  obtain ⟨a, x0, x1, ex, hx, q⟩ := q1
  subst ex
  cases r1
  have hst : PO X (some (.UnaryOp .USub (.Constant (.int 1) k p1) p2)) (tPart (tUn (rU fun i => .int (-i)) (tC (.int 1)))) := po_some (pe_un un_neg pe_int)
  refine wpAny_Slice (thn (po_none.run pins s1 σ H1 (fun o H2 => o = none ∧ H2 = H1) I1 ⟨rfl, rfl⟩) fun vl s2 ⟨l, H2, I2, pl, el, e2⟩ => ?_)
  subst el e2
  refine thn (po_none.run pins s2 σ H2 (fun o H3 => o = none ∧ H3 = H2) I2 ⟨rfl, rfl⟩) fun vu s3 ⟨u, H3, I3, pu, eu, e3⟩ => ?_
  subst eu e3
  refine thn (hst.run pins s3 σ H3 (fun o H4 => o = some (-1) ∧ H4 = H3) I3 ⟨1, rfl, -1, rfl, rfl, rfl⟩) fun vs s4 ⟨o, H4, I4, ps, eo, e4⟩ => ?_
  subst eo e4
  cases pl
  cases pu
  cases ps with
  | int i tk =>
  have I5 : Inv X pins σ H4 { s4 with heap := s4.heap.push { cls := .type "slice", data := .fields #[.none, .none, .int (-1) tk] } } := I4.kept (t' := s4.toks) fun b ob q => Heap.get?_push_of_some _ q
  obtain ⟨its, r, ht, hz⟩ := I5.tuple hx
  obtain ⟨w0, w1, rfl, rv0, rv1⟩ := vals2 r
  show wpAny (model X.prog X.w) X.A (subscriptTail e (.Slice none none (some (.UnaryOp .USub (.Constant (.int 1) k p1) p2)) p3) (.ref a) (.ref s4.heap.objs.size)) (EP X pins σ Q) X.xe { s4 with heap := s4.heap.push { cls := .type "slice", data := .fields #[.none, .none, .int (-1) tk] } }
  refine tail_any (ops := [.ref a, .ref s4.heap.objs.size]) ht.typeIs PyProof.Rows.slot_tuple_getitem.lookup ?_ (by with_unfolding_all rfl)
  refine getItem_pair_rev ht (Heap.IsSliceOf.new _ _ _ _) ?_
  refine ⟨.ref _, _, I5.laid (t' := s4.toks) (o := .tup [x1, x0]) (fun b ob q => Heap.get?_push_of_some _ q) (Nat.le_refl _) ?_, rfl, q _ (I5.hok.fresh (Nat.le_refl _))⟩
  exact ⟨by show (2 : Nat) ≤ sizeLine; decide, _, .cons rv1 (.cons rv0 .nil), IsTup.new _ _⟩
/-! ### del d[t], the keys tuples -/
def sDDelT (td ty : TE) : TS := fun D σ H => td σ H fun x H1 => ty σ H1 fun y H2 => ∃ a kvs k b, x = .ref a ∧ H2 a = some (.dT kvs) ∧ y = .ref b ∧ H2 b = some (.tup (k.map kV)) ∧ (valV kvs k).isSome = true ∧ D.nx σ (upd H2 a (.dT (dropK kvs k)))
theorem ps_ddelT {o i : Expr} {pos tpos : Pos} {td ty : TE} (hu : X.A.units + 1 < cLine) (ho : PE X o td) (hi : PE X i ty) : PS X (.Delete [.Subscript o i tpos] pos) (sDDelT td ty) := by
  refine ⟨fun pins s σ H D I h => ?_⟩
  refine wpAny_Delete (wpAny_deleteEach_cons (wpAny_delete_Subscript (thn (ho.run pins s σ H _ I h) fun u s1 ⟨x, H1, I1, rx, q1⟩ => thn (hi.run pins s1 σ H1 _ I1 q1) fun iv s2 ⟨y, H2, I2, ry, a, kvs, k, b, ex, e, ey, eb, l, q2⟩ => ?_)))
  subst ex ey
  obtain rfl : u = Value.ref a := rx
  obtain rfl : iv = Value.ref b := ry
  obtain ⟨z, hd, xs, rel, dd⟩ := dt_of I2.hok e
  have hz : xs.length ≤ sizeLine := by rw [← Paired.length rel]; exact z
  obtain ⟨v0, ev⟩ := Option.isSome_iff_exists.mp l
  obtain ⟨w', hw, rw'⟩ := RelO.some_of (v := v0) (o := (atKey xs k).map (·.2)) (by rw [← ev]; exact rel.val k)
  obtain ⟨p, hp, hp2⟩ := Option.map_eq_some_iff.mp hw
  refine wpAny_delItem_heap (hsz := hz) (knd := tupleKind (mixKind X.prog X.w)) (tupleKind_room_in1 hu) (key_of I2.hok eb) hd dd hp fun h' dd' hs => ?_
  obtain ⟨q, es, ep, hq, h2, h3, h4, _, h5⟩ := dd'
  have I3 : Inv X pins σ (upd H2 a (.dT (dropK kvs k))) { s2 with heap := h', toks := s2.toks + (tupleKind (mixKind X.prog X.w)).draws k } :=
    d_write I2 (by rw [e]; exact True.intro) hs ⟨q, hq⟩ ⟨Nat.le_trans (dropK_le kvs k) z, hd, _, (DX.KT_drop k rel).keeps (fun c ys ec => (by rw [upd_ne (ne_of ec e (fun z => nomatch z))]; exact ec)), q, es, ep, hq, h2, h3, h4, h5⟩
  exact wpAny_deleteEach_nil ⟨σ, _, I3, q2⟩
end
end Vf

namespace Vf
open PySem L2 PySem.Spec PyProof.Rows He
theorem un65 {k : Nat} {A : Around} (r : Room k A) : A.units + 65 < cLine := by have := r.un; omega
/-! ### d.values() of a dict whose keys are tuples -/
def Itdt (d : Addr) (o : Obj) (kvs : List (List L2.Key × V)) : It :=
  ⟨fun i H => H d = some (.frz o (.dT kvs)) ∧ i < kvs.length, fun i H x H' => H' = H ∧ ∃ k, kvs[i]? = some (k, x), fun i H => H d = some (.frz o (.dT kvs)) ∧ kvs.length ≤ i⟩
theorem frzTV {X : Cx} {pins : List (Addr × Obj)} {σ : L2.St} {H : Hp} {s : Shared} {d : Addr} {o : Obj} {kvs : List (List L2.Key × V)} (I : Inv X pins σ H s) (h : H d = some (.frz o (.dT kvs))) :
    (d == sysModules) = false ∧ ∃ (es : Array DictEntry) (ep : Nat), o.data = .dict es ep ∧ s.heap.DictRaw d es ep ∧ es.size = kvs.length ∧
      ∀ (i : Nat) (k : List L2.Key) (v : V), kvs[i]? = some (k, v) → ∃ hi : i < es.size, RelV v es[i].val := by
  obtain ⟨hd, z, hs, xs, pr, o', es, ep, ho, hx, hdt, he, _⟩ := I.hok d _ h
  rw [hd] at ho
  cases ho
  have l1 : es.size = xs.length := size_of_entries he
  have l2 : kvs.length = xs.length := Paired.length pr
  refine ⟨hs, es, ep, hdt, ⟨o, hd, hx, hdt⟩, by omega, fun i k v e => ?_⟩
  obtain ⟨b, hb, e1, e2, e3⟩ := L2.paired_get pr e
  have q := entry_at he i
  rw [hb] at q
  obtain ⟨hi, q2⟩ := Array.getElem?_eq_some_iff.mp q
  exact ⟨hi, by rw [q2]; exact e3⟩
section
variable {P : Program} {w : World} {K : PySem.W.Frag} {tg : Expr} {d : Addr} {o : Obj} {es : Array DictEntry} {ep : Nat}
theorem turn_valsT {kvs : List (List L2.Key × V)} (it : Addr) (hod : o.data = .dict es ep) (hz : es.size = kvs.length) : Turn P w K tg (Itdt d o kvs) [it] it (fun i h => h.IsValIter it d i es.size ep) where
  mem := by simp
  obj := fun i h st b hb => by
    have e : b = it := by simpa using hb
    subst e
    obtain ⟨oi, e, c, dd⟩ := st
    exact ⟨oi, e, fun v z => by rw [dd] at z; cases z⟩
  keep := fun i h h' st k => st.at fun oi e => k it (by simp) oi e
  item := by
    intro X hP hw hK hc i pins s σ H E I hf st hg
    subst hP hw hK
    obtain ⟨hd, hi⟩ := hg
    obtain ⟨f0, f1, f2, f3, f4, f5⟩ := hf it (by simp)
    obtain ⟨hs, es', ep', hdt, hm, hsz, ent⟩ := frzTV I hd
    obtain ⟨rfl, rfl⟩ := dict_ep hod hdt
    obtain ⟨⟨k, v⟩, hkv⟩ : ∃ p, kvs[i]? = some p := ⟨kvs[i], List.getElem?_eq_getElem hi⟩
    obtain ⟨hi2, ru⟩ := ent i k v hkv
    refine PySem.wpAny_pyNext_values_item_raw st hm hi2 fun h' st' sb => ?_
    have I1 : Inv X pins σ H { s with heap := h' } := I.turned (t' := s.toks) (fun b ob hb e => (sb.2 b hb).trans e) f0 f1 f3 f4 f5
    obtain ⟨oi, e, c, dd⟩ := id st'
    exact ⟨_, rfl, go_of (s := { s with heap := h' }) e c dd (by decide) ⟨v, H, I1, ru, ⟨rfl, k, hkv⟩, st', fun b hb => (hf b hb).1⟩⟩
  done := by
    intro X hP hw hK hc i pins s σ H E I hf st hg
    subst hP hw hK
    obtain ⟨hd, hi⟩ := hg
    obtain ⟨f0, f1, f2, f3, f4, f5⟩ := hf it (by simp)
    obtain ⟨hs, es', ep', hdt, hm, hsz, ent⟩ := frzTV I hd
    obtain ⟨rfl, rfl⟩ := dict_ep hod hdt
    exact PySem.wpAny_pyNext_values_end_raw (I.ok.hd hc) st hm (by omega) fun h' eb => ⟨rfl, I.turned (t' := s.toks) (fun b ob hb e => eb b ob hb e) f0 f1 f3 f4 f5⟩
  self := fun A i s Q E st h => wpAny_pyIter_valiter st h
end
section
variable {X : Cx} {tg e : Expr} {td : TE} {apos cpos : Pos}
def iValsT (td : TE) : TI := fun σ H R => td σ H fun x H1 => ∃ d o kvs, x = .ref d ∧ H1 d = some (.frz o (.dT kvs)) ∧ R (Itdt d o kvs) H1
theorem pi_valuesT (he : PE X e td) (hbase : attributeBase e "values" X.env (eval e X.env) = eval e X.env := by rfl) (hline : (apos.endLine == cpos.line) = true := by rfl) : PI X tg (.Call (.Attribute e "values" apos) [] [] cpos) (iValsT td) := by
  refine ⟨fun pins s σ H R I h => ?_⟩
  refine wpAny_Call_method (T := "dict") (id := "dict.values") hbase rfl hline F.plainAttrs_dict F.slot_dict_values F.type_dict_values (thn (he.run pins s σ H _ I h) fun u s1 ⟨x, H1, I1, rx, d, o, kvs, ex, hd, q⟩ => ?_)
  subst ex
  obtain rfl : u = Value.ref d := rx
  obtain ⟨hs, es, ep, hdt, hm, hsz, ent⟩ := frzTV I1 hd
  have hnd : ∃ o, s1.heap.get? d = some o ∧ o.ExactDict := by
    obtain ⟨hd2, z, hs2, xs, pr, o', es', ep', ho, hx, _⟩ := I1.hok d _ hd
    exact ⟨o', ho, hx⟩
  obtain ⟨od, hod, hxd⟩ := hnd
  refine ⟨hm.typeIs, fun a ha => (by cases ha; exact ⟨od, hod, hxd.2.1⟩), ?_⟩
  have I2 : Inv X pins σ H1 { s1 with heap := s1.heap.push { cls := .type "dict_values", data := .fields #[.ref d] } } := I1.kept (t' := s1.toks) fun b ob q => Heap.get?_push_of_some _ q
  have fin : wpAny (model X.prog X.w) X.A (pyIter (.ref s1.heap.objs.size)) (PIE X pins σ tg R) X.xe { s1 with heap := s1.heap.push { cls := .type "dict_values", data := .fields #[.ref d] } } := by
    refine PySem.wpAny_pyIter_values_raw (d := d) (es := es) (ep := ep) ⟨_, Heap.get?_push_size _ rfl, rfl, rfl⟩ (hm.at fun _ e => Heap.get?_push_of_some _ e) (pi_one (tk := s1.toks) I2 _ (turn_valsT _ hdt hsz) ⟨_, Heap.get?_push_size _ rfl, rfl, ?_⟩ q)
    rfl
  show wpAny _ _ (callWith cpos (.builtin "dict.values") [.ref d] [] []) _ X.xe s1
  exact method_meetsIn F.slot_dict_values F.entry_dict_values rfl (PySem.evalArgs_none ⟨rfl, hm.typeIs, F.args_dict_values_1 _, _, PySem.meets_dict_values_raw d hs, ⟨es, ep, hm⟩, fin⟩)
theorem walk_valsT {kvs : List (List L2.Key × V)} {d : Addr} {o : Obj} : Walk (Itdt d o kvs) kvs.length (fun H => H d = some (.frz o (.dT kvs))) (fun i H x H' => H' = H ∧ ∃ k, kvs[i]? = some (k, x)) :=
  ⟨fun _ _ hi q => ⟨q, hi⟩, fun _ q => ⟨q, Nat.le_refl _⟩, fun _ _ _ _ _ _ y => y⟩
end
end Vf

namespace Vf
open PySem L2 PySem.Spec PyProof.Rows He
/-- a name that the top imports -/
def bfB (x : Str) (id : String) (K : PySem.W.Frag) : Bool := eqO (PySem.W.nsIn K mainGlobals x) (some (some (.builtin id)))
theorem bfB_ok {K : PySem.W.Frag} {h : Heap} {mg : Str → Option Value} (X : K.In h) (G : h.Ns mainGlobals mg) {x : Str} {id : String} (c : bfB x id K = true) : mg x = some (.builtin id) := PySem.W.mg_of X G (eqO_ok c)
/-- s.index(y), y found -/
theorem mt_idxS {X : Cx} : MtR X "str.index" (fun x xs H Q => ∃ (a b : Str) (k : Nat), x = .str a ∧ xs = [.str b] ∧ Txt.index0 a b = some k ∧ Q (.int (k : Nat)) H) := by
  intro pins s σ H x xs v us Q I rx rs h
  obtain ⟨a, b, k, rfl, rfl, hy, hq⟩ := h
  obtain ⟨t, rfl⟩ := rx
  cases rs with
  | cons r1 rs =>
    cases rs
    obtain ⟨u, rfl⟩ := r1
    cases q : Builtin.Str.occurrences a b 0 a.length 1 with
    | nil =>
      unfold Txt.index0 at hy
      rw [q] at hy
      cases hy
    | cons k' rest =>
      unfold Txt.index0 at hy
      rw [q] at hy
      cases hy
      exact PySem.SC.index q ⟨.int (k : Nat), H, I.tok _, ⟨_, rfl⟩, hq⟩
/-- reversed(range(a, b, c)) -/
def PRg3 (X : Cx) (e : Expr) (t : L2.St → Hp → (Int → Int → Int → Nat → Hp → Prop) → Prop) : Prop :=
  ∀ (pins : List (Addr × Obj)) (s : Shared) (σ : L2.St) (H : Hp) (Q : Int → Int → Int → Nat → Hp → Prop), Inv X pins σ H s → t σ H Q →
    wpAny (model X.prog X.w) X.A (eval e X.env) (fun x s' => ∃ r a b c n t u v H', x = .ref r ∧ IsRange s'.heap r a b c t u v ∧ Builtin.Range.handS_smallRev a b c = true ∧ Builtin.Range.rangeSize a b c = (n : Nat) ∧ Inv X pins σ H' s' ∧ Q a b c n H') X.xe s
def tRg3 (ta : TA) : L2.St → Hp → (Int → Int → Int → Nat → Hp → Prop) → Prop := fun σ H Q => ta σ H fun vs H1 => ∃ i j k n, vs = [.int i, .int j, .int k] ∧ RgC i j k n ∧ Builtin.Range.handS_smallRev i j k = true ∧ Q i j k n H1
theorem prg_3 {X : Cx} {a b c : Expr} {ta : TA} {p pos : Pos} (hg : Gl X "range") (hm : X.mg "range" = none) (ha : PA X [a, b, c] ta)
    (hs : starEach [a, b, c] X.env = (false, eval a X.env) :: starEach [b, c] X.env := by rfl) (hpl : (backTo pos (starEach [b, c] X.env)).any (·.1) = false := by rfl) : PRg3 X (.Call (.Name "range" p) [a, b, c] [] pos) (tRg3 ta) := by
  intro pins s σ H Q I h
  refine Call_ (ld_blt I hg hm boot_range (PyProof.Rows.callWith_type1 (thn (ha.run pos pins s σ H _ I h) fun us s1 ⟨vs, H1, I1, r1, q1⟩ => ?_) hs hpl))
  obtain ⟨i, j, k, n, e, ⟨c0, c1, c2, c3⟩, hr, q⟩ := q1
  subst e
  cases r1 with
  | cons r rr =>
    cases rr with
    | cons r' rr =>
      cases rr with
      | cons r'' rr =>
        cases rr
        obtain ⟨t, rfl⟩ := r
        obtain ⟨t', rfl⟩ := r'
        obtain ⟨t'', rfl⟩ := r''
        exact call_range_3 c0 ⟨_, i, j, k, n, _, _, _, H1, rfl, IsRange.new .., hr, c3, I1.kept fun b u e => Heap.get?_push_of_some _ e, q⟩ (.inl (PyProof.noPylong_small c1))
def iRevR3 (tr : L2.St → Hp → (Int → Int → Int → Nat → Hp → Prop) → Prop) : TI := fun σ H R => tr σ H fun a _ c n H1 => R (Itc (a + ((n : Int) - 1) * c) (-c) n) H1
theorem pi_revR3 {X : Cx} {tg e : Expr} {tr : L2.St → Hp → (Int → Int → Int → Nat → Hp → Prop) → Prop} {p pos : Pos} (hg : Gl X "reversed") (hm : X.mg "reversed" = none) (he : PRg3 X e tr) (hs : starEach [e] X.env = (false, eval e X.env) :: starEach [] X.env := by rfl) :
    PI X tg (.Call (.Name "reversed" p) [e] [] pos) (iRevR3 tr) := by
  refine ⟨fun pins s σ H R I h => ?_⟩
  refine Call_ (ld_blt I hg hm PyProof.Rows.boot_reversed (PyProof.Rows.callWith_type1 (args_cons (thn (he pins s σ H _ I h) fun u s1 hx => args_nil ?_) hs) hs rfl))
  obtain ⟨r, a, b, c, n, t, w1, v, H1, eu, hr, hsm, hn, I1, q⟩ := hx
  subst eu
  refine call_reversed_range hr hsm (wpAny_pyIter_rangeiter (Heap.get?_push_size _ rfl) ?_)
  refine pi_one (tk := s1.toks) I1 _ (turn_rangeC _ (a + ((n : Int) - 1) * c) (-c) n) ?_ q
  have e1 : a + ((n : Int) - 1) * c + ((0 : Nat) : Int) * (-c) = a + (Builtin.Range.rangeSize a b c - 1) * c := by
    rw [hn]
    show _ + (0 : Int) * (-c) = _
    rw [Int.zero_mul, Int.add_zero]
  have e2 : (n : Int) - ((0 : Nat) : Int) = Builtin.Range.rangeSize a b c := by rw [hn]; omega
  show IsRangeIter _ _ (a + ((n : Int) - 1) * c + ((0 : Nat) : Int) * (-c)) ((n : Int) - ((0 : Nat) : Int)) (-c)
  rw [e1, e2]
  exact Heap.get?_push_size _ rfl
theorem pi_tupK {X : Cx} {tg e : Expr} {te : TE} (K : PySem.W.Frag) (h : PE X e te) (hK : X.K = K := by rfl) : PI X tg e (iTup K te) := hK ▸ pi_tup h
theorem pi_listK {X : Cx} {tg e : Expr} {te : TE} (K : PySem.W.Frag) (h : PE X e te) (hK : X.K = K := by rfl) : PI X tg e (iList K te) := hK ▸ pi_list h
end Vf

namespace Vf
open PySem L2 PySem.Spec PyProof.Rows
/-! ### max(xs, key=f): xs a list of references, f an own def whose answers are data of one form -/
theorem run_in {X : Cx} {k : Nat} {f : Addr} {fd : FuncData} {ps : List Str} {sp : Sp} (F : FnOk X.prog X.w X.K X.mg X.base CX0 k f fd ps sp) (hb : Binds X.K fd ps []) {B : Around} (hr : Room k B) (hB : B.frames = X.A.frames)
    {pins : List (Addr × Obj)} {σ : L2.St} {H : Hp} {s : Shared} (I : Inv X pins σ H s) {vs : List V} {us : List Value} (r : Vals vs us) {Q : VK} (h : sp vs H Q E0) {T E : Value → Shared → Prop}
    (hT : ∀ u s', EP X pins σ Q u s' → T u s') : wpAny (model X.prog X.w) B (call (.ref f) us) T E s := by
  have hl : us.length = ps.length := by rw [← r.length]; exact F.len _ _ _ _ h
  have e0 : Env0 X.prog X.w X.K X.mg X.base B X.stack s H := by
    have e := I.env0
    exact ⟨hB.trans e.frames, e.mod, e.bs, e.bsz, e.funs, e.frf, e.hok, e.bare⟩
  have b0 := hb s us I.kIn (by rw [List.append_nil]; exact hl)
  rw [List.append_nil] at b0
  refine wpAny_call (codeAny_mono (F.run B X.stack s H ⟨us, []⟩ us vs Q E0 hr e0 b0 r h) fun r s' hq => ?_)
  cases r with
  | error e => exact False.elim hq
  | ok fl =>
    cases fl with
    | ret u => exact hT u s' (I.after hq)
    | next => exact False.elim hq
    | brk => exact False.elim hq
    | cont => exact False.elim hq
structure MxK (K : PySem.W.Frag) (sp : Sp) (a : Addr) (ps : List Addr) (kd : Nat → PyData) (J : Hp → Prop) : Prop where
  lst : ∀ H, J H → SqL K H a (ps.map V.ref)
  turn : ∀ i p H, ps[i]? = some p → J H → sp [.ref p] H (fun y H' => J H' ∧ (∀ z d, Dp K H z d → Dp K H' z d) ∧ Dp K H' y (kd i)) E0
  alk : ∀ i j, i < ps.length → j < ps.length → PySem.W.alike (kd i) (kd j) = true
  nn : ∀ i, i < ps.length → kd i ≠ .none
  dep : ∀ i, i < ps.length → (kd i).depth ≤ 60
abbrev mxB (kd : Nat → PyData) (i j : Nat) : Bool := PySem.W.dataLt (kd j) (kd i)
theorem argBest_lt (bt : Nat → Nat → Bool) : ∀ j, argBest bt j ≤ j
  | 0 => Nat.le_refl _
  | j + 1 => by
    have ih := argBest_lt bt j
    show (if bt (j + 1) (argBest bt j) = true then j + 1 else argBest bt j) ≤ j + 1
    split <;> omega
def mxS (v : Value) (kb : Value) (c : Nat) : Obj := { cls := .type "list", dict := none, data := .seq #[v, kb] c, slots := #[] }
structure MxSt (X : Cx) (pins : List (Addr × Obj)) (σ : L2.St) (a : Addr) (ps : List Addr) (kd : Nat → PyData) (J : Hp → Prop) (S it : Addr) (j : Nat) (s : Shared) : Prop where
  ex : ∃ (H : Hp) (y : V) (kb : Value) (c : Nat) (p : Addr), Inv X pins σ H s ∧ J H ∧ RelV y kb ∧ Dp X.K H y (kd (argBest (mxB kd) j)) ∧ ps[argBest (mxB kd) j]? = some p ∧ (FpOk X pins H S ∧ FpOk X pins H it) ∧ S ≠ it ∧
    s.heap.get? S = some (mxS (.ref p) kb c) ∧ s.heap.IsListIter it a (j + 1)
section
variable {X : Cx} {k : Nat} {f a : Addr} {fd : FuncData} {nm : List Str} {sp : Sp} {pins : List (Addr × Obj)} {σ : L2.St} {ps : List Addr} {kd : Nat → PyData} {J : Hp → Prop} {S it : Addr} {R : Result → Shared → Prop}
theorem fp_at {H H' : Hp} {b : Addr} (h : FpOk X pins H b) (n : H' b = none) : FpOk X pins H' b := ⟨n, h.2⟩
theorem iter_nocell {h : Heap} {it a : Addr} {i : Nat} (st : h.IsListIter it a i) : ∃ o, h.get? it = some o ∧ ∀ v, o.data ≠ .cell v := by
  obtain ⟨o, e, c, d⟩ := st
  exact ⟨o, e, fun v z => by rw [d] at z; cases z⟩
/-- f at the item, S and the iterator held -/
theorem mx_turn (F : FnOk X.prog X.w X.K X.mg X.base CX0 k f fd nm sp) (hb : Binds X.K fd nm []) (hr : Room (k + 1) X.A) (M : MxK X.K sp a ps kd J) {H : Hp} {s : Shared} {i m : Nat} {p : Addr} {o : Obj} (hp : ps[i]? = some p) (I : Inv X pins σ H s) (hJ : J H)
    (fS : FpOk X pins H S) (fI : FpOk X pins H it) (hS : s.heap.get? S = some o) (hoc : ∀ v, o.data ≠ .cell v) (st : s.heap.IsListIter it a m) {T E : Value → Shared → Prop}
    (hT : ∀ u s' H' y, Inv X pins σ H' s' → J H' → RelV y u → Dp X.K H' y (kd i) → (∀ z d, Dp X.K H z d → Dp X.K H' z d) → FpOk X pins H' S → FpOk X pins H' it → s'.heap.get? S = some o → s'.heap.IsListIter it a m → T u s') :
    wpAny (model X.prog X.w) X.A.in1 (call (.ref f) [.ref p]) T E s := by
  have I' : Inv X (pins ++ pinsAt [S, it] s.heap) σ H s := I.pinned (fp := [S, it]) (fun b hb' => by
      rcases List.mem_cons.mp hb' with e | hb'
      · rw [e]; exact fS
      · rw [List.mem_singleton.mp hb']; exact fI) (fun b hb' => by
      rcases List.mem_cons.mp hb' with e | hb'
      · rw [e]; exact ⟨o, hS, hoc⟩
      · rw [List.mem_singleton.mp hb']; exact iter_nocell st)
  refine run_in F hb hr.in1 rfl I' (vs := [.ref p]) (.cons rfl .nil) (M.turn i p H hp hJ) fun u s' q => ?_
  obtain ⟨y, H', I2, ry, j2, dk, dy⟩ := q
  obtain ⟨oi, hi, ci⟩ := iter_nocell st
  have pS := I2.pin (S, o) (List.mem_append_right _ (List.mem_append_right _ (mem_pinsAt (by simp) hS)))
  have pI := I2.pin (it, oi) (List.mem_append_right _ (List.mem_append_right _ (mem_pinsAt (by simp) hi)))
  refine hT u s' H' y I2.unpinned j2 ry dy dk (fp_at fS pS.2.1) (fp_at fI pI.2.1) pS.1 (st.at fun o' e => ?_)
  rw [hi] at e
  cases e
  exact pI.1
theorem mx_loop (F : FnOk X.prog X.w X.K X.mg X.base CX0 k f fd nm sp) (hb : Binds X.K fd nm []) (hr : Room (k + 1) X.A) (M : MxK X.K sp a ps kd J) (kw : List (Str × Value)) :
    ∀ (m j : Nat) (s : Shared), ps.length - (j + 1) = m → j + 1 ≤ ps.length → MxSt X pins σ a ps kd J S it j s →
    (∀ (H' : Hp) (s' : Shared) (p : Addr), Inv X pins σ H' s' → J H' → ps[argBest (mxB kd) (ps.length - 1)]? = some p → R (.ok (.ret (.ref p))) s') → codeAny (model X.prog X.w) X.A (.builtin "max.loop" ⟨[.ref it, .ref f, .ref S], kw⟩) R s := by
  have hname : (toString "max" ++ toString ".loop" : String) = "max.loop" := by decide
  intro m
  induction m with
  | zero =>
    intro j s hm hj ⟨H, y, kb, c, p, I, hJ, ry, dy, hp, ⟨fS, fI⟩, ne, hS, st⟩ hR
    obtain ⟨its, rv, pl, hz⟩ := I.list (M.lst H hJ)
    have hl := rv.length
    rw [List.length_map] at hl
    refine codeAny_builtin PySem.F.entry_max_loop ?_
    rw [Around.under_plainId PySem.F.plain_max_loop _]
    show wpAny _ X.A.in1 (seqItems? (.ref S) >>= _) _ _ s
    refine wpAny_bind (wpAny_seqItems hS rfl ?_)
    refine wpAny_bind (wpAny_tryCatch ?_)
    refine wpAny_pyNext_list_end hr.hd st pl.isList (by simp; omega) fun h' eb => ?_
    have I1 : Inv X pins σ H { s with heap := h' } := I.turned (t' := s.toks) (fun b o hb e => eb b o hb e) fI.1 fI.2.1 fI.2.2.2.1 fI.2.2.2.2.1 fI.2.2.2.2.2
    have hS' : ({ s with heap := h' } : Shared).heap.get? S = some (mxS (.ref p) kb c) := eb S _ ne hS
    show wpAny _ X.A.in1 (updateSeq S (fun _ => #[]) >>= _) _ _ _
    refine wpAny_bind (wpAny_updateSeq hS' rfl (wpAny_bind (wpAny_letGo (wpAny_pure ?_))))
    have I2 := I1.turned (it := S) (t' := s.toks) (h' := h'.update S (Obj.mapSeq fun _ => #[])) (fun b o hb e => (Heap.get?_update_other _ _ (Ne.symm hb)).trans e) fS.1 fS.2.1 fS.2.2.2.1 fS.2.2.2.2.1 fS.2.2.2.2.2
    refine hR H _ p I2 hJ ?_
    rw [show ps.length - 1 = j from by omega]
    exact hp
  | succ m ih =>
    intro j s hm hj ⟨H, y, kb, c, p, I, hJ, ry, dy, hp, ⟨fS, fI⟩, ne, hS, st⟩ hR
    obtain ⟨its, rv, pl, hz⟩ := I.list (M.lst H hJ)
    have hlt : j + 1 < ps.length := by omega
    have hx : ps[j + 1]? = some ps[j + 1] := List.getElem?_eq_getElem hlt
    obtain ⟨u, hu, ru⟩ := rv.get (i := j + 1) (x := .ref ps[j + 1]) (by rw [List.getElem?_map, hx]; rfl)
    cases ru
    generalize ps[j + 1] = q at hx hu
    refine codeAny_builtin PySem.F.entry_max_loop ?_
    rw [Around.under_plainId PySem.F.plain_max_loop _]
    show wpAny _ X.A.in1 (seqItems? (.ref S) >>= _) _ _ s
    refine wpAny_bind (wpAny_seqItems hS rfl ?_)
    refine wpAny_bind (wpAny_tryCatch ?_)
    refine wpAny_pyNext_list_item st pl.isList (x := .ref q) (by simpa using hu) fun h' st' sb => ?_
    have I1 : Inv X pins σ H { s with heap := h' } := I.turned (t' := s.toks) (fun b o hb e => (sb.2 b hb).trans e) fI.1 fI.2.1 fI.2.2.2.1 fI.2.2.2.2.1 fI.2.2.2.2.2
    have hS' : ({ s with heap := h' } : Shared).heap.get? S = some (mxS (.ref p) kb c) := (sb.2 S ne).trans hS
    refine wpAny_bind (wpAny_tryCatch (wpAny_holding (mx_turn F hb hr M hx I1 hJ fS fI hS' (fun v z => nomatch z) st' fun kx s2 H2 y2 I2 j2 ry2 dy2 dk fS2 fI2 hS2 st2 => ?_)))
    have dy3 := dk _ _ dy
    have hbl := argBest_lt (mxB kd) j
    obtain ⟨as1, r1⟩ := Dp.reads I2 _ _ _ dy2 ry2
    obtain ⟨as2, r2⟩ := Dp.reads I2 _ _ _ dy3 ry
    refine wpAny_bind (wpAny_tryCatch (wpAny_holding (wpAny_bind (PySem.W.gt_data r1 r2 (M.alk _ _ hlt (by omega)) (M.nn _ hlt) (by
      have h1 := Nat.min_le_left (kd (j + 1)).depth (kd (argBest (mxB kd) j)).depth
      have h2 := M.dep _ hlt
      have h3 := hr.un
      show X.A.units + 1 + _ < _
      omega) ?_))))
    refine wpAny_bind (wpAny_holding (wpAny_truthy_bool ?_))
    refine wpAny_bind (wpAny_letGo (wpAny_pure ?_))
    have eB : argBest (mxB kd) (j + 1) = if PySem.W.dataLt (kd (argBest (mxB kd) j)) (kd (j + 1)) = true then j + 1 else argBest (mxB kd) j := rfl
    cases hcmp : PySem.W.dataLt (kd (argBest (mxB kd) j)) (kd (j + 1)) with
    | true =>
      rw [hcmp, if_pos rfl] at eB
      simp only [if_true]
      refine wpAny_bind (wpAny_updateSeq hS2 rfl (wpAny_bind (wpAny_letGo ?_)))
      rw [hname]
      refine wpAny_pure ⟨plainId_quiet PySem.F.plain_max_loop _, ih (j + 1) _ (by omega) hlt ⟨H2, y2, kx, c, q, ?_, j2, ry2, by rw [eB]; exact dy2, by rw [eB]; exact hx, ⟨fS2, fI2⟩, ne, ?_, st2.at fun o e => ?_⟩ hR⟩
      · exact I2.turned (it := S) (t' := s2.toks) (fun b o hb e => (Heap.get?_update_other _ _ (Ne.symm hb)).trans e) fS2.1 fS2.2.1 fS2.2.2.2.1 fS2.2.2.2.2.1 fS2.2.2.2.2.2
      · exact Heap.get?_update_self _ hS2 rfl
      · exact (Heap.get?_update_other _ _ ne).trans e
    | false =>
      rw [hcmp, if_neg Bool.false_ne_true] at eB
      simp only [Bool.false_eq_true, if_false]
      refine wpAny_bind (wpAny_letGo ?_)
      rw [hname]
      exact wpAny_pure ⟨plainId_quiet PySem.F.plain_max_loop _, ih (j + 1) _ (by omega) hlt ⟨H2, y, kb, c, p, I2, j2, ry, by rw [eB]; exact dy3, by rw [eB]; exact hp, ⟨fS2, fI2⟩, ne, hS2, st2⟩ hR⟩
end
section
variable {X : Cx} {k : Nat} {f a : Addr} {fd : FuncData} {nm : List Str} {sp : Sp} {pins : List (Addr × Obj)} {σ : L2.St} {ps : List Addr} {kd : Nat → PyData} {J : Hp → Prop}
theorem mx_start (F : FnOk X.prog X.w X.K X.mg X.base CX0 k f fd nm sp) (hb : Binds X.K fd nm []) (hr : Room (k + 1) X.A) (M : MxK X.K sp a ps kd J) {S it : Addr} {R : Result → Shared → Prop} (kw : List (Str × Value)) (hn : 0 < ps.length) {H : Hp} {s : Shared} {c : Nat} (I : Inv X pins σ H s) (hJ : J H)
    (fS : FpOk X pins H S) (fI : FpOk X pins H it) (ne : S ≠ it) (hS : s.heap.get? S = some { cls := .type "list", dict := none, data := .seq #[] c, slots := #[] }) (st : s.heap.IsListIter it a 0)
    (hR : ∀ (H' : Hp) (s' : Shared) (p : Addr), Inv X pins σ H' s' → J H' → ps[argBest (mxB kd) (ps.length - 1)]? = some p → R (.ok (.ret (.ref p))) s') : codeAny (model X.prog X.w) X.A (.builtin "max.loop" ⟨[.ref it, .ref f, .ref S], kw⟩) R s := by
  have hname : (toString "max" ++ toString ".loop" : String) = "max.loop" := by decide
  obtain ⟨its, rv, pl, hz⟩ := I.list (M.lst H hJ)
  have hx : ps[0]? = some ps[0] := List.getElem?_eq_getElem hn
  obtain ⟨u, hu, ru⟩ := rv.get (i := 0) (x := .ref ps[0]) (by rw [List.getElem?_map, hx]; rfl)
  cases ru
  generalize ps[0] = q at hx hu
  refine codeAny_builtin PySem.F.entry_max_loop ?_
  rw [Around.under_plainId PySem.F.plain_max_loop _]
  show wpAny _ X.A.in1 (seqItems? (.ref S) >>= _) _ _ s
  refine wpAny_bind (wpAny_seqItems hS rfl ?_)
  refine wpAny_bind (wpAny_tryCatch ?_)
  refine wpAny_pyNext_list_item st pl.isList (x := .ref q) (by simpa using hu) fun h' st' sb => ?_
  have I1 : Inv X pins σ H { s with heap := h' } := I.turned (t' := s.toks) (fun b o hb e => (sb.2 b hb).trans e) fI.1 fI.2.1 fI.2.2.2.1 fI.2.2.2.2.1 fI.2.2.2.2.2
  have hS' : ({ s with heap := h' } : Shared).heap.get? S = some { cls := .type "list", dict := none, data := .seq #[] c, slots := #[] } := (sb.2 S ne).trans hS
  refine wpAny_bind (wpAny_tryCatch (wpAny_holding (mx_turn F hb hr M hx I1 hJ fS fI hS' (fun v z => nomatch z) st' fun kx s2 H2 y2 I2 j2 ry2 dy2 dk fS2 fI2 hS2 st2 => ?_)))
  refine wpAny_bind (wpAny_updateSeq hS2 rfl ?_)
  rw [hname]
  refine wpAny_pure ⟨plainId_quiet PySem.F.plain_max_loop _, mx_loop F hb hr M kw _ 0 _ rfl hn ⟨H2, y2, kx, c + 1, q, ?_, j2, ry2, dy2, hx, ⟨fS2, fI2⟩, ne, ?_, st2.at fun o e => ?_⟩ hR⟩
  · exact I2.turned (it := S) (t' := s2.toks) (fun b o hb e => (Heap.get?_update_other _ _ (Ne.symm hb)).trans e) fS2.1 fS2.2.1 fS2.2.2.2.1 fS2.2.2.2.2.1 fS2.2.2.2.2.2
  · exact Heap.get?_update_self _ hS2 rfl
  · exact (Heap.get?_update_other _ _ ne).trans e
/-- the best of a row, the first of equals -/
abbrev mxI (kd : Nat → PyData) (n : Nat) : Nat := argBest (mxB kd) (n - 1)
def rMaxF (K : PySem.W.Frag) (sp : Sp) : List V → Hp → VK → Prop := fun vs H Q => ∃ (a : Addr) (ps : List Addr) (kd : Nat → PyData) (J : Hp → Prop), vs = [.ref a] ∧ 0 < ps.length ∧ J H ∧ MxK K sp a ps kd J ∧
  ∀ H' p, J H' → ps[mxI kd ps.length]? = some p → Q (.ref p) H'
theorem cr_maxF (F : FnOk X.prog X.w X.K X.mg X.base CX0 k f fd nm sp) (hb : Binds X.K fd nm []) (hr : Room (k + 1) X.A) : CallRK X (.builtin "max") [Str.ofString "key"] (fun vs zs H Q => zs = [.ref f] ∧ rMaxF X.K sp vs H Q) := by
  intro pins s σ H vs zs us ws Q I r rz hq
  obtain ⟨rfl, a, ps, kd, J, rfl, hn, hJ, M, q⟩ := hq
  obtain rfl := Vals.ref1 r
  obtain ⟨w1, rfl, e1⟩ := vals1 rz
  obtain rfl : w1 = Value.ref f := e1
  have hname : (toString "max" ++ toString ".loop" : String) = "max.loop" := by decide
  refine PyProof.Rows.kmk_tree PySem.F.kind_max PySem.F.plain_max PySem.F.entry_max (PyProof.Rows.kmk_max_key _ _) ?_
  refine wpAny_bind (wpAny_of_eq (a := [some (.ref f), none]) (by rfl) ?_)
  refine wpAny_bind (wpAny_pure ?_)
  obtain ⟨its, rv, pl, hz⟩ := I.list (M.lst H hJ)
  refine wpAny_bind (wpAny_pyIter_list pl.isList ?_)
  have I1 : Inv X pins σ H { s with heap := s.heap.push { cls := .type "list_iterator", data := .fields #[.ref a, .int 0 0] } } := I.kept (t' := s.toks) fun b o e => Heap.get?_push_of_some _ e
  have fI : FpOk X pins H s.heap.objs.size := I.fpOk (Nat.le_refl _) (I.hok.fresh (Nat.le_refl _))
  have st0 : ({ s with heap := s.heap.push { cls := .type "list_iterator", data := .fields #[.ref a, .int 0 0] } } : Shared).heap.IsListIter s.heap.objs.size a 0 := ⟨_, Heap.get?_push_size _ rfl, rfl, rfl⟩
  generalize hs1 : ({ s with heap := s.heap.push { cls := .type "list_iterator", data := .fields #[.ref a, .int 0 0] } } : Shared) = s1 at I1 st0 ⊢
  have sz1 : s1.heap.objs.size = s.heap.objs.size + 1 := by rw [← hs1]; exact size_push' ..
  have fS : FpOk X pins H s1.heap.objs.size := I1.fpOk (Nat.le_refl _) (I1.hok.fresh (Nat.le_refl _))
  refine wpAny_bind (wpAny_newObj_type ?_)
  rw [hname]
  have I2 : Inv X pins σ H { s1 with heap := s1.heap.push { cls := .type "list", data := .seq #[] 0 } } := I1.kept (t' := s1.toks) fun b o e => Heap.get?_push_of_some _ e
  exact wpAny_pure ⟨plainId_quiet PySem.F.plain_max_loop _, mx_start F hb hr M _ hn I2 hJ fS fI (fun z => by rw [sz1] at z; exact absurd z (Nat.succ_ne_self _)) (Heap.get?_push_size _ rfl) (st0.at fun o e => Heap.get?_push_of_some _ e) fun H' s' p I' hJ' hp => ⟨.ref p, H', I', rfl, q H' p hJ' hp⟩⟩
end
def tMaxF (K : PySem.W.Frag) (sp : Sp) (ta : TA) : TE := fun σ H Q => ta σ H fun vs H1 => rMaxF K sp vs H1 Q
theorem pe_maxF {X : Cx} {k j : Nat} {x : Str} {sp : Sp} {p p2 p3 pos : Pos} {e : Expr} {t : TA} (c : Cal X.prog X.w X.K X.mg X.base k x sp) (hr : Room j X.A) (hk : k + 1 ≤ j) (hg : Gl X "max") (hm : X.mg "max" = none) (hgx : Gl X x) (ha : PA X [e] t)
    (hdb : (x == ("__debug__" : Str)) = false := by decide)
    (he : backTo pos (starEach [e] X.env) = (false, eval e X.env) :: backTo pos (starEach [] X.env) := by rfl) (hpl : (backTo pos (starEach [e] X.env)).any (·.1) = false := by rfl)
    (hall : (backToKw pos (keywordEach [⟨some "key", .Name x p2, p3⟩] X.env)).all (·.1.isSome) = true := by rfl) (hnone : (backToKw pos (keywordEach [⟨some "key", .Name x p2, p3⟩] X.env)).any (·.1.isNone) = false := by rfl) (hks : (backToKw pos (keywordEach [⟨some "key", .Name x p2, p3⟩] X.env)).filterMap (·.1) = [Str.ofString "key"] := by rfl) :
    PE X (.Call (.Name "max" p) [e] [⟨some "key", .Name x p2, p3⟩] pos) (tMaxF X.K sp t) := by
  obtain ⟨f, fd, ps, F, hmx, hkp, hb⟩ := c.ex
  refine ⟨fun pins s σ H Q I h => ?_⟩
  refine wpAny_Call_Name_kw (ld_blt I hg hm (u := .builtin "max") (by first | rfl | decide +kernel) ?_ (by decide) (by decide))
  refine PyProof.Rows.callWith_kw (thn (ha.run pos pins s σ H _ I h) fun us s1 ⟨vs, H1, I1, r1, q1⟩ => thn ((pk_cons (pe_glob (v := .ref f) hgx hmx rfl hdb) pk_nil).run pos pins s1 σ H1 (fun zs H2 => zs = [V.ref f] ∧ rMaxF X.K sp vs H2 Q) I1 ⟨rfl, q1⟩) fun ws s2 ⟨zs, H2, I2, r2, q2⟩ => ?_) he hpl hall hnone
  rw [hks]
  exact cr_maxF F hb (hr.mono hk) pins s2 σ H2 vs zs us ws Q I2 r1 r2 q2
end Vf

namespace Vf
open PySem L2 PySem.Spec PyProof.Rows He
/-! ### a written tuple, known to be a plain one -/
def tTupP (t : TA) : TE := fun σ H Q => t σ H fun xs H1 => xs.length ≤ sizeLine ∧ ∀ p H', H1 p = none → Same H1 H' → PlT H' p xs → (∀ b, b ≠ p → H' b = H1 b) → Q (.ref p) H'
theorem pe_tupP {X : Cx} {es : List Expr} {x1} {pos : Pos} {t : TA} (h : PA X es t) : PE X (.Tuple es x1 pos) (tTupP t) := by
  refine ⟨fun pins s σ H Q I hq => ?_⟩
  refine wpAny_Tuple_spliced (thn (h.run pos pins s σ H _ I hq) fun us s1 ⟨xs, H1, I1, r, z, q⟩ => ⟨by rw [← r.length]; exact z, ?_⟩)
  have hf : H1 s1.heap.objs.size = none := I1.hok.fresh (Nat.le_refl _)
  have J : Inv X pins σ (upd H1 s1.heap.objs.size (.frz { cls := .type "tuple", data := .seq us.toArray } (.tup xs))) { s1 with heap := s1.heap.push { cls := .type "tuple", data := .seq us.toArray } } :=
    I1.laid (t' := s1.toks) (fun b u e => Heap.get?_push_of_some _ e) (Nat.le_refl _) ⟨Heap.get?_push_size _ rfl, z, us, r, ⟨_, Heap.get?_push_size _ rfl, rfl, _, rfl⟩⟩
  exact ⟨.ref s1.heap.objs.size, _, J, rfl, q _ _ hf (same_new hf) ⟨_, rfl, upd_same⟩ fun b hb => upd_ne hb⟩
theorem e_tupP {t : TA} {σ : L2.St} {H : Hp} {Q : VK} (q : t σ H fun xs H1 => xs.length ≤ sizeLine ∧ ∀ p H', H1 p = none → Same H1 H' → PlT H' p xs → (∀ b, b ≠ p → H' b = H1 b) → Q (.ref p) H') : tTupP t σ H Q := q
/-! ### an own class beside lists -/
def clsLB (x : Str) (K : PySem.W.Frag) : Bool := decide (PySem.W.kitOne K (.type "list") (.ref (ga K x)) = some false) && PySem.W.notFirst K (ga K x) (.type "list")
structure ClsL (K : PySem.W.Frag) (x : Str) : Prop where
  lst : PySem.W.kitOne K (.type "list") (.ref (ga K x)) = some false
  nf : PySem.W.notFirst K (ga K x) (.type "list") = true
theorem clsLB_ok {x : Str} {K : PySem.W.Frag} (c : clsLB x K = true) : ClsL K x := by
  unfold clsLB at c
  obtain ⟨c1, c2⟩ := ba c
  exact ⟨of_decide_eq_true c1, c2⟩
/-- x == y, x an instance with its own __eq__; y one too, a tuple or a list -/
def rEqOL (K : PySem.W.Frag) (C : Addr) (sp : Sp) (E : XK) : R2 := fun x y H Q => ∃ (a b dx : Addr) (fs : List (Str × V)), x = .ref a ∧ y = .ref b ∧ H a = some (.ins C dx fs) ∧
  ((∃ (dy : Addr) (gs : List (Str × V)), H b = some (.ins C dy gs)) ∨ (PySem.W.notFirst K C (.type "tuple") = true ∧ ∃ ys, SqT K H b ys) ∨ (PySem.W.notFirst K C (.type "list") = true ∧ ∃ ys, SqL K H b ys)) ∧ sp [x, y] H (fun z H' => ∃ t, z = .bl t ∧ Q z H') E
theorem op_eqOwnL {X : Cx} {CX : CXT} {C f : Addr} {fd : FuncData} {ps : List Str} {sp : Sp} {E : XK} {n : Nat} (F : FnOk X.prog X.w X.K X.mg X.base CX n f fd ps sp)
    (hs : PySem.W.findIn X.K (.ref C) "__eq__" = some (some (.ref f))) (hf : PySem.W.isFn X.K (.ref f) = true) (hb : Binds X.K fd ps []) (hx : Passes CX X E) (hr : Room n X.A) : OpR X (compareOp .Eq) (rEqOL X.K C sp E) := by
  intro pins s σ H x y v u Q I rx ry q
  obtain ⟨a, b, dx, fs, rfl, rfl, ha, hy, hsp⟩ := q
  cases rx
  cases ry
  obtain ⟨mA, J, _⟩ := ins_get I.hok ha
  obtain ⟨od, J, _⟩ := J.look
  obtain ⟨m, hF⟩ := I.fr
  have go : ∀ tb : Value, PySem.W.Looks (model X.prog X.w) s.heap (typeOf (.ref b)) tb → PySem.W.notFirst X.K C tb = true → wpAny (model X.prog X.w) X.A (richCompare .Eq (.ref a) (.ref b)) (EP X pins σ Q) X.xe s := fun tb ht hn => by
    refine PySem.W.cmp_K (op := .Eq) (tb := tb) hr.units0 hF I.ok.mod.kin J ht hn hs hf ?_
    have hl := F.len _ _ _ _ hsp
    have r2 : Vals [V.ref a, V.ref b] [Value.ref a, Value.ref b] := .cons rfl (.cons rfl .nil)
    refine wpAny_call (codeAny_mono (F.run X.A X.stack s H ⟨[.ref a, .ref b], []⟩ [.ref a, .ref b] [.ref a, .ref b] _ E hr I.env0 (by
      have := hb s [.ref a, .ref b] I.kIn (by simpa using hl)
      simpa using this) r2 hsp) fun r s' hq => ?_)
    cases r with
    | error e => exact hx pins σ H s e s' I hq
    | ok fl =>
      cases fl with
      | ret w =>
        obtain ⟨z, H', I', rz, t, ez, hQ⟩ := I.after hq
        subst ez
        cases rz
        exact ⟨.bl t, H', I', rfl, hQ⟩
      | next => exact False.elim hq
      | brk => exact False.elim hq
      | cont => exact False.elim hq
  rcases hy with ⟨dy, gs, hy⟩ | ⟨hn, ys, hy⟩ | ⟨hn, ys, hy⟩
  · obtain ⟨mB, J', _⟩ := ins_get I.hok hy
    obtain ⟨od', J', _⟩ := J'.look
    exact go (.ref C) J'.type (by simp [PySem.W.notFirst])
  · obtain ⟨its, rv, ⟨o, ho, hc, _⟩, _⟩ := I.tuple hy
    exact go (.type "tuple") (fun A Q E s' k z => wpAny_typeOf (T := "tuple") ⟨o, k _ _ ho, hc⟩ z) hn
  · obtain ⟨its, rv, ⟨o, n, ho, hc, _⟩, _⟩ := I.list hy
    exact go (.type "list") (fun A Q E s' k z => wpAny_typeOf (T := "list") ⟨o, k _ _ ho, hc⟩ z) hn
theorem op_eqCL {X : Cx} {k j : Nat} {x : Str} {sp : Sp} (c : EqC X.prog X.w X.K X.mg X.base k x sp) (hr : Room j X.A) (hk : k ≤ j) : OpR X (compareOp .Eq) (rEqOL X.K (ga X.K x) sp E0) := by
  obtain ⟨f, fd, ps, F, hs, hf, hb⟩ := c.ex
  exact op_eqOwnL F hs hf hb pass0 (hr.mono hk)
/-! ### xs != ys, lists of the same objects -/
def rNeR (K : PySem.W.Frag) : R2 := fun x y H Q => ∃ (a b : Addr) (ps : List Addr), x = .ref a ∧ y = .ref b ∧ SqL K H a (ps.map V.ref) ∧ SqL K H b (ps.map V.ref) ∧ Q (.bl false) H
theorem op_neR {X : Cx} {k : Nat} (hr : Room k X.A) : OpR X (compareOp .NotEq) (rNeR X.K) := by
  intro pins s σ H x y v u Q I rx ry q
  obtain ⟨a, b, ps, rfl, rfl, ha, hb, q⟩ := q
  cases rx
  cases ry
  obtain ⟨its, rv, pl, _⟩ := I.list ha
  obtain ⟨its2, rv2, pl2, _⟩ := I.list hb
  have e1 := refs_of rv
  have e2 := refs_of rv2
  subst e1 e2
  have h := SeqAt.RcNeAt.lists (A := X.A) (s := s) (e := fun _ => true) pl.isList pl2.isList rfl hr.units0 fun j h1 h2 => SeqAt.EqAt.same _
  have e0 : ((List.range (ps.map Value.ref).toArray.size).all fun _ => true) = true := List.all_eq_true.mpr fun _ _ => rfl
  rw [e0] at h
  have h2 : SeqAt.RcNeAt X.A s (.ref a) (.ref b) false := h
  exact h2 X.prog X.w X.xe _ ⟨.bl false, H, I, rfl, q⟩
/-! ### data: ints, bools, texts, tuples of ints -/
theorem plain_ints : ∀ xs : List Int, PyData.plainAll (Di xs) = true
  | [] => by simp [PyData.plainAll]
  | x :: xs => by
    show PyData.plainAll (.int x :: Di xs) = true
    rw [PyData.plainAll, plain_ints xs]
    simp [PyData.plain]
theorem e_eqPV {K : PySem.W.Frag} {x y : V} {H : Hp} {Q : VK} {d e : PyData} (h1 : Dp K H x d) (h2 : Dp K H y e) (p1 : d.plain = true) (p2 : e.plain = true) (hd : d.depth ≤ 60) {b : Bool} (hb : PyData.eqv d e = b) (q : Q (.bl b) H) : rEqP K x y H Q := ⟨d, e, h1, h2, p1, p2, hd, by rw [hb]; exact q⟩
theorem e_nePV {K : PySem.W.Frag} {x y : V} {H : Hp} {Q : VK} {d e : PyData} (h1 : Dp K H x d) (h2 : Dp K H y e) (p1 : d.plain = true) (p2 : e.plain = true) (hd : d.depth ≤ 60) {b : Bool} (hb : PyData.eqv d e = b) (q : Q (.bl (!b)) H) : rNeP K x y H Q := ⟨d, e, h1, h2, p1, p2, hd, by rw [hb]; exact q⟩
theorem dp_ti {K : PySem.W.Frag} {H : Hp} {a : Addr} {xs : List Int} (h : SqT K H a (xs.map V.int)) : Dp K H (.ref a) (.tuple (Di xs)) := .tup h (dpAll_ints xs)
theorem e_eqPT {K : PySem.W.Frag} {H : Hp} {Q : VK} {a b : Addr} {xs ys : List Int} (h1 : SqT K H a (xs.map V.int)) (h2 : SqT K H b (ys.map V.int)) (q : Q (.bl (decide (xs = ys))) H) : rEqP K (.ref a) (.ref b) H Q :=
  e_eqPV (dp_ti h1) (dp_ti h2) (by simp [PyData.plain, plain_ints]) (by simp [PyData.plain, plain_ints]) (by
    show PyData.depthAll (Di xs) + 1 ≤ 60
    rw [depthAll_ints]; decide) (eqvAll_ints xs ys) q
end Vf

namespace Vf
open PySem L2 PySem.Spec PyProof.Rows He
/-! ### a dict comprehension over what is walked -/
def DcB (J : It) (g : TG) (tt : TT) (tk tv : TE) (vs : List Nat) (σ : L2.St) (D : Addr) (H1 : Hp) (Q : VK) : Prop := ∃ W : Nat → Nat → Hp → Prop, (∃ m, W 0 m (upd H1 D (.dK []))) ∧ ∀ i m H, W i m H →
  (J.stop i H ∧ Q (.ref D) H) ∨ (J.go i H ∧
    ∃ Nx : Hp → Prop, (∀ H', Nx H' → ∃ m', m' < m ∧ W (i + 1) m' H') ∧
    ∀ x H', J.yld i H x H' → g x (wipe σ vs) H' fun σ2 H2 => wipe σ2 vs = wipe σ vs ∧ tt σ2 H2 fun b H3 =>
    if b = true then tk σ2 H3 fun y H4 =>
      tv σ2 H4 fun z H5 => ∃ kvs k, y = kV k ∧ H5 D = some (.dK kvs) ∧ kvs.length < sizeLine ∧
      Nx (upd H5 D (.dK (putK kvs k z))) else Nx H3)
theorem e_dc {wi : TI} {g : TG} {tt : TT} {tk tv : TE} {vs : List Nat} {σ : L2.St} {H : Hp} {Q : VK} (q : wi σ H fun J H1 => ∀ D, H1 D = none → DcB J g tt tk tv vs σ D H1 Q) : tDc wi g tt tk tv vs σ H Q := q
theorem dc_it {J : It} {n : Nat} {G : Hp → Prop} {Y : Nat → Hp → V → Hp → Prop} (w : Walk J n G Y) {g : TG} {tt : TT} {tk tv : TE} {vs : List Nat} {σ : L2.St} {H1 : Hp} {D : Addr} {Q : VK} (Pv : Nat → Hp → Prop) (h0 : Pv 0 (upd H1 D (.dK []))) (hG : ∀ i H, i ≤ n → Pv i H → G H)
    (hs : ∀ i x H H', i < n → Pv i H → Y i H x H' → g x (wipe σ vs) H' fun σ2 H2 => wipe σ2 vs = wipe σ vs ∧ tt σ2 H2 fun b H3 =>
      if b = true then tk σ2 H3 fun y H4 => tv σ2 H4 fun z H5 => ∃ kvs k, y = kV k ∧ H5 D = some (.dK kvs) ∧ kvs.length < sizeLine ∧ Pv (i + 1) (upd H5 D (.dK (putK kvs k z))) else Pv (i + 1) H3)
    (hd : ∀ H, Pv n H → Q (.ref D) H) : DcB J g tt tk tv vs σ D H1 Q := by
  refine ⟨fun i m H => m = n - i ∧ i ≤ n ∧ Pv i H, ⟨n, by simp, Nat.zero_le _, h0⟩, ?_⟩
  rintro i m H ⟨rfl, hi, p⟩
  by_cases lt : i < n
  · exact .inr ⟨w.goes i H lt (hG i H hi p), Pv (i + 1), fun H' p' => ⟨n - (i + 1), by omega, rfl, lt, p'⟩, fun x H' y => hs i x H H' lt p (w.yields i H x H' lt (hG i H hi p) y)⟩
  · have e : i = n := by omega
    subst e
    exact .inl ⟨w.stops H (hG i H hi p), hd H p⟩
theorem tupOK (K : PySem.W.Frag) {X : Cx} (hK : X.K = K := by rfl) : CallR X (.type "tuple") (fun xs H Q => ∃ p ys, xs = [.ref p] ∧ ((SqL K H p ys ∧ ∀ l, H l = none → Q (.ref l) (upd H l (.tup ys))) ∨ (SqT K H p ys ∧ Q (.ref p) H))) := hK ▸ call_tuple_of
/-! ### dicts that differ in nothing -/
def rNeDD (K : PySem.W.Frag) : R2 := fun x y H Q => ∃ a b ks ls, x = .ref a ∧ y = .ref b ∧ H a = some (.dK ks) ∧ H b = some (.dK ls) ∧ ks.length = ls.length ∧
  (∀ p ∈ ks, ∃ u d, valV ls p.1 = some u ∧ Dp K H p.2 d ∧ Dp K H u d ∧ PySem.W.alike d d = true ∧ d.depth ≤ 60 ∧ PyData.eqv d d = true) ∧ Q (.bl false) H
theorem hits_data {X : Cx} {pins : List (Addr × Obj)} {σ : L2.St} {H : Hp} {s : Shared} (I : Inv X pins σ H s) {A : Around} (hu : A.units + 60 < cLine) {ls : List (L2.Key × V)} {vb : List (L2.Key × Value)} (rb : KV ls vb) {ks : List (L2.Key × V)} {va : List (L2.Key × Value)} (ra : KV ks va) :
    (∀ p ∈ ks, ∃ u d, valV ls p.1 = some u ∧ Dp X.K H p.2 d ∧ Dp X.K H u d ∧ PySem.W.alike d d = true ∧ d.depth ≤ 60 ∧ PyData.eqv d d = true) → PySem.W.KeqHits A s vb va true := by
  unfold KV at ra
  induction ra with
  | nil => intro _; exact .nil
  | @cons p q ps qs h t ih =>
    intro hp
    obtain ⟨h1, h2⟩ := h
    obtain ⟨u, d, e, d1, d2, al, dp, ev⟩ := hp p (List.mem_cons_self ..)
    have rr : RelO (some u) (valueAt vb p.1) := by rw [← e]; exact rb.val p.1
    obtain ⟨y, hy, ry⟩ := rr.some_of
    obtain ⟨key, v⟩ := q
    have h1' : p.1 = key := h1
    rw [h1'] at hy
    obtain ⟨as1, r1⟩ := Dp.reads I d p.2 v d1 h2
    obtain ⟨as2, r2⟩ := Dp.reads I d u y d2 ry
    have eq := PySem.W.eqAt_alike d d A s v y as1 as2 r1 r2 al (by have := Nat.min_le_left d.depth d.depth; omega)
    rw [ev] at eq
    have z := PySem.W.KeqHits.hit hy eq (ih fun p' hm => hp p' (List.mem_cons_of_mem _ hm))
    exact z
theorem op_neDD {X : Cx} (hu : X.A.units + 64 < cLine) : OpR X (compareOp .NotEq) (rNeDD X.K) := by
  intro pins s σ H x y v u Q I rx ry h
  obtain ⟨a, b, ks, ls, rfl, rfl, ea, eb, hlen, hp, q⟩ := h
  obtain rfl : v = Value.ref a := rx
  obtain rfl : u = Value.ref b := ry
  obtain ⟨_, ya, va, ra, da⟩ := (show ObjOk X.prog X.w H s.heap a (.dK ks) from I.hok a _ ea)
  obtain ⟨_, yb, vb, rb, db⟩ := (show ObjOk X.prog X.w H s.heap b (.dK ls) from I.hok b _ eb)
  have hl : va.length = vb.length := by rw [← ra.length, ← rb.length]; exact hlen
  refine PySem.W.keq_ne (knd := mixKind X.prog X.w) (r := true) ya yb da db (by omega) (fun _ => hits_data I (by show X.A.units + 1 + 60 < cLine; omega) rb ra hp) ?_
  rw [show (va.length == vb.length && true) = true from by rw [hl]; simp]
  exact ⟨.bl false, H, I, rfl, q⟩
end Vf

/-! set(xs), xs a list of ints: as HandS.SetFor has it for a tuple; sorted of it by cr_sortedSet. -/
namespace Vf
open PySem L2 PySem.Spec PyProof.Rows He
section
variable {P : Program} {w : World} {A : Around} {E : Value → Shared → Prop} {s : Shared}
/-- the new set as it is made -/
abbrev emptyS (w : World) : Obj := { cls := .type "set", dict := none, data := .set #[] 0 (.fresh 0 0 (!w.params.followText "set-order")) }
theorem set_of_ints {l : Addr} {its : Array Value} (ns : List Int) {Q : Value → Shared → Prop}
    (h0 : A.handled = none) (isl : s.heap.IsList l its) (hin : IntsAre its.toList ns)
    (small : ns.length + 1 < scanBound)
    (q : ∀ (g : Heap) (tk n : Nat), SetR w g s.heap.objs.size (fun j => decide (j ∈ ns)) n → n ≤ ns.length →
      (∀ b o, s.heap.get? b = some o → g.get? b = some o) →
      Q (.ref s.heap.objs.size) { s with heap := g, toks := tk }) :
    wpAny (model P w) A (call (.type "set") [.ref l]) Q E s := by
  have size : its.size = ns.length := by
    rw [← IntsAre.length hin]; exact Array.length_toList.symm
  obtain ⟨_, _, mro⟩ := F.called_set.mro
  have made := F.called_set.made; have sub := F.called_set.sub
  have e1 := F.called_set.notType; have e2 := F.called_set.canCreate
  have e3 := F.typeCall_set_1 (.ref l)
  refine wpAny_call (codeAny_of_tree ?_)
  show wpAny _ _ (callAny (.type "set") _) _ _ _
  refine wpAny_pure ⟨Code.quiet_builtin _ (by decide +kernel),
    codeAny_builtin F.entry_type_call ?_⟩
  rw [Around.under_plain (weight_type_call_type "set" [.ref l] []) rfl]
  repeat (any_goals (first | assumption | wp_step))

  refine codeAny_mono (code_set_led1 (.ref l) (E := E)
    (Q₁ := fun r t => r = .ref s.heap.objs.size ∧ t = { s with heap := s.heap.push (emptyS w) })
    ⟨rfl, rfl⟩) fun r t hr => ?_
  rcases r with e | fl
  · exact hr
  cases fl with
  | ret obj =>
    obtain ⟨rfl, rfl⟩ := hr
    have at1 : (s.heap.push (emptyS w)).get? s.heap.objs.size = some (emptyS w) := Heap.get?_push_size _ rfl
    have ty1 : Shared.TypeIs { s with heap := s.heap.push (emptyS w) } (.ref s.heap.objs.size) "set" := ⟨_, at1, rfl⟩
    have look := F.called_set.init.lookup
    have bind := F.called_set.init.bind (.ref s.heap.objs.size)
    repeat (any_goals (first | assumption | wp_step))

    refine codeAny_mono (codeAny_call_builtin
      (R := wants (fun r t => r = .none ∧ ∃ g tk n, t = { s with heap := g, toks := tk } ∧
        SetR w g s.heap.objs.size (fun j => decide (j ∈ ns)) n ∧ n ≤ ns.length ∧
        (∀ b o, s.heap.get? b = some o → g.get? b = some o)) E)
      F.called_set.init.plain F.entry_set_init (check_set_init_1 ty1 ?_)) fun r2 t2 hr2 => ?_
    · have isl1 : (s.heap.push (emptyS w)).IsList l its := isl.push _
      have d1 := F.sub_list_set
      have d2 := F.sub_list_frozenset
      have nd : (Value.type "list" == Value.type "dict") = false := by decide
      obtain ⟨ol, hol, hcl, nl, hdl⟩ := id isl
      obtain ⟨oc, od, odt, osl⟩ := ol
      simp only at hcl hdl
      subst hcl; subst hdl
      have hol1 := Heap.get?_push_of_some (emptyS w) hol
      unfold Builtin.«set.__init__» noKeywords Builtin.Frozenset.updateFrom
      generalize hPI : pyIter = PI
      wp_walk
      subst hPI

      refine wpAny_pyIter_list isl1 ?_
      refine wpAny_bind (wpAny_runValue ?_)
      have lt : l < s.heap.objs.size := Heap.lt_size hol
      have h3 : A.in1.in1.in1.handled = none := by simp [h0]
      have sz : (s.heap.push (emptyS w)).objs.size = s.heap.objs.size + 1 := Heap.size_push ..
      have n1 : l ≠ (s.heap.push (emptyS w)).objs.size := by rw [sz]; exact Nat.ne_of_lt (Nat.lt_succ_of_lt lt)
      have n2 : s.heap.objs.size ∉ [(s.heap.push (emptyS w)).objs.size, l] := by
        rw [sz]
        intro m
        rcases List.mem_cons.mp m with z | z
        · exact Nat.succ_ne_self _ z.symm
        · exact Nat.ne_of_gt lt (List.mem_singleton.mp z)
      have val : ∀ (i : Nat) (v : Value), its[i]? = some v → ∃ k t, ns[i]? = some k ∧ v = .int k t := fun i v hv => by
        have hi : i < ns.length := by rw [← size]; exact (Array.getElem?_eq_some_iff.mp hv).1
        obtain ⟨t, e⟩ := IntsAre.int_at hin i v (by rw [Array.getElem?_toList]; exact hv)
        rw [List.getD_eq_getElem?_getD, List.getElem?_eq_getElem hi] at e
        exact ⟨ns[i], t, List.getElem?_eq_getElem hi, e⟩
      refine set_update_ints ((Walks.list h3 _ l n1 its).toS) s.heap.objs.size n2 ns size small val
        (its.size - 0) 0 _ (by omega) (Nat.zero_le _)
        ⟨⟨_, Heap.get?_push_size _ rfl, rfl, rfl⟩, isl1.push _⟩
        ⟨0, Nat.le_refl 0, setR_new_at (Heap.get?_push_of_some _ at1)⟩ fun t' n mv le R => ?_
      obtain ⟨g, g2, dr, tk, os⟩ := t'
      have eg : g2 = s.gens := mv.gens
      have ed : dr = s.drawn := mv.drawn
      have eo : os = s.os := mv.os
      subst eg ed eo
      rw [size] at le
      show wpAny _ _ _ _ _ _
      refine wpAny_pure ?_
      show wpAny _ _ (ret Value.none) _ _ _
      refine wpAny_pure ⟨rfl, g, tk, n, rfl, R, le, fun b o e => ?_⟩
      have lb : b < s.heap.objs.size := Heap.lt_size e
      refine mv.heap b o (fun m => ?_) (Heap.get?_push_of_some _ (Heap.get?_push_of_some _ e))
      rcases List.mem_cons.mp m with z | z
      · exact Nat.ne_of_lt lb z
      · have := List.mem_singleton.mp z
        rw [sz] at this
        exact Nat.ne_of_lt (Nat.lt_succ_of_lt lb) this
    · rcases r2 with e | fl2
      · exact hr2
      cases fl2 with
      | ret r =>
        obtain ⟨rfl, g, tk, n, rfl, h1, h2, h3⟩ := hr2
        repeat (any_goals (first | assumption | wp_step))
        exact q _ _ _ h1 h2 h3
      | _ => exact hr2.elim
  | _ => exact hr.elim
end
/-- set(xs), xs a list of ints -/
def rSetL (K : PySem.W.Frag) (w : World) : List V → Hp → VK → Prop := fun xs H Q => ∃ (p : Addr) (ns : List Int), xs = [.ref p] ∧ SqL K H p (ns.map V.int) ∧ ns.length ≤ 1000 ∧
  ∀ a n, H a = none → n ≤ ns.length → Q (.ref a) (upd H a (SetO w a (fun j => decide (j ∈ ns)) n))
theorem cr_setL {X : Cx} (hc : X.calm = true) : CallR X (.type "set") (rSetL X.K X.w) := by
  intro pins s σ H xs us Q I r h
  obtain ⟨p, ns, rfl, hq, hl, q⟩ := h
  obtain ⟨u, rfl, rx⟩ := vals1 r
  cases rx
  obtain ⟨its, rv, pl, hz⟩ := I.list hq
  refine set_of_ints ns (I.ok.hd hc) pl.isList (by simpa using ints_of_vals rv) (by unfold scanBound; omega) fun g tk n R le k => ?_
  exact ⟨.ref s.heap.objs.size, _, I.laid (t' := tk) k (Nat.le_refl _) (setO_new R), rfl, q _ n (I.hok.fresh (Nat.le_refl _)) le⟩
end Vf
namespace Vf
open PySem L2 PySem.Spec PyProof.Rows He
theorem niDK (K : PySem.W.Frag) {X : Cx} (hu : X.A.units + 65 < cLine) (hK : X.K = K := by rfl) : OpR X (compareOp .NotIn) (rNotInD K) := hK ▸ op_notInD hu
/-! ### [e for x in xs for y in f(x)] -/
/-- the inner clause's turns, Nx where it ends -/
def Inn (J1 : It) (g1 : TG) (tt1 : TT) (te : TE) (vs1 : List Nat) (σ2 : L2.St) (D : Addr) (H4 : Hp) (Nx : Hp → Prop) : Prop :=
  ∃ W1 : Nat → Nat → Hp → Prop, (∃ m, W1 0 m H4) ∧ ∀ j k H, W1 j k H → (J1.stop j H ∧ Nx H) ∨ (J1.go j H ∧
    ∃ Nx1 : Hp → Prop, (∀ H', Nx1 H' → ∃ k', k' < k ∧ W1 (j + 1) k' H') ∧
    ∀ x H', J1.yld j H x H' → g1 x (wipe σ2 vs1) H' fun σ3 H5 => wipe σ3 vs1 = wipe σ2 vs1 ∧ tt1 σ3 H5 fun b H6 =>
      if b = true then te σ3 H6 fun y H7 => ∃ acc, H7 D = some (.lst acc) ∧ acc.length < sizeLine ∧ Nx1 (upd H7 D (.lst (acc ++ [y])))
      else Nx1 H6)
def Lc2B (J : It) (g : TG) (tt : TT) (wi1 : TI) (g1 : TG) (tt1 : TT) (te : TE) (vs vs1 : List Nat) (σ : L2.St) (D : Addr) (H1 : Hp) (Q : VK) : Prop :=
  ∃ W : Nat → Nat → Hp → Prop, (∃ m, W 0 m (upd H1 D (.lst []))) ∧ ∀ i m H, W i m H → (J.stop i H ∧ Q (.ref D) H) ∨ (J.go i H ∧
    ∃ Nx : Hp → Prop, (∀ H', Nx H' → ∃ m', m' < m ∧ W (i + 1) m' H') ∧
    ∀ x H', J.yld i H x H' → g x (wipe σ vs) H' fun σ2 H2 => wipe σ2 vs = wipe σ vs ∧ tt σ2 H2 fun b H3 =>
      if b = true then wi1 σ2 H3 fun J1 H4 => Inn J1 g1 tt1 te vs1 σ2 D H4 Nx else Nx H3)
theorem e_lc2 {wi wi1 : TI} {g g1 : TG} {tt tt1 : TT} {te : TE} {vs vs1 : List Nat} {σ : L2.St} {H : Hp} {Q : VK}
    (q : wi σ H fun J H1 => ∀ D, H1 D = none → Lc2B J g tt wi1 g1 tt1 te vs vs1 σ D H1 Q) : tLc2 wi g tt wi1 g1 tt1 te vs vs1 σ H Q := q
theorem inn_it {J : It} {n : Nat} {G : Hp → Prop} {Y : Nat → Hp → V → Hp → Prop} (w : Walk J n G Y) {g : TG} {tt : TT} {te : TE} {vs : List Nat} {σ : L2.St} {D : Addr} {H1 : Hp} {Nx : Hp → Prop}
    (Pv : Nat → Hp → Prop) (h0 : Pv 0 H1) (hG : ∀ i H, i ≤ n → Pv i H → G H)
    (hs : ∀ i x H H', i < n → Pv i H → Y i H x H' → g x (wipe σ vs) H' fun σ2 H2 => wipe σ2 vs = wipe σ vs ∧ tt σ2 H2 fun b H3 =>
      if b = true then te σ2 H3 fun y H4 => ∃ acc, H4 D = some (.lst acc) ∧ acc.length < sizeLine ∧ Pv (i + 1) (upd H4 D (.lst (acc ++ [y]))) else Pv (i + 1) H3)
    (hd : ∀ H, Pv n H → Nx H) : Inn J g tt te vs σ D H1 Nx := by
  refine ⟨fun i m H => m = n - i ∧ i ≤ n ∧ Pv i H, ⟨n, by simp, Nat.zero_le _, h0⟩, ?_⟩
  rintro i m H ⟨rfl, hi, p⟩
  by_cases lt : i < n
  · exact .inr ⟨w.goes i H lt (hG i H hi p), Pv (i + 1), fun H' p' => ⟨n - (i + 1), by omega, rfl, lt, p'⟩, fun x H' y => hs i x H H' lt p (w.yields i H x H' lt (hG i H hi p) y)⟩
  · have e : i = n := by omega
    subst e
    exact .inl ⟨w.stops H (hG i H hi p), hd H p⟩
theorem lc2_it {J : It} {n : Nat} {G : Hp → Prop} {Y : Nat → Hp → V → Hp → Prop} (w : Walk J n G Y) {g g1 : TG} {tt tt1 : TT} {te : TE} {wi1 : TI} {vs vs1 : List Nat} {σ : L2.St} {D : Addr} {H1 : Hp} {Q : VK}
    (Pv : Nat → Hp → Prop) (h0 : Pv 0 (upd H1 D (.lst []))) (hG : ∀ i H, i ≤ n → Pv i H → G H)
    (hs : ∀ i x H H', i < n → Pv i H → Y i H x H' → g x (wipe σ vs) H' fun σ2 H2 => wipe σ2 vs = wipe σ vs ∧ tt σ2 H2 fun b H3 =>
      if b = true then wi1 σ2 H3 fun J1 H4 => Inn J1 g1 tt1 te vs1 σ2 D H4 (Pv (i + 1)) else Pv (i + 1) H3)
    (hd : ∀ H, Pv n H → Q (.ref D) H) : Lc2B J g tt wi1 g1 tt1 te vs vs1 σ D H1 Q := by
  refine ⟨fun i m H => m = n - i ∧ i ≤ n ∧ Pv i H, ⟨n, by simp, Nat.zero_le _, h0⟩, ?_⟩
  rintro i m H ⟨rfl, hi, p⟩
  by_cases lt : i < n
  · exact .inr ⟨w.goes i H lt (hG i H hi p), Pv (i + 1), fun H' p' => ⟨n - (i + 1), by omega, rfl, lt, p'⟩, fun x H' y => hs i x H H' lt p (w.yields i H x H' lt (hG i H hi p) y)⟩
  · have e : i = n := by omega
    subst e
    exact .inl ⟨w.stops H (hG i H hi p), hd H p⟩
end Vf

/-! set(xs), xs a list of texts, and sorted of it; xs.remove(x) where the items are data. -/
namespace Vf
open PySem L2 PySem.Spec PyProof.Rows He
abbrev tk_ (P : Program) (w : World) := PySem.strKind P w
def txOf (e : Int × Value) : Str := match e.2 with | .str x _ => x | _ => Str.empty
def TxE (w : World) (e : Int × Value) : Prop := ∃ x u, e.2 = Value.str x u ∧ e.1 = hashStr w x
/-- the set at a has the texts L -/
def TxS (w : World) (h : Heap) (a : Addr) (L : List Str) : Prop :=
  ∃ ob arr ep tb, h.get? a = some ob ∧ ob.ExactSet ∧ ob.data = .set arr ep tb ∧ (∀ e ∈ arr.toList, TxE w e)
    ∧ (arr.toList.map txOf).Perm L ∧ L.Nodup ∧ L.length < scanBound ∧ tb.fits arr.size = true
    ∧ Ris tb.place.toList ∧ (w.params.followText "set-order" = true ∨ tb.led = true)
theorem TxS.to {w : World} {h g : Heap} {a : Addr} {L : List Str} (t : TxS w h a L) (k : ∀ o, h.get? a = some o → g.get? a = some o) : TxS w g a L := by
  obtain ⟨ob, arr, ep, tb, h1, r⟩ := t
  exact ⟨ob, arr, ep, tb, k _ h1, r⟩
section
variable {P : Program} {w : World} {A : Around} {E : Value → Shared → Prop} {s : Shared}
theorem tx_kinds {l : List (Int × Value)} (g : ∀ e ∈ l, TxE w e) : ElemsOf (tk_ P w) l := fun e m => by
  obtain ⟨x, u, e1, e2⟩ := g e m
  exact ⟨⟨x, by rw [e1]; exact PySem.strKind_is P w x u, e2⟩, by rw [e1]; rfl⟩
theorem tx_is {e : Int × Value} (g : TxE w e) (x : Str) : (tk_ P w).is x e.2 = true ↔ txOf e = x := by
  obtain ⟨y, u, e1, _⟩ := g
  have h1 : txOf e = y := by unfold txOf; rw [e1]
  rw [h1, e1]
  constructor
  · intro q
    exact (tk_ P w).inj _ _ _ (PySem.strKind_is P w y u) q
  · rintro rfl
    exact PySem.strKind_is P w y u
theorem tx_size {arr : Array (Int × Value)} {L : List Str} (p : (arr.toList.map txOf).Perm L) : arr.size = L.length := by
  have := p.length_eq
  rw [List.length_map] at this
  rw [← this]
  exact Array.length_toList.symm
/-- where the new one is stored -/
theorem tx_store {gv : Bool → Sem Unit} (hgv : ∀ (b : Bool) (s1 : Shared) (R : Unit → Shared → Prop), R () s1 → wpAny (model P w) A (gv b) R E s1)
    {a : Addr} {ob : Obj} {arr : Array (Int × Value)} {ep : Nat} {tb : SetTable}
    (e0 : s.heap.get? a = some ob) (ex : ob.ExactSet) (ed : ob.data = .set arr ep tb)
    {arr1 : Array (Int × Value)} {tb1 : SetTable} {L : List Str}
    (g1 : ∀ e ∈ arr1.toList, TxE w e) (p1 : (arr1.toList.map txOf).Perm L) (n1 : L.Nodup) (b1 : L.length < scanBound)
    (f1 : tb1.fits arr1.size = true) (r1 : Ris tb1.place.toList) (l1 : w.params.followText "set-order" = true ∨ tb1.led = true)
    {dm : Bool} {R : Option Bool → Shared → Prop}
    (q : ∀ g, Heap.SameBut a s.heap g → TxS w g a L → R (some true) { s with heap := g }) :
    wpAny (model P w) A (do
      storeSet a arr1 tb1
      if (!dm && tb1.tooFull) = true then do
        gv (relayAll tb1 arr1 (SetTable.grown arr1.size)).2.2
        storeSet a (relayAll tb1 arr1 (SetTable.grown arr1.size)).1 (relayAll tb1 arr1 (SetTable.grown arr1.size)).2.1
        pure (some true)
      else pure (some true)) R E s := by
  have bs : arr1.size < scanBound := by rw [tx_size p1]; exact b1
  refine wpAny_bind (wpAny_storeSet_of e0 ed ?_ (fits_of_scanBound bs))
  have e1 := store_at (es' := arr1) (t' := tb1) e0 ed
  have sb := Heap.SameBut.update s.heap a (Obj.putSet arr1 tb1)
  by_cases c : (!dm && tb1.tooFull) = true
  · rw [if_pos c]
    have pm := relayAll_perm tb1 arr1 (SetTable.grown arr1.size)
    have pf := relayAll_fits tb1 arr1 (SetTable.grown arr1.size)
    have pr := relayAll_ris tb1 arr1 (SetTable.grown arr1.size)
    have pl := relayAll_led tb1 arr1 (SetTable.grown arr1.size)
    revert pm pf pr pl
    generalize relayAll tb1 arr1 (SetTable.grown arr1.size) = rel
    obtain ⟨arr2, tb2, gave⟩ := rel
    intro pm pf pr pl
    dsimp only at pm pf pr pl ⊢
    have p2 : (arr2.toList.map txOf).Perm L := (pm.map txOf).trans p1
    have bs2 : arr2.size < scanBound := by rw [tx_size p2]; exact b1
    refine wpAny_bind (hgv _ _ _ ?_)
    refine wpAny_bind (wpAny_storeSet_of e1 rfl ?_ (fits_of_scanBound bs2))
    have e2 := store_at (es' := arr2) (t' := tb2) e1 rfl
    refine wpAny_pure (q _ (sb.trans (Heap.SameBut.update _ a _)) ?_)
    refine ⟨_, arr2, _, tb2, e2, ex, rfl, fun e m => g1 e (pm.mem_iff.mp m), p2, n1, b1, pf, pr, ?_⟩
    exact l1.imp id fun z => pl.trans z
  · rw [if_neg c]
    exact wpAny_pure (q _ sb ⟨_, arr1, _, tb1, e1, ex, rfl, g1, p1, n1, b1, f1, r1, l1⟩)
/-- one text more -/
theorem tx_add {a : Addr} {L : List Str} {x : Str} {u : Tok} {Q : Bool → Shared → Prop} (t : TxS w s.heap a L) (room : L.length + 1 < scanBound)
    (q1 : x ∈ L → Q false s) (q2 : x ∉ L → ∀ g, Heap.SameBut a s.heap g → TxS w g a (x :: L) → Q true { s with heap := g }) :
    wpAny (model P w) A (setAddHashed a (.str x u) ((tk_ P w).hash x)) Q E s := by
  obtain ⟨ob, arr, ep, tb, e0, ex, ed, g, p, n, b, f, r, l⟩ := t
  have hx : (tk_ P w).is x (.str x u) = true := PySem.strKind_is P w x u
  have hs : (Value.str x u).scannable = true := rfl
  have bs : arr.size < scanBound := by rw [tx_size p]; exact b
  have el : ElemsOf (tk_ P w) arr.toList := tx_kinds g
  have mem : x ∈ L ↔ ∃ e ∈ arr.toList, (tk_ P w).is x e.2 = true := by
    rw [← p.mem_iff, List.mem_map]
    exact ⟨fun ⟨e, m, h⟩ => ⟨e, m, (tx_is (g e m) x).2 h⟩, fun ⟨e, m, h⟩ => ⟨e, m, (tx_is (g e m) x).1 h⟩⟩
  unfold setAddHashed setAddHashedIn
  refine wpAny_holding (wpAny_bind (wpAny_setState_of e0 ed f ?_))
  dsimp only
  rw [byScan_of hs bs el]
  simp only [↓reduceIte]
  unfold setAddByScan
  refine wpAny_bind ?_
  refine wpAny_bind (wpAny_rule ?_)
  refine wpAny_bind (wpAny_setScan_of hx e0 ed f el ?_)
  cases fi : List.findIdx? (fun e => (tk_ P w).is x e.2) arr.toList with
  | some j =>
    dsimp only
    obtain ⟨hj, pj, _⟩ := List.findIdx?_eq_some_iff_getElem.mp fi
    exact wpAny_pure (wpAny_pure (q1 (mem.2 ⟨_, List.getElem_mem hj, pj⟩)))
  | none =>
    dsimp only
    have nx : x ∉ L := fun m => by
      obtain ⟨e, m2, h⟩ := mem.1 m
      have z := List.findIdx?_eq_none_iff.mp fi e m2
      rw [h] at z
      cases z
    have gw : ∀ (c : Bool) {s1 : Shared} {R : Unit → Shared → Prop}, R () s1 → wpAny (model P w) A (match c with | true => rule "set.scan.the-table-gave-way" | false => pure ()) R E s1 := fun c s1 R h => by
      cases c
      · exact wpAny_pure h
      · exact wpAny_rule h
    have pm := layNew_perm tb arr ((tk_ P w).hash x) (.str x u)
    have pf := layNew_fits tb arr ((tk_ P w).hash x) (.str x u)
    have pr := layNew_ris tb arr ((tk_ P w).hash x) (.str x u) r
    have pl := layNew_led tb arr ((tk_ P w).hash x) (.str x u)
    revert pm pf pr pl
    generalize layNew tb arr ((tk_ P w).hash x) (.str x u) = new
    obtain ⟨arr1, tb1, dm, gave⟩ := new
    intro pm pf pr pl
    dsimp only at pm pf pr pl ⊢
    rw [Array.toList_push] at pm
    have pc : arr1.toList.Perm (((tk_ P w).hash x, Value.str x u) :: arr.toList) := pm.trans (List.perm_append_singleton _ _)
    have p1 : (arr1.toList.map txOf).Perm (x :: L) := (pc.map txOf).trans (p.cons x)
    have g1 : ∀ e ∈ arr1.toList, TxE w e := fun e m => by
      rcases List.mem_cons.mp (pc.mem_iff.mp m) with z | z
      · exact ⟨x, u, by rw [z], by rw [z]; rfl⟩
      · exact g e z
    have n1 : (x :: L).Nodup := List.nodup_cons.mpr ⟨nx, n⟩
    have b1 : (x :: L).length < scanBound := room
    have l1 : w.params.followText "set-order" = true ∨ tb1.led = true := l.imp id fun z => pl.trans z
    have fin := fun g' sb r' => q2 nx g' sb r'
    refine wpAny_bind (gw _ ?_)
    split
    · refine wpAny_bind ?_
      rw [hashByValue_scannable 8 hs]
      refine wpAny_pure ?_
      refine tx_store ?_ e0 ex ed g1 p1 n1 b1 ?_ ?_ ?_ ?_
      · intro c s1 R h; exact gw c h
      · first | (split <;> first | exact pf | exact SetTable.fits_plain_off pf) | exact pf
      · first | (split <;> exact pr) | exact pr
      · first | (split <;> exact l1) | exact l1
      · intro g' sb r'; dsimp only; exact wpAny_pure (fin g' sb r')
    · refine wpAny_bind (wpAny_pure ?_)
      simp only [↓reduceIte]
      refine tx_store ?_ e0 ex ed g1 p1 n1 b1 pf pr l1 ?_
      · intro c s1 R h; exact gw c h
      · intro g' sb r'; dsimp only; exact wpAny_pure (fin g' sb r')
/-- the set takes all of a list -/
theorem tx_loop {I : Addr} {fp wr : List Addr} {G : Array GenState → Array GenState → Prop} {n : Nat} {Pv : Nat → Value → Prop} {St : Nat → Shared → Prop} {R : Result → Shared → Prop}
    (W : WalksS P w A.in1 I fp wr G n Pv St) (a : Addr) (na : a ∉ fp) (xs : List Str) (hn : n = xs.length) (room : xs.length + 1 < scanBound)
    (pv : ∀ i v, Pv i v → ∃ x u, xs[i]? = some x ∧ v = .str x u) :
    ∀ (k i : Nat) (s : Shared), n = i + k → St i s →
      (∃ L, L.length ≤ i ∧ (∀ x, x ∈ L ↔ x ∈ xs.take i) ∧ TxS w s.heap a L) →
      (∀ s' L, Moved (a :: wr) G s s' → L.length ≤ n → (∀ x, x ∈ L ↔ x ∈ xs) → TxS w s'.heap a L → R (.ok (.ret .none)) s') →
      codeAny (model P w) A (.builtin "set.update.loop" ⟨[.ref a, .ref I], []⟩) R s := by
  have nw : a ∉ wr := fun z => na (W.sub _ z)
  have sub : ∀ b ∈ wr, b ∈ a :: wr := fun b m => List.mem_cons_of_mem _ m
  intro k
  induction k with
  | zero =>
    rintro i s hk st ⟨L, l1, l2, t⟩ q
    have e : n = i := by omega
    subst e
    refine codeAny_builtin F.entry_set_update_loop ?_
    rw [Around.under_plainId F.plain_set_update_loop _]
    show wpAny _ A.in1 (pyNext (.ref I) >>= _) _ _ s
    refine wpAny_bind (W.done s _ _ st fun s' m => ?_)
    show wpAny _ A.in1 (ret Value.none) _ _ s'
    refine wpAny_pure (q s' L (m.mono sub) l1 (fun x => ?_) (t.to fun o h => m.heap a o nw h))
    rw [l2, List.take_of_length_le (by omega)]
  | succ k ih =>
    rintro i s hk st ⟨L, l1, l2, t⟩ q
    have lt : i < n := by omega
    refine codeAny_builtin F.entry_set_update_loop ?_
    rw [Around.under_plainId F.plain_set_update_loop _]
    show wpAny _ A.in1 (pyNext (.ref I) >>= _) _ _ s
    refine wpAny_bind (W.item i s _ _ lt st fun v s' hp st' m => ?_)
    obtain ⟨x, u, hx, rfl⟩ := pv i v hp
    have t' := t.to (g := s'.heap) fun o h => m.heap a o nw h
    have l3 : ∀ z, z ∈ xs.take (i + 1) ↔ z ∈ xs.take i ∨ z = x := fun z => by
      rw [List.take_add_one, hx, List.mem_append]
      exact or_congr Iff.rfl (by simp)
    have next : ∀ (g : Heap) (M : List Str), (∀ b o, b ≠ a → s'.heap.get? b = some o → g.get? b = some o) → M.length ≤ i + 1 → (∀ z, z ∈ M ↔ z ∈ xs.take (i + 1)) → TxS w g a M →
        codeAny (model P w) A (.builtin "set.update.loop" ⟨[.ref a, .ref I], []⟩) R { s' with heap := g, toks := s'.toks + 1 } := fun g M k1 lm lz tm => by
      refine ih (i + 1) _ (by omega) (W.frame _ s' _ _ st' (Nat.le_succ _) fun b mb o e => ?_) ⟨M, lm, lz, tm⟩ fun s2 L2 m2 c1 c2 c3 => ?_
      · exact k1 b o (fun z => na (z ▸ mb)) e
      · refine q s2 L2 (Moved.trans W.gtrans ((m.mono sub).then_heap (Nat.le_succ _) fun b o nb e => ?_) m2) c1 c2 c3
        exact k1 b o (fun z => nb (by rw [z]; exact List.mem_cons_self)) e
    show wpAny _ A.in1 (holding [Value.str x u] (setAdd a (.str x u)) >>= _) _ _ s'
    refine wpAny_bind (wpAny_holding ?_)
    unfold setAdd
    refine wpAny_holding ?_
    refine wpAny_bind ((tk_ P w).pyHash (k := x) (PySem.strKind_is P w x u) ?_)
    refine tx_add (s := { s' with toks := s'.toks + 1 }) t' (by omega) (fun mx => ?_) fun nx g sb tn => ?_
    · refine wpAny_pure ⟨plainId_quiet F.plain_set_update_loop _, next s'.heap L (fun b o _ e => e) (by omega) (fun z => ?_) t'⟩
      rw [l3, ← l2 z]
      exact ⟨.inl, fun h => h.elim id fun e => e ▸ mx⟩
    · refine wpAny_pure ⟨plainId_quiet F.plain_set_update_loop _, next g (x :: L) (fun b o nb e => by rw [sb.2 b nb]; exact e) (by rw [List.length_cons]; omega) (fun z => ?_) tn⟩
      rw [l3, ← l2 z, List.mem_cons]
      exact Or.comm
theorem strs_get : ∀ {us : List Value} {xs : List Str}, StrsAre us xs → ∀ (i : Nat) (v : Value), us[i]? = some v → ∃ x u, xs[i]? = some x ∧ v = .str x u
  | _, _, .nil, i, v, h => by simp at h
  | _, _, .cons n t r, 0, v, h => ⟨n, t, rfl, by simpa using h.symm⟩
  | _, _, .cons n t r, i + 1, v, h => strs_get r i v (by simpa using h)
/-- set(xs) -/
theorem tx_of {l : Addr} {its : Array Value} (xs : List Str) {Q : Value → Shared → Prop}
    (h0 : A.handled = none) (isl : s.heap.IsList l its) (hin : StrsAre its.toList xs) (small : xs.length + 1 < scanBound)
    (q : ∀ (g : Heap) (tk : Nat) (L : List Str), TxS w g s.heap.objs.size L → L.length ≤ xs.length → (∀ x, x ∈ L ↔ x ∈ xs) →
      (∀ b o, s.heap.get? b = some o → g.get? b = some o) → Q (.ref s.heap.objs.size) { s with heap := g, toks := tk }) :
    wpAny (model P w) A (call (.type "set") [.ref l]) Q E s := by
  have size : its.size = xs.length := by rw [← StrsAre.len_eq hin]; exact Array.length_toList.symm
  obtain ⟨_, _, mro⟩ := F.called_set.mro
  have made := F.called_set.made; have sub := F.called_set.sub
  have e1 := F.called_set.notType; have e2 := F.called_set.canCreate
  have e3 := F.typeCall_set_1 (.ref l)
  refine wpAny_call (codeAny_of_tree ?_)
  show wpAny _ _ (callAny (.type "set") _) _ _ _
  refine wpAny_pure ⟨Code.quiet_builtin _ (by decide +kernel), codeAny_builtin F.entry_type_call ?_⟩
  rw [Around.under_plain (weight_type_call_type "set" [.ref l] []) rfl]
  repeat (any_goals (first | assumption | wp_step))

  refine codeAny_mono (code_set_led1 (.ref l) (E := E)
    (Q₁ := fun r t => r = .ref s.heap.objs.size ∧ t = { s with heap := s.heap.push (emptyS w) }) ⟨rfl, rfl⟩) fun r t hr => ?_
  rcases r with e | fl
  · exact hr
  cases fl with
  | ret obj =>
    obtain ⟨rfl, rfl⟩ := hr
    have at1 : (s.heap.push (emptyS w)).get? s.heap.objs.size = some (emptyS w) := Heap.get?_push_size _ rfl
    have ty1 : Shared.TypeIs { s with heap := s.heap.push (emptyS w) } (.ref s.heap.objs.size) "set" := ⟨_, at1, rfl⟩
    have look := F.called_set.init.lookup
    have bind := F.called_set.init.bind (.ref s.heap.objs.size)
    repeat (any_goals (first | assumption | wp_step))

    refine codeAny_mono (codeAny_call_builtin
      (R := wants (fun r t => r = .none ∧ ∃ g tk L, t = { s with heap := g, toks := tk } ∧ TxS w g s.heap.objs.size L ∧ L.length ≤ xs.length ∧ (∀ x, x ∈ L ↔ x ∈ xs) ∧
        (∀ b o, s.heap.get? b = some o → g.get? b = some o)) E)
      F.called_set.init.plain F.entry_set_init (check_set_init_1 ty1 ?_)) fun r2 t2 hr2 => ?_
    · have isl1 : (s.heap.push (emptyS w)).IsList l its := isl.push _
      have d1 := F.sub_list_set
      have d2 := F.sub_list_frozenset
      have nd : (Value.type "list" == Value.type "dict") = false := by decide
      obtain ⟨ol, hol, hcl, nl, hdl⟩ := id isl
      obtain ⟨oc, od, odt, osl⟩ := ol
      simp only at hcl hdl
      subst hcl; subst hdl
      have hol1 := Heap.get?_push_of_some (emptyS w) hol
      unfold Builtin.«set.__init__» noKeywords Builtin.Frozenset.updateFrom
      generalize hPI : pyIter = PI
      wp_walk
      subst hPI

      refine wpAny_pyIter_list isl1 ?_
      refine wpAny_bind (wpAny_runValue ?_)
      have lt : l < s.heap.objs.size := Heap.lt_size hol
      have h3 : A.in1.in1.in1.handled = none := by simp [h0]
      have sz : (s.heap.push (emptyS w)).objs.size = s.heap.objs.size + 1 := Heap.size_push ..
      have n1 : l ≠ (s.heap.push (emptyS w)).objs.size := by rw [sz]; exact Nat.ne_of_lt (Nat.lt_succ_of_lt lt)
      have n2 : s.heap.objs.size ∉ [(s.heap.push (emptyS w)).objs.size, l] := by
        rw [sz]
        intro m
        rcases List.mem_cons.mp m with z | z
        · exact Nat.succ_ne_self _ z.symm
        · exact Nat.ne_of_gt lt (List.mem_singleton.mp z)
      have val : ∀ (i : Nat) (v : Value), its[i]? = some v → ∃ x u, xs[i]? = some x ∧ v = .str x u := fun i v hv => by
        exact strs_get hin i v (by rw [Array.getElem?_toList]; exact hv)
      refine tx_loop ((Walks.list h3 _ l n1 its).toS) s.heap.objs.size n2 xs size small val
        its.size 0 _ (Nat.zero_add _).symm
        ⟨⟨_, Heap.get?_push_size _ rfl, rfl, rfl⟩, isl1.push _⟩
        ⟨[], Nat.le_refl 0, by simp, _, #[], 0, _, Heap.get?_push_of_some _ at1, ?_, rfl, by simp, .nil, .nil, ?_, ?_, ?_, ?_⟩ fun t' L mv le mm R => ?_
      rotate_right
      · obtain ⟨g, g2, dr, tk, os⟩ := t'
        have eg : g2 = s.gens := mv.gens
        have ed : dr = s.drawn := mv.drawn
        have eo : os = s.os := mv.os
        subst eg ed eo
        rw [size] at le
        show wpAny _ _ _ _ _ _
        refine wpAny_pure ?_
        show wpAny _ _ (ret Value.none) _ _ _
        refine wpAny_pure ⟨rfl, g, tk, L, rfl, R, le, mm, fun b o e => ?_⟩
        have lb : b < s.heap.objs.size := Heap.lt_size e
        refine mv.heap b o (fun m => ?_) (Heap.get?_push_of_some _ (Heap.get?_push_of_some _ e))
        rcases List.mem_cons.mp m with z | z
        · exact Nat.ne_of_lt lb z
        · have := List.mem_singleton.mp z
          rw [sz] at this
          exact Nat.ne_of_lt (Nat.lt_succ_of_lt lb) this
      · exact ⟨rfl, rfl, rfl⟩
      · exact (by decide : 0 < scanBound)
      · rfl
      · exact List.Pairwise.nil
      · show _ ∨ (!w.params.followText "set-order") = true
        cases w.params.followText "set-order"
        · exact .inr rfl
        · exact .inl rfl
    · rcases r2 with e | fl2
      · exact hr2
      cases fl2 with
      | ret r =>
        obtain ⟨rfl, g, tk, L, rfl, h1, h2, h3, h4⟩ := hr2
        repeat (any_goals (first | assumption | wp_step))
        exact q _ _ _ h1 h2 h3 h4
      | _ => exact hr2.elim
  | _ => exact hr.elim
/-- sorted(it) -/
theorem tx_sorted {a : Addr} {L : List Str} {Q : Value → Shared → Prop} (t : TxS w s.heap a L) (h0 : A.handled = none) (h64 : L.length < 64)
    (q : ∀ s' p (out : Array Value) (c : Nat) (ys : List Str), (∀ b o, s.heap.get? b = some o → s'.heap.get? b = some o) → s'.gens = s.gens → s'.os = s.os → s.heap.objs.size ≤ p →
      s'.heap.get? p = some (seqObj "list" out c) → StrsAre out.toList ys → ys.Perm L → PyProof.Rows.sortedS ys = true → Q (.ref p) s') :
    wpAny (model P w) A (call (.builtin "sorted") [.ref a]) Q E s := by
  obtain ⟨ob, arr, ep, tb, e0, ex, ed, g, p, n, b, f, r, l⟩ := t
  have bs : arr.size < scanBound := by rw [tx_size p]; exact b
  refine Calls.call_function_entry kind_sorted plain_sorted entry_sorted (args_sorted1 _) ?_
  unfold Builtin.«sorted»
  refine wpAny_bind (m := checkCount "sorted" 1 1 _) (wpAny_pure ?_)
  refine wpAny_bind (collect_set (A := A.in1) h0 ⟨ob, e0, ex.1, ed⟩ f bs r l fun s1 vs k1 hz g1 o1 pm => ?_)
  have vl : vs.length = L.length := by rw [pm.length_eq, List.length_map, Array.length_toList, tx_size p]
  have mk : ∀ us : List Value, (∀ v ∈ us, ∃ x u, v = Value.str x u) → StrsAre us (us.map fun v => match v with | .str x _ => x | _ => Str.empty) := fun us => by
    induction us with
    | nil => intro _; exact .nil
    | cons v us ih =>
      intro hv
      obtain ⟨x, u, rfl⟩ := hv v List.mem_cons_self
      exact .cons x u (ih fun z m => hv z (List.mem_cons_of_mem _ m))
  have hS := mk vs fun v hv => by
    obtain ⟨e, he, z⟩ := List.mem_map.mp (pm.mem_iff.mp hv)
    obtain ⟨x, u, h1, _⟩ := g e he
    exact ⟨x, u, z ▸ h1⟩
  have pk := pm.map fun v : Value => match v with | .str x _ => x | _ => Str.empty
  rw [List.map_map] at pk
  refine wpAny_bind (wpAny_newList ?_ (by rw [vl, sizeLine_eq]; omega))
  have hoL : (s1.heap.push (seqObj "list" vs.toArray 0)).get? s1.heap.objs.size = some (seqObj "list" vs.toArray 0) := Heap.get?_push_size _ rfl
  refine wpAny_bind (wpAny_holding (wpAny_call_entry slot_list_sort ⟨_, hoL, rfl⟩ entry_list_sort
    (list_sort_treeK strKind_oneLt hoL hS.keysOf (fun v₁ v₂ rest e => keyKind_strs (by rw [← e]; exact hS)) (by rw [vl]; exact h64) fun st hp hs => ⟨_, rfl, ?_⟩)
    (args_list_sort _)))
  obtain ⟨ys, y1, y2, y3⟩ := sorted_out_str hS hp hs
  obtain ⟨c, hc⟩ := sortedHeap_at (vs := vs) (out := (arrOf st).map (·.2)) hoL
  refine wpAny_pure ⟨_, rfl, q _ s1.heap.objs.size _ c ys (fun b' u e => ?_) g1 o1 hz hc y1 ((y2.trans pk).trans p) y3⟩
  have e2 := k1 b' u e
  have lt := Heap.lt_size e2
  show (sortedHeap (s1.heap.push (seqObj "list" vs.toArray 0)) s1.heap.objs.size vs _).get? b' = some u
  rw [sortedHeap_old (Nat.ne_of_lt lt) (by rw [size_push']; exact Nat.lt_succ_of_lt lt)]
  exact Heap.get?_push_of_some _ e2
end
/-- the set of texts at a -/
def TxO (w : World) (a : Addr) (L : List Str) : HO := .ext fun h => TxS w h a L
def rSetT (K : PySem.W.Frag) (w : World) : List V → Hp → VK → Prop := fun xs H Q => ∃ (p : Addr) (ns : List Str), xs = [.ref p] ∧ SqL K H p (ns.map V.str) ∧ ns.length ≤ 1000 ∧
  ∀ a L, H a = none → L.length ≤ ns.length → (∀ x, x ∈ L ↔ x ∈ ns) → Q (.ref a) (upd H a (TxO w a L))
theorem cr_setT {X : Cx} (hc : X.calm = true) : CallR X (.type "set") (rSetT X.K X.w) := by
  intro pins s σ H xs us Q I r h
  obtain ⟨p, ns, rfl, hq, hl, q⟩ := h
  obtain ⟨u, rfl, rx⟩ := vals1 r
  cases rx
  obtain ⟨its, rv, pl, hz⟩ := I.list hq
  refine tx_of ns (I.ok.hd hc) pl.isList (by simpa using Vals.strs rv) (by unfold scanBound; omega) fun g tk L R le mm k => ?_
  have ob : ObjOk X.prog X.w (upd H s.heap.objs.size (TxO X.w s.heap.objs.size L)) g s.heap.objs.size (TxO X.w s.heap.objs.size L) := by
    have ⟨o, _, _, _, ho, _⟩ := R
    exact ⟨R, ⟨o, ho⟩, fun h1 h2 p k => TxS.to p k⟩
  exact ⟨.ref s.heap.objs.size, _, I.laid (t' := tk) k (Nat.le_refl _) ob, rfl, q _ L (I.hok.fresh (Nat.le_refl _)) le mm⟩
end Vf

namespace Vf
open PySem L2 PySem.Spec PyProof.Rows He
def rSortT (w : World) : List V → Hp → VK → Prop := fun vs H Q => ∃ (a : Addr) (L : List Str), vs = [V.ref a] ∧ H a = some (TxO w a L) ∧ L.length < 64 ∧
  ∀ (ys : List Str) (p : Addr), L.Nodup → ys.Perm L → PyProof.Rows.sortedS ys = true → H p = none → Q (.ref p) (upd H p (.lst (ys.map V.str)))
theorem cr_sortedT {X : Cx} (hc : X.calm = true) : CallR X (.builtin "sorted") (rSortT X.w) := by
  intro pins s σ H vs us Q I r h
  obtain ⟨a, L, rfl, ha, h64, q⟩ := h
  have R : TxS X.w s.heap a L := (I.hok a _ ha).1
  have nd : L.Nodup := let ⟨_, _, _, _, _, _, _, _, _, n, _⟩ := R; n
  rw [Vals.ref1 r]
  refine tx_sorted R (I.ok.hd hc) h64 fun s' p out c ys k g o hp hg hi hm hs => ?_
  have len : (ys.map V.str).length ≤ sizeLine := by rw [List.length_map, hm.length_eq, sizeLine_eq]; omega
  have hn : H p = none := I.hok.fresh hp
  have J : Inv X pins σ (upd H p (.lst (ys.map V.str))) { s with heap := s'.heap, gens := s'.gens, drawn := s'.drawn, toks := s'.toks } :=
    I.call (ch := []) (Un.laid k hp hn) (I.hok.laid k hp ⟨len, out.toList, c, vals_of_strs hi, hg⟩) (by rw [g]; exact I.bare) (fun _ z => nomatch z)
  have e : s' = { s with heap := s'.heap, gens := s'.gens, drawn := s'.drawn, toks := s'.toks } := by
    obtain ⟨_, _, _, _, _⟩ := s'
    obtain ⟨_, _, _, _, _⟩ := s
    cases o
    rfl
  rw [e]
  exact ⟨.ref p, _, J, rfl, q ys p nd hm hs hn⟩
/-- xs.remove(y): the first equal one goes -/
def rRemD (K : PySem.W.Frag) : V → List V → Hp → VK → Prop := fun x vs H Q => ∃ (l : Addr) (y : V) (xs : List V) (d : PyData) (ds : List PyData) (j : Nat) (z : PyData), x = .ref l ∧ vs = [y] ∧ H l = some (.lst xs) ∧ DpAll K H xs ds ∧ Dp K H y d ∧
  SeqAt.shaped (.list ds) = true ∧ SeqAt.shaped d = true ∧ ds[j]? = some z ∧ PyData.eqv z d = true ∧ (∀ (m : Nat) (z' : PyData), m < j → ds[m]? = some z' → PyData.eqv z' d = false) ∧ Q .non (upd H l (.lst (xs.eraseIdx j)))
theorem mt_removeD {X : Cx} (hu : X.A.units + 65 < cLine) : MtM X "list.remove" (rRemD X.K) := by
  intro pins s σ H x vs v us Q I rx rv h
  obtain ⟨l, y, xs, d, ds, j, z, rfl, rfl, hH, hds, hy, sl, sd, hz, hzj, hno, q⟩ := h
  cases rx
  obtain ⟨uy, rfl, ry⟩ := rv.one
  obtain ⟨bs, r1⟩ := Dp.reads I d y uy hy ry
  obtain ⟨zl, its, n, r, hl, e⟩ := I.lstM hH
  obtain ⟨as, r2⟩ := Dp.readsAll I ds xs its hds r
  have can : PyData.canLayAll0 ds = true := SeqAt.canLay_of_shaped sl
  have rm : X.A.units + 1 + min (PyData.depthAll ds) d.depth < cLine := room_in_shaped sd hu
  have n1 : its.length = ds.length := SeqAt.ReadsAll.length ds its as r2
  have mp : its.map (SeqAt.readOf s.heap) = ds := SeqAt.readsAll_map ds its as can r2
  have jd : j < ds.length := (List.getElem?_eq_some_iff.mp hz).1
  have hj : j < its.toArray.size := by rw [List.size_toArray]; omega
  have see : ∀ (m : Nat) (hm : m < its.toArray.size) (z' : PyData), ds[m]? = some z' → SeqAt.readOf s.heap its.toArray[m] = z' := fun m hm z' e1 => by
    have hm2 : m < its.length := by rw [List.size_toArray] at hm; exact hm
    rw [← mp, List.getElem?_map, List.getElem?_eq_getElem hm2] at e1
    simpa using Option.some.inj e1
  have sl9 := sizeLine_eq
  refine call_meets PySem.F.slot_list_remove ⟨_, e, rfl⟩ PySem.F.entry_list_remove (PySem.F.args_list_remove_2 _ _)
    (SeqAt.list_removeAt l its.toArray n _ _ uy (fun u => PyData.eqv (SeqAt.readOf s.heap u) d) j hj ?_ ?_ (by rw [List.size_toArray]; omega))
    ⟨e, SeqAt.items_eqAt (vs := its.toArray) (show ReadsAll s.heap its.toArray.toList ds as from r2) r1 can (SeqAt.canLay_of_shaped sd) rm, ?_⟩
  · show PyData.eqv (SeqAt.readOf s.heap its.toArray[j]) d = true
    rw [see j hj z hz]; exact hzj
  · intro m hm lt
    have md : m < ds.length := by omega
    show PyData.eqv (SeqAt.readOf s.heap its.toArray[m]) d = false
    rw [see m hm _ (List.getElem?_eq_getElem md)]
    exact hno m _ lt (List.getElem?_eq_getElem md)
  · refine ⟨.non, _, I.lset (its' := its.eraseIdx j) (t' := s.toks) hH e ?_ (r.eraseIdx j) ?_, rfl, q⟩
    · show its.toArray.eraseIdxIfInBounds j = (its.eraseIdx j).toArray
      rw [List.eraseIdxIfInBounds_toArray]
    · have := len_erase xs j
      omega
end Vf
namespace Vf
open PySem L2 PySem.Spec PyProof.Rows He
theorem ePK (K : PySem.W.Frag) {X : Cx} (hu : X.A.units + 64 < cLine) (hK : X.K = K := by rfl) : OpR X (compareOp .Eq) (rEqP K) := hK ▸ op_eqP hu
theorem nPK (K : PySem.W.Frag) {X : Cx} (hu : X.A.units + 64 < cLine) (hK : X.K = K := by rfl) : OpR X (compareOp .NotEq) (rNeP K) := hK ▸ op_neP hu
end Vf

/-! for k, (a, b) in enumerate(zip(s, t)): two tuples. The pairs are let go by nobody: the zip then knows of one that is out. -/
namespace Vf
open PySem L2 PySem.Spec PyProof.Rows He RZ
abbrev ZSt (h : Heap) (z TI TO : Addr) (own : Value) (f : Bool) : Prop := h.get? z = some { slots := #[], data := .fields #[own, .bool f, .bool false, .ref TI, .ref TO], dict := none, cls := .type "zip" }
def OwnOk (own : Value) : Prop := own = .none ∨ ∃ T : Addr, own = rawInt T
section
variable {P : Program} {w : World} {A : Around} {E : Value → Shared → Prop} {s : Shared} {z TI TO : Addr} {own : Value} {f : Bool}
theorem z_free (hz : ZSt s.heap z TI TO own f) (ho : OwnOk own) {Q : Bool → Shared → Prop} (q : ∀ (b : Bool) (g : Heap) (f' : Bool), ZSt g z TI TO own f' → Heap.SameBut z s.heap g → Q b { s with heap := g }) :
    wpAny (model P w) A (Builtin.SmallTypes.ownedTupleIsFree (.ref z)) Q E s := by
  unfold Builtin.SmallTypes.ownedTupleIsFree
  rcases ho with rfl | ⟨T, rfl⟩
  · exact wpAny_bind (wpAny_field hz rfl (x := .none) rfl (wpAny_pure (q true s.heap f hz (Heap.SameBut.refl _ _))))
  · refine wpAny_bind (wpAny_field hz rfl (x := rawInt T) rfl ?_)
    show wpAny _ _ (loadIfAlive ((T : Int).toNat) >>= _) _ _ _
    refine wpAny_bind ?_
    have al : ∀ {R : Option Obj → Shared → Prop}, R (s.heap.get? (T : Int).toNat) s → wpAny (model P w) A (loadIfAlive ((T : Int).toNat)) R E s := by
      intro R h
      exact fun _ _ _ => h
    refine al ?_
    cases hT : s.heap.get? (T : Int).toNat with
    | none => exact wpAny_pure (q true s.heap f hz (Heap.SameBut.refl _ _))
    | some o =>
      simp only [Option.isNone_some, Bool.false_eq_true, if_false]
      refine wpAny_bind (wpAny_field hz rfl (x := .bool f) rfl ?_)
      cases f with
      | true =>
        rw [if_neg (show ¬ ((Value.bool true != Value.bool true) = true) from Bool.false_ne_true)]
        exact wpAny_pure (q false s.heap true hz (Heap.SameBut.refl _ _))
      | false =>
        rw [if_pos (show (Value.bool false != Value.bool true) = true from rfl)]
        exact wpAny_bind (wpAny_setField_rec hz (by simp) fun g hg sg => wpAny_pure (q false g true hg sg))
/-- what is apart -/
theorem z_item {i1 i2 l1 l2 : Addr} {k : Nat} {xs ys : Array Value} {x y c d : Value} {Q : Value → Shared → Prop} (D : ZipApart z TI TO i1 i2 l1 l2) (hz : ZSt s.heap z TI TO own f) (ho : OwnOk own)
    (hI : IsPair s.heap TI (.ref i1) (.ref i2)) (hO : IsPair s.heap TO c d) (t1 : s.heap.IsTupleIter i1 l1 k) (t2 : s.heap.IsTupleIter i2 l2 k)
    (r1 : s.heap.IsTuple l1 xs) (r2 : s.heap.IsTuple l2 ys) (ex : xs[k]? = some x) (ey : ys[k]? = some y)
    (q : ∀ (g : Heap) (own' : Value) (f' : Bool) (c' d' : Value), ZSt g z TI TO own' f' → OwnOk own' → IsPair g TO c' d' → g.IsTupleIter i1 l1 (k + 1) → g.IsTupleIter i2 l2 (k + 1) → IsPair g s.heap.objs.size x y → g.objs.size = s.heap.objs.size + 1 →
      (∀ b o, b ≠ z → b ≠ TO → b ≠ i1 → b ≠ i2 → s.heap.get? b = some o → g.get? b = some o) → Q (.ref s.heap.objs.size) { s with heap := g }) :
    wpAny (model P w) A (Builtin.SmallTypes.nextOf (.ref z)) Q E s := by
  have ty : s.TypeIs (.ref z) "zip" := ⟨_, hz, rfl⟩
  unfold Builtin.SmallTypes.nextOf
  refine wpAny_bind (wpAny_callSpecial?_slot (name := Str.ofString "__next__") ty F.slot_zip_next (wpAny_call_entry F.slot_zip_next ty F.entry_zip_next ?_ (F.args_zip_next_1 _)))
  show wpAny _ _ (field (.ref z) 2 >>= _) _ _ _
  refine wpAny_bind (wpAny_field hz rfl (x := .bool false) rfl ?_)
  show wpAny _ _ (field (.ref z) 3 >>= _) _ _ _
  refine wpAny_bind (wpAny_field hz rfl (x := .ref TI) rfl ?_)
  refine wpAny_bind (wpAny_seqItems hI rfl ?_)
  show wpAny _ _ (Builtin.SmallTypes.ownedTupleIsFree (.ref z) >>= _) _ _ _
  refine wpAny_bind (z_free hz ho fun b g1 f1 z1 s1 => ?_)
  have t1a := t1.extBut s1.extBut D.i1z
  have t2a := t2.extBut s1.extBut D.i2z
  have r1a := r1.extBut s1.extBut D.l1z
  have r2a := r2.extBut s1.extBut D.l2z
  have oa : IsPair g1 TO c d := s1.extBut _ _ D.TOz hO
  cases b with
  | true =>
    simp only [if_true]
    refine wpAny_bind (wpAny_rule ?_)
    refine wpAny_bind (wpAny_field z1 rfl (x := .ref TO) rfl ?_)
    refine wpAny_bind (wpAny_setField_rec z1 (by simp) fun g2 z2 s2 => ?_)
    replace z2 : ZSt g2 z TI TO .ellipsis f1 := z2
    refine wpAny_bind ?_
    simp only [List.zipIdx_cons, List.zipIdx_nil, List.forIn_cons, List.forIn_nil]
    refine wpAny_bind (wpAny_bind (wpAny_onRaise ?_))
    show wpAny _ _ (Builtin.SmallTypes.nextOf (.ref i1) >>= _) _ _ _
    refine wpAny_bind (nextOf_tuple_item (t1a.extBut s2.extBut D.i1z) (r1a.extBut s2.extBut D.l1z) ex fun g3 t1b s3 => wpAny_pure ?_)
    have ob : IsPair g3 TO c d := s3.extBut _ _ D.TOi1 (s2.extBut _ _ D.TOz oa)
    refine wpAny_bind (wpAny_seqItems ob rfl ?_)
    refine wpAny_bind (wpAny_updateSeq_pair ob fun g4 oc s4 => ?_)
    replace oc : IsPair g4 TO x d := oc
    refine wpAny_bind (wpAny_letGo (wpAny_pure ?_))
    refine wpAny_bind (wpAny_bind (wpAny_onRaise ?_))
    show wpAny _ _ (Builtin.SmallTypes.nextOf (.ref i2) >>= _) _ _ _
    refine wpAny_bind (nextOf_tuple_item (((t2a.extBut s2.extBut D.i2z).extBut s3.extBut D.i12.symm).extBut s4.extBut D.TOi2.symm) (((r2a.extBut s2.extBut D.l2z).extBut s3.extBut D.l2i1).extBut s4.extBut D.l2TO) ey fun g5 t2b s5 => wpAny_pure ?_)
    have od : IsPair g5 TO x d := s5.extBut _ _ D.TOi2 oc
    refine wpAny_bind (wpAny_seqItems od rfl ?_)
    refine wpAny_bind (wpAny_updateSeq_pair od fun g6 oe s6 => ?_)
    replace oe : IsPair g6 TO x y := oe
    refine wpAny_bind (wpAny_letGo (wpAny_pure (wpAny_pure ?_)))
    refine wpAny_bind (wpAny_seqItems oe rfl ?_)
    refine wpAny_bind (wpAny_newTuple ?_)
    have size : g6.objs.size = s.heap.objs.size := by rw [s6.1, s5.1, s4.1, s3.1, s2.1, s1.1]
    have z6 : ZSt g6 z TI TO .ellipsis f1 := s6.extBut _ _ D.TOz.symm (s5.extBut _ _ D.i2z.symm (s4.extBut _ _ D.TOz.symm (s3.extBut _ _ D.i1z.symm z2)))
    have k6 : ∀ b o, b ≠ z → b ≠ TO → b ≠ i1 → b ≠ i2 → s.heap.get? b = some o → g6.get? b = some o := fun b o n1 n2 n3 n4 e => s6.extBut _ _ n2 (s5.extBut _ _ n4 (s4.extBut _ _ n2 (s3.extBut _ _ n3 (s2.extBut _ _ n1 (s1.extBut _ _ n1 e)))))
    have t16 : g6.IsTupleIter i1 l1 (k + 1) := ((t1b.extBut s4.extBut D.TOi1.symm).extBut s5.extBut D.i12).extBut s6.extBut D.TOi1.symm
    have t26 : g6.IsTupleIter i2 l2 (k + 1) := t2b.extBut s6.extBut D.TOi2.symm
    have zl : z < g6.objs.size := Heap.lt_size z6
    show wpAny _ _ (Builtin.SmallTypes.ownedTupleHandOut (.ref z) (.ref g6.objs.size) >>= _) _ _ _
    refine wpAny_bind ?_
    unfold Builtin.SmallTypes.ownedTupleHandOut
    have z7 : ZSt (g6.push { cls := .type "tuple", data := .seq #[x, y] }) z TI TO .ellipsis f1 := Heap.get?_push_of_some _ z6
    refine wpAny_bind (wpAny_setField_rec z7 (by simp) fun g8 z8 s8 => ?_)
    replace z8 : ZSt g8 z TI TO (rawInt g6.objs.size) f1 := z8
    refine wpAny_setField_rec z8 (by simp) fun g9 z9 s9 => ?_
    replace z9 : ZSt g9 z TI TO (rawInt g6.objs.size) false := z9
    have up : ∀ b o, b ≠ z → g6.get? b = some o → g9.get? b = some o := fun b o n e => s9.extBut _ _ n (s8.extBut _ _ n (Heap.get?_push_of_some _ e))
    have p9 : IsPair g9 g6.objs.size x y := s9.extBut _ _ (Nat.ne_of_gt zl) (s8.extBut _ _ (Nat.ne_of_gt zl) (Heap.get?_push_size _ rfl))
    have size9 : g9.objs.size = g6.objs.size + 1 := by rw [s9.1, s8.1, Heap.size_push]
    rw [size] at z9 p9 size9
    refine wpAny_pure ⟨_, rfl, wpAny_pure ?_⟩
    show Q (.ref g6.objs.size) _
    rw [size]
    exact q g9 _ _ _ _ z9 (.inr ⟨_, rfl⟩) (up _ _ D.TOz oe) (t16.at fun o e => up _ o D.i1z e) (t26.at fun o e => up _ o D.i2z e) p9 size9 fun b o n1 n2 n3 n4 e => up b o n1 (k6 b o n1 n2 n3 n4 e)
  | false =>
    simp only [Bool.false_eq_true, if_false]
    refine wpAny_bind ?_
    rw [← Array.forIn_toList]
    simp only [List.forIn_cons, List.forIn_nil]
    refine wpAny_bind (wpAny_bind (wpAny_holding ?_))
    show wpAny _ _ (Builtin.SmallTypes.nextOf (.ref i1) >>= _) _ _ _
    refine wpAny_bind (nextOf_tuple_item t1a r1a ex fun g3 t1b s3 => wpAny_pure ?_)
    refine wpAny_pure ?_
    refine wpAny_bind (wpAny_bind (wpAny_holding ?_))
    show wpAny _ _ (Builtin.SmallTypes.nextOf (.ref i2) >>= _) _ _ _
    refine wpAny_bind (nextOf_tuple_item (t2a.extBut s3.extBut D.i12.symm) (r2a.extBut s3.extBut D.l2i1) ey fun g5 t2b s5 => wpAny_pure ?_)
    refine wpAny_pure (wpAny_pure ?_)
    show wpAny _ _ (newTuple [x, y] >>= _) _ _ _
    refine wpAny_bind (wpAny_newTuple ?_)
    have size : g5.objs.size = s.heap.objs.size := by rw [s5.1, s3.1, s1.1]
    have z5 : ZSt g5 z TI TO own f1 := s5.extBut _ _ D.i2z.symm (s3.extBut _ _ D.i1z.symm z1)
    have o5 : IsPair g5 TO c d := s5.extBut _ _ D.TOi2 (s3.extBut _ _ D.TOi1 oa)
    have k5 : ∀ b o, b ≠ z → b ≠ i1 → b ≠ i2 → s.heap.get? b = some o → g5.get? b = some o := fun b o n1 n3 n4 e => s5.extBut _ _ n4 (s3.extBut _ _ n3 (s1.extBut _ _ n1 e))
    have t15 : g5.IsTupleIter i1 l1 (k + 1) := t1b.extBut s5.extBut D.i12
    have p9 : IsPair (g5.push { cls := .type "tuple", data := .seq #[x, y] }) g5.objs.size x y := Heap.get?_push_size _ rfl
    have size9 : (g5.push { cls := .type "tuple", data := .seq #[x, y] }).objs.size = g5.objs.size + 1 := Heap.size_push ..
    refine wpAny_pure ⟨_, rfl, wpAny_pure ?_⟩
    show Q (.ref g5.objs.size) _
    rw [size] at p9 size9 ⊢
    exact q _ _ _ _ _ (Heap.get?_push_of_some _ z5) ho (Heap.get?_push_of_some _ o5) (t15.at fun o e => Heap.get?_push_of_some _ e) (t2b.at fun o e => Heap.get?_push_of_some _ e) p9 size9 fun b o n1 _ n3 n4 e => Heap.get?_push_of_some _ (k5 b o n1 n3 n4 e)
/-- nothing is left -/
theorem z_end {i1 i2 l1 l2 : Addr} {k : Nat} {xs ys : Array Value} {c d : Value} {Q : Value → Shared → Prop} (h0 : A.handled = none) (D : ZipApart z TI TO i1 i2 l1 l2) (hz : ZSt s.heap z TI TO own f) (ho : OwnOk own)
    (hI : IsPair s.heap TI (.ref i1) (.ref i2)) (hO : IsPair s.heap TO c d) (t1 : s.heap.IsTupleIter i1 l1 k) (t2 : s.heap.IsTupleIter i2 l2 k)
    (r1 : s.heap.IsTuple l1 xs) (r2 : s.heap.IsTuple l2 ys) (ends : xs[k]? = none ∨ ys[k]? = none)
    (q : ∀ (g : Heap) (x : Addr), (∀ b o, b ≠ z → b ≠ TO → b ≠ i1 → b ≠ i2 → s.heap.get? b = some o → g.get? b = some o) → (∃ o, g.get? x = some o ∧ o.cls = .type "StopIteration") → E (.ref x) { s with heap := g }) :
    wpAny (model P w) A (Builtin.SmallTypes.nextOf (.ref z)) Q E s := by
  have ty : s.TypeIs (.ref z) "zip" := ⟨_, hz, rfl⟩
  unfold Builtin.SmallTypes.nextOf
  refine wpAny_bind (wpAny_callSpecial?_slot (name := Str.ofString "__next__") ty F.slot_zip_next (wpAny_call_entry F.slot_zip_next ty F.entry_zip_next ?_ (F.args_zip_next_1 _)))
  show wpAny _ _ (field (.ref z) 2 >>= _) _ _ _
  refine wpAny_bind (wpAny_field hz rfl (x := .bool false) rfl ?_)
  show wpAny _ _ (field (.ref z) 3 >>= _) _ _ _
  refine wpAny_bind (wpAny_field hz rfl (x := .ref TI) rfl ?_)
  refine wpAny_bind (wpAny_seqItems hI rfl ?_)
  show wpAny _ _ (Builtin.SmallTypes.ownedTupleIsFree (.ref z) >>= _) _ _ _
  refine wpAny_bind (z_free hz ho fun b g1 f1 z1 s1 => ?_)
  have t1a := t1.extBut s1.extBut D.i1z
  have t2a := t2.extBut s1.extBut D.i2z
  have r1a := r1.extBut s1.extBut D.l1z
  have r2a := r2.extBut s1.extBut D.l2z
  have oa : IsPair g1 TO c d := s1.extBut _ _ D.TOz hO
  cases b with
  | true =>
    simp only [if_true]
    refine wpAny_bind (wpAny_rule ?_)
    refine wpAny_bind (wpAny_field z1 rfl (x := .ref TO) rfl ?_)
    refine wpAny_bind (wpAny_setField_rec z1 (by simp) fun g2 z2 s2 => ?_)
    replace z2 : ZSt g2 z TI TO .ellipsis f1 := z2
    refine wpAny_bind ?_
    simp only [List.zipIdx_cons, List.zipIdx_nil, List.forIn_cons, List.forIn_nil]
    refine wpAny_bind (wpAny_bind (wpAny_onRaise ?_))
    show wpAny _ _ (Builtin.SmallTypes.nextOf (.ref i1) >>= _) _ _ _
    cases ex : xs[k]? with
    | none =>
      refine wpAny_bind (nextOf_tuple_end h0 (t1a.extBut s2.extBut D.i1z) (r1a.extBut s2.extBut D.l1z) ex fun g3 er s3 ⟨oe, e1, e2⟩ => ?_)
      have z3 : ZSt g3 z TI TO .ellipsis f1 := s3 _ _ D.i1z.symm z2
      have ne : er ≠ z := fun h => by subst h; rw [z3] at e1; cases e1; simp at e2
      refine wpAny_setField_rec z3 (by simp) fun g4 _ s4 => q g4 er (fun b o n1 n2 n3 n4 e => s4.extBut _ _ n1 (s3 _ _ n3 (s2.extBut _ _ n1 (s1.extBut _ _ n1 e)))) ⟨oe, s4.extBut _ _ ne e1, e2⟩
    | some x =>
      have ey : ys[k]? = none := ends.resolve_left (by rw [ex]; exact fun z => nomatch z)
      refine wpAny_bind (nextOf_tuple_item (t1a.extBut s2.extBut D.i1z) (r1a.extBut s2.extBut D.l1z) ex fun g3 t1b s3 => wpAny_pure ?_)
      have ob : IsPair g3 TO c d := s3.extBut _ _ D.TOi1 (s2.extBut _ _ D.TOz oa)
      refine wpAny_bind (wpAny_seqItems ob rfl ?_)
      refine wpAny_bind (wpAny_updateSeq_pair ob fun g4 oc s4 => ?_)
      refine wpAny_bind (wpAny_letGo (wpAny_pure ?_))
      refine wpAny_bind (wpAny_bind (wpAny_onRaise ?_))
      show wpAny _ _ (Builtin.SmallTypes.nextOf (.ref i2) >>= _) _ _ _
      refine wpAny_bind (nextOf_tuple_end h0 (((t2a.extBut s2.extBut D.i2z).extBut s3.extBut D.i12.symm).extBut s4.extBut D.TOi2.symm) (((r2a.extBut s2.extBut D.l2z).extBut s3.extBut D.l2i1).extBut s4.extBut D.l2TO) ey fun g5 er s5 ⟨oe, e1, e2⟩ => ?_)
      have z5 : ZSt g5 z TI TO .ellipsis f1 := s5 _ _ D.i2z.symm (s4.extBut _ _ D.TOz.symm (s3.extBut _ _ D.i1z.symm z2))
      have ne : er ≠ z := fun h => by subst h; rw [z5] at e1; cases e1; simp at e2
      refine wpAny_setField_rec z5 (by simp) fun g6 _ s6 => q g6 er (fun b o n1 n2 n3 n4 e => s6.extBut _ _ n1 (s5 _ _ n4 (s4.extBut _ _ n2 (s3.extBut _ _ n3 (s2.extBut _ _ n1 (s1.extBut _ _ n1 e)))))) ⟨oe, s6.extBut _ _ ne e1, e2⟩
  | false =>
    simp only [Bool.false_eq_true, if_false]
    refine wpAny_bind ?_
    rw [← Array.forIn_toList]
    simp only [List.forIn_cons, List.forIn_nil]
    refine wpAny_bind (wpAny_bind (wpAny_holding ?_))
    show wpAny _ _ (Builtin.SmallTypes.nextOf (.ref i1) >>= _) _ _ _
    cases ex : xs[k]? with
    | none =>
      exact wpAny_bind (nextOf_tuple_end h0 t1a r1a ex fun g3 er s3 he => q g3 er (fun b o n1 n2 n3 n4 e => s3 _ _ n3 (s1.extBut _ _ n1 e)) he)
    | some x =>
      have ey : ys[k]? = none := ends.resolve_left (by rw [ex]; exact fun z => nomatch z)
      refine wpAny_bind (nextOf_tuple_item t1a r1a ex fun g3 t1b s3 => wpAny_pure ?_)
      refine wpAny_pure ?_
      refine wpAny_bind (wpAny_bind (wpAny_holding ?_))
      show wpAny _ _ (Builtin.SmallTypes.nextOf (.ref i2) >>= _) _ _ _
      exact wpAny_bind (nextOf_tuple_end h0 (t2a.extBut s3.extBut D.i12.symm) (r2a.extBut s3.extBut D.l2i1) ey fun g5 er s5 he => q g5 er (fun b o n1 n2 n3 n4 e => s5 _ _ n4 (s3.extBut _ _ n3 (s1.extBut _ _ n1 e))) he)
/-- the next one told: its pair first, then the pair of its number and that -/
theorem ez_item {e i1 i2 l1 l2 : Addr} {k : Nat} {xs ys : Array Value} {x y c d prev : Value} {Q : Option Value → Shared → Prop} (D : ZipApart z TI TO i1 i2 l1 l2) (he : IsEnum s.heap e z (k : Int) prev) (hz : ZSt s.heap z TI TO own f) (ho : OwnOk own)
    (n1 : e ≠ z) (n2 : e ≠ TO) (n3 : e ≠ i1) (n4 : e ≠ i2) (n5 : e ≠ TI)
    (hI : IsPair s.heap TI (.ref i1) (.ref i2)) (hO : IsPair s.heap TO c d) (t1 : s.heap.IsTupleIter i1 l1 k) (t2 : s.heap.IsTupleIter i2 l2 k)
    (r1 : s.heap.IsTuple l1 xs) (r2 : s.heap.IsTuple l2 ys) (ex : xs[k]? = some x) (ey : ys[k]? = some y)
    (q : ∀ (g g' : Heap) (tk : Nat) (own' : Value) (f' : Bool) (c' d' v : Value), IsPair g s.heap.objs.size x y → g.objs.size = s.heap.objs.size + 1 → (∀ b o, b ≠ z → b ≠ TO → b ≠ i1 → b ≠ i2 → s.heap.get? b = some o → g.get? b = some o) →
      (∀ b o, b ≠ e → g.get? b = some o → g'.get? b = some o) → IsEnumOut g' e z ((k : Int) + 1) v (s.heap.objs.size + 1) → ZSt g' z TI TO own' f' → OwnOk own' → IsPair g' TO c' d' → g'.IsTupleIter i1 l1 (k + 1) → g'.IsTupleIter i2 l2 (k + 1) →
      (∃ tt, IsPair g' (s.heap.objs.size + 1) (.int k tt) (.ref s.heap.objs.size)) → Q (some (.ref (s.heap.objs.size + 1))) { s with heap := g', toks := tk }) :
    wpAny (model P w) A (pyNext (.ref e)) Q E s := by
  have ty : s.TypeIs (.ref e) "enumerate" := ⟨_, he, rfl⟩
  unfold pyNext
  refine wpAny_bind (wpAny_attempt (wpAny_callSpecial?_slot (name := Str.ofString "__next__") ty F.slot_enumerate_next (wpAny_call_entry F.slot_enumerate_next ty F.entry_enumerate_next ?_ (F.args_enumerate_next_1 _))))
  show wpAny (model P w) A.in1 (field (.ref e) 2 >>= _) _ _ s
  refine wpAny_bind (wpAny_field he rfl (x := .ref z) rfl ?_)
  refine wpAny_bind (z_item D hz ho hI hO t1 t2 r1 r2 ex ey fun g own' f' c' d' z' oo po a1 a2 pn size keep => ?_)
  obtain ⟨hp, gs, dr, tk, os⟩ := s
  dsimp only at he pn size keep q ⊢
  have e1 : IsEnum g e z (k : Int) prev := keep e _ n1 n2 n3 n4 he
  have el : e < hp.objs.size := Heap.lt_size he
  show wpAny _ _ (field (.ref e) 3 >>= _) _ _ ⟨g, gs, dr, tk, os⟩
  refine wpAny_bind (wpAny_field e1 rfl (x := rawInt k) rfl ?_)
  show wpAny _ _ (field (.ref e) 4 >>= _) _ _ ⟨g, gs, dr, tk, os⟩
  refine wpAny_bind (wpAny_field e1 rfl (x := .none) rfl ?_)
  show wpAny _ _ (mkInt k >>= _) _ _ ⟨g, gs, dr, tk, os⟩
  refine wpAny_bind (wpAny_mkInt ?_)
  show wpAny _ _ (setField (.ref e) 3 (rawInt ((k : Int) + 1)) >>= _) _ _ ⟨g, gs, dr, tk + 1, os⟩
  refine wpAny_bind (wpAny_setField_rec e1 (by simp) fun g2 e2 s2 => ?_)
  replace s2 : Heap.SameBut e g g2 := s2
  replace e2 : IsEnum g2 e z ((k : Int) + 1) prev := e2
  show wpAny _ _ (setField (.ref e) 4 .none >>= _) _ _ ⟨g2, gs, dr, tk + 1, os⟩
  refine wpAny_bind (wpAny_setField_rec e2 (by simp) fun g3 e3 s3 => ?_)
  replace s3 : Heap.SameBut e g2 g3 := s3
  replace e3 : IsEnum g3 e z ((k : Int) + 1) prev := e3
  show wpAny _ _ (newTuple [.int k tk, .ref hp.objs.size] >>= _) _ _ ⟨g3, gs, dr, tk + 1, os⟩
  refine wpAny_bind (wpAny_newTuple ?_)
  have size3 : g3.objs.size = hp.objs.size + 1 := by rw [s3.1, s2.1, size]
  have e4 : IsEnum (g3.push { cls := .type "tuple", data := .seq #[.int k tk, .ref hp.objs.size] }) e z ((k : Int) + 1) prev := Heap.get?_push_of_some _ e3
  have p4 : IsPair (g3.push { cls := .type "tuple", data := .seq #[.int k tk, .ref hp.objs.size] }) (hp.objs.size + 1) (.int k tk) (.ref hp.objs.size) := by rw [← size3]; exact Heap.get?_push_size _ rfl
  have k4 : ∀ b o, b ≠ e → g.get? b = some o → (g3.push { cls := .type "tuple", data := .seq #[.int k tk, .ref hp.objs.size] }).get? b = some o := fun b o n h => Heap.get?_push_of_some _ (s3.extBut b o n (s2.extBut b o n h))
  generalize g3.push { cls := .type "tuple", data := .seq #[.int k tk, .ref hp.objs.size] } = g4 at e4 p4 k4
  show wpAny _ _ (Builtin.SmallTypes.ownedTupleIsFree (.ref e) >>= _) _ _ ⟨g4, gs, dr, tk + 1, os⟩
  rw [size3]
  refine wpAny_bind ?_
  unfold Builtin.SmallTypes.ownedTupleIsFree
  refine wpAny_bind (wpAny_field e4 rfl (x := .none) rfl (wpAny_pure ?_))
  simp only [if_true]
  refine wpAny_bind (wpAny_rule ?_)
  refine wpAny_bind (wpAny_field e4 rfl (x := prev) rfl ?_)
  refine wpAny_bind (wpAny_setField_rec e4 (by simp) fun g5 e5 s5 => ?_)
  replace s5 : Heap.SameBut e g4 g5 := s5
  replace e5 : IsEnum g5 e z ((k : Int) + 1) (.ref hp.objs.size) := e5
  show wpAny _ _ (Builtin.SmallTypes.ownedTupleHandOut (.ref e) (.ref (hp.objs.size + 1)) >>= _) _ _ ⟨g5, gs, dr, tk + 1, os⟩
  refine wpAny_bind ?_
  unfold Builtin.SmallTypes.ownedTupleHandOut
  refine wpAny_bind (wpAny_setField_rec e5 (by simp) fun g6 e6 s6 => ?_)
  replace s6 : Heap.SameBut e g5 g6 := s6
  replace e6 : IsEnumOut g6 e z ((k : Int) + 1) (.ref hp.objs.size) (hp.objs.size + 1) := e6
  refine wpAny_setField_rec e6 (by simp) fun g7 e7 s7 => ?_
  replace s7 : Heap.SameBut e g6 g7 := s7
  replace e7 : IsEnumOut g7 e z ((k : Int) + 1) (.ref hp.objs.size) (hp.objs.size + 1) := e7
  have k7 : ∀ b o, b ≠ e → g4.get? b = some o → g7.get? b = some o := fun b o n h => s7.extBut b o n (s6.extBut b o n (s5.extBut b o n h))
  have up : ∀ b o, b ≠ e → g.get? b = some o → g7.get? b = some o := fun b o n h => k7 b o n (k4 b o n h)
  refine wpAny_bind (wpAny_letGo (wpAny_pure ⟨_, rfl, wpAny_pure (q g g7 (tk + 1) own' f' c' d' _ pn size keep up e7 (up _ _ (Ne.symm n1) z') oo (up _ _ (Ne.symm n2) po) (a1.at fun o h => up _ o (Ne.symm n3) h) (a2.at fun o h => up _ o (Ne.symm n4) h) ⟨tk, k7 _ _ ?_ p4⟩)⟩))
  exact Nat.ne_of_gt (Nat.lt_succ_of_lt el)
theorem ez_end {e i1 i2 l1 l2 : Addr} {k : Nat} {xs ys : Array Value} {c d prev : Value} {Q : Option Value → Shared → Prop} (h0 : A.handled = none) (D : ZipApart z TI TO i1 i2 l1 l2) (he : IsEnum s.heap e z (k : Int) prev) (hz : ZSt s.heap z TI TO own f) (ho : OwnOk own)
    (hI : IsPair s.heap TI (.ref i1) (.ref i2)) (hO : IsPair s.heap TO c d) (t1 : s.heap.IsTupleIter i1 l1 k) (t2 : s.heap.IsTupleIter i2 l2 k)
    (r1 : s.heap.IsTuple l1 xs) (r2 : s.heap.IsTuple l2 ys) (ends : xs[k]? = none ∨ ys[k]? = none)
    (q : ∀ g : Heap, (∀ b o, b ≠ z → b ≠ TO → b ≠ i1 → b ≠ i2 → s.heap.get? b = some o → g.get? b = some o) → Q none { s with heap := g }) :
    wpAny (model P w) A (pyNext (.ref e)) Q E s := by
  have ty : s.TypeIs (.ref e) "enumerate" := ⟨_, he, rfl⟩
  unfold pyNext
  refine wpAny_bind (wpAny_attempt (wpAny_callSpecial?_slot (name := Str.ofString "__next__") ty F.slot_enumerate_next (wpAny_call_entry F.slot_enumerate_next ty F.entry_enumerate_next ?_ (F.args_enumerate_next_1 _))))
  show wpAny (model P w) A.in1 (field (.ref e) 2 >>= _) _ _ s
  refine wpAny_bind (wpAny_field he rfl (x := .ref z) rfl ?_)
  refine wpAny_bind (z_end (by simp [h0]) D hz ho hI hO t1 t2 r1 r2 ends fun g x keep ⟨oe, e1, e2⟩ => ?_)
  refine wpAny_bind (wpAny_isInstance (T := "StopIteration") (b := true) ⟨oe, e1, e2⟩ isSubtype_stop ?_)
  exact wpAny_pure (q g keep)
end
end Vf

namespace PySem
theorem meets_enumerate_zip (z TI TO : Addr) (f0 : Value) :
    Meets (Builtin.«enumerate.__new__» ⟨[.type "enumerate", .ref z], []⟩) (fun _ R s => IsZip s.heap z TI TO f0 ∧
      R (.ok (.ret (.ref s.heap.objs.size))) { s with heap := s.heap.push { data := .fields #[.none, .bool false, .ref z, rawInt 0, .none, .none], cls := .type "enumerate" } }) :=
  .of_wp fun prg w A R s h => by
    obtain ⟨hp, g, d, tk, os⟩ := s; obtain ⟨hz, h⟩ := h
    have hsub := sub_enumerate
    have zz : IsZip (Shared.heap ⟨hp, g, d, tk, os⟩) z TI TO f0 := hz
    have q1 : ∀ {A' : Around} {E : Value → Shared → Prop} {Q : Value → Shared → Prop}, Q (.ref z) ⟨hp, g, d, tk, os⟩ → wpAny (model prg w) A' (pyIter (.ref z)) Q E ⟨hp, g, d, tk, os⟩ := fun q => wpAny_pyIter_zip zz q
    wp_walk using q1
    refine wpAny_stack_any fun here => wpAny_pure ?_
    split
    · rename_i cls9 _ _ _ _ _
      cases (cls9 == Value.type "enumerate")
      · wp_walk using q1
        exact ⟨_, rfl, h⟩
      · wp_walk using q1
        exact ⟨_, rfl, h⟩
    · wp_walk using q1
      exact ⟨_, rfl, h⟩
theorem call_enumerate_zip {prg : Program} {w : World} {A : Around} {E : Value → Shared → Prop} {s : Shared} {z TI TO : Addr} {f0 : Value} {Q : Value → Shared → Prop} (hz : IsZip s.heap z TI TO f0)
    (h : ∀ g, IsEnum g s.heap.objs.size z 0 .none → (∀ b o, s.heap.get? b = some o → g.get? b = some o) → Q (.ref s.heap.objs.size) { s with heap := g }) :
    wpAny (model prg w) A (call (.type "enumerate") [.ref z]) Q E s := by
  refine callType_new F.called_enumerate (by decide) (F.typeCall_enumerate_1 _) (F.newCall_enumerate_1 _) (fun it => F.args_object_init_2 it _) F.entry_enumerate_new (meets_enumerate_zip z TI TO f0) ⟨hz, ?_⟩
  have qe : IsEnum (s.heap.push { data := .fields #[.none, .bool false, .ref z, rawInt 0, .none, .none], cls := .type "enumerate" }) s.heap.objs.size z 0 .none := Heap.get?_push_size _ rfl
  exact ⟨⟨_, qe, rfl⟩, h _ qe fun b o e => Heap.get?_push_of_some _ e⟩
end PySem
namespace Vf
open PySem L2 PySem.Spec PyProof.Rows He RZ
/-- enumerate(zip(s, t)), s and t tuples -/
def IteZ (K : PySem.W.Frag) (a b : Addr) : It :=
  ⟨fun i H => ∃ (xs ys : List V) (x y : V), SqT K H a xs ∧ SqT K H b ys ∧ xs[i]? = some x ∧ ys[i]? = some y,
   fun i H v H' => ∃ Pp T x y, v = .ref T ∧ H Pp = none ∧ upd H Pp (.tup [x, y]) T = none ∧ H' = upd (upd H Pp (.tup [x, y])) T (.tup [.int (i : Nat), .ref Pp]) ∧ (∀ xs, SqT K H a xs → xs[i]? = some x) ∧ ∀ ys, SqT K H b ys → ys[i]? = some y,
   fun i H => ∃ xs ys : List V, SqT K H a xs ∧ SqT K H b ys ∧ (xs.length ≤ i ∨ ys.length ≤ i)⟩
structure EzAt (a b e z TI TO i1 i2 : Addr) (i : Nat) (h : Heap) : Prop where
  e : ∃ prev, IsEnum h e z (i : Int) prev
  z : ∃ own f, ZSt h z TI TO own f ∧ OwnOk own
  p : IsPair h TI (.ref i1) (.ref i2)
  o : ∃ c d, IsPair h TO c d
  t1 : h.IsTupleIter i1 a i
  t2 : h.IsTupleIter i2 b i
theorem turn_enumZ {P : Program} {w : World} {K : PySem.W.Frag} {elts : List Expr} {kk : Nat} {tpos : Pos} {a b e z TI TO i1 i2 : Addr} (D : ZipApart z TI TO i1 i2 a b) (n1 : e ≠ z) (n2 : e ≠ TO) (n3 : e ≠ i1) (n4 : e ≠ i2) (n5 : e ≠ TI) :
    Turn P w K (.Tuple elts kk tpos) (IteZ K a b) [e, z, TI, TO, i1, i2] e (EzAt a b e z TI TO i1 i2) where
  mem := by simp
  obj := fun i h here c hc => by
    obtain ⟨⟨prev, he⟩, ⟨own, f, hz, _⟩, hp, ⟨c', d', ho⟩, ⟨o1, e1, _, d1⟩, ⟨o2, e2, _, d2⟩⟩ := here
    have e' : c = e ∨ c = z ∨ c = TI ∨ c = TO ∨ c = i1 ∨ c = i2 := by simpa using hc
    rcases e' with q | q | q | q | q | q
    · rw [q]; exact ⟨_, he, fun v q => nomatch q⟩
    · rw [q]; exact ⟨_, hz, fun v q => nomatch q⟩
    · rw [q]; exact ⟨_, hp, fun v q => nomatch q⟩
    · rw [q]; exact ⟨_, ho, fun v q => nomatch q⟩
    · rw [q]; exact ⟨o1, e1, fun v q => by rw [d1] at q; cases q⟩
    · rw [q]; exact ⟨o2, e2, fun v q => by rw [d2] at q; cases q⟩
  keep := fun i h h' here k => by
    obtain ⟨⟨prev, he⟩, ⟨own, f, hz, oo⟩, hp, ⟨c', d', ho⟩, h1, h2⟩ := here
    exact ⟨⟨prev, k e (by simp) _ he⟩, ⟨own, f, k z (by simp) _ hz, oo⟩, k TI (by simp) _ hp, ⟨c', d', k TO (by simp) _ ho⟩, h1.at fun o q => k i1 (by simp) o q, h2.at fun o q => k i2 (by simp) o q⟩
  item := by
    intro X hP hw hK wc i pins s σ H E I fp here got
    subst hP hw hK
    obtain ⟨⟨prev, he⟩, ⟨own, f, hz, oo⟩, hp, ⟨c', d', ho⟩, h1, h2⟩ := here
    obtain ⟨xs, ys, x, y, qx, qy, hx, hy⟩ := got
    obtain ⟨its, rv, p1, _⟩ := I.tuple qx
    obtain ⟨its2, rv2, p2, _⟩ := I.tuple qy
    obtain ⟨u, hu, ru⟩ := rv.get hx
    obtain ⟨u2, hu2, ru2⟩ := rv2.get hy
    have el : e < s.heap.objs.size := Heap.lt_size he
    have small : ∀ c ∈ [e, z, TI, TO, i1, i2], c < s.heap.objs.size := fun c hc => by
      have e' : c = e ∨ c = z ∨ c = TI ∨ c = TO ∨ c = i1 ∨ c = i2 := by simpa using hc
      rcases e' with q | q | q | q | q | q
      · rw [q]; exact el
      · rw [q]; exact Heap.lt_size hz
      · rw [q]; exact Heap.lt_size hp
      · rw [q]; exact Heap.lt_size ho
      · rw [q]; obtain ⟨_, e1, _⟩ := h1; exact Heap.lt_size e1
      · rw [q]; obtain ⟨_, e2, _⟩ := h2; exact Heap.lt_size e2
    refine ez_item D he hz oo n1 n2 n3 n4 n5 hp ho h1 h2 p1 p2 (x := u) (y := u2) (by simpa using hu) (by simpa using hu2) fun g g' tk own' f' c2 d2 v pn size keep up en z' oo' po a1 a2 ⟨tt, pT⟩ => ?_
    refine ⟨_, rfl, wpAny_letOwnedTupleGo_enum (s := { s with heap := g', toks := tk }) en fun g2 e2 only => ?_⟩
    have up2 : ∀ c o, c ≠ e → g'.get? c = some o → g2.get? c = some o := fun c o n h => (only.2 c n).trans h
    have I1 : Inv X pins σ (upd H s.heap.objs.size (.tup [x, y])) { s with heap := g, toks := s.toks } :=
      I.turnedNew (ch := [e, z, TI, TO, i1, i2]) (fun c o hb q => keep c o (fun q' => hb (by simp [q'])) (fun q' => hb (by simp [q'])) (fun q' => hb (by simp [q'])) (fun q' => hb (by simp [q'])) q) fp (Nat.le_refl _)
        ⟨by show 2 ≤ sizeLine; decide, [u, u2], .cons ru (.cons ru2 .nil), ⟨_, pn, rfl, _, rfl⟩⟩
    have fp1 : ∀ c ∈ [e, z, TI, TO, i1, i2], FpOk X pins (upd H s.heap.objs.size (.tup [x, y])) c := fun c hc => ⟨by rw [upd_ne (Nat.ne_of_lt (small c hc))]; exact (fp c hc).1, (fp c hc).2⟩
    have hT : upd H s.heap.objs.size (.tup [x, y]) (s.heap.objs.size + 1) = none := I1.hok.fresh (by show g.objs.size ≤ _; rw [size]; exact Nat.le_refl _)
    have pT2 : IsPair g2 (s.heap.objs.size + 1) (.int i tt) (.ref s.heap.objs.size) := up2 _ _ (Nat.ne_of_gt (Nat.lt_succ_of_lt el)) pT
    have I2 : Inv X pins σ (upd (upd H s.heap.objs.size (.tup [x, y])) (s.heap.objs.size + 1) (.tup [.int (i : Nat), .ref s.heap.objs.size])) { s with heap := g2, toks := tk } :=
      I1.turnedNew (t' := tk) (ch := [e]) (fun c o hb q => up2 c o (fun q' => hb (by simp [q'])) (up c o (fun q' => hb (by simp [q'])) q)) (fun c hc => fp1 c (by rw [List.mem_singleton.mp hc]; simp)) (by show g.objs.size ≤ _; rw [size]; exact Nat.le_refl _)
        ⟨by show 2 ≤ sizeLine; decide, [.int i tt, .ref s.heap.objs.size], .cons ⟨_, rfl⟩ (.cons rfl .nil), ⟨_, pT2, rfl, _, rfl⟩⟩
    refine ⟨.ref (s.heap.objs.size + 1), _, I2, rfl, ⟨s.heap.objs.size, _, x, y, rfl, I.hok.fresh (Nat.le_refl _), hT, rfl, fun l hl => by rw [I.tuple_inj hl qx]; exact hx, fun l hl => by rw [I.tuple_inj hl qy]; exact hy⟩, ⟨⟨v, ?_⟩, ⟨own', f', up2 _ _ (Ne.symm n1) z', oo'⟩, up2 _ _ (Ne.symm n5) (up _ _ (Ne.symm n5) (keep _ _ D.TIz D.TITO D.TIi1 D.TIi2 hp)), ⟨c2, d2, up2 _ _ (Ne.symm n2) po⟩, a1.at fun o q => up2 _ o (Ne.symm n3) q, a2.at fun o q => up2 _ o (Ne.symm n4) q⟩, fun c hc => ?_⟩
    · have up1 : ((i + 1 : Nat) : Int) = (i : Int) + 1 := by omega
      rw [up1]; exact e2
    · have lt := small c hc
      rw [upd_ne (Nat.ne_of_lt (Nat.lt_succ_of_lt lt)), upd_ne (Nat.ne_of_lt lt)]
      exact (fp c hc).1
  done := by
    intro X hP hw hK wc i pins s σ H E I fp here got
    subst hP hw hK
    obtain ⟨⟨prev, he⟩, ⟨own, f, hz, oo⟩, hp, ⟨c', d', ho⟩, h1, h2⟩ := here
    obtain ⟨xs, ys, qx, qy, ends⟩ := got
    obtain ⟨its, rv, p1, _⟩ := I.tuple qx
    obtain ⟨its2, rv2, p2, _⟩ := I.tuple qy
    have l1 := rv.length
    have l2 := rv2.length
    have en : its.toArray[i]? = none ∨ its2.toArray[i]? = none := by
      rcases ends with q | q
      · exact .inl (by simp; omega)
      · exact .inr (by simp; omega)
    exact ez_end (I.ok.hd wc) D he hz oo hp ho h1 h2 p1 p2 en fun g keep => ⟨rfl, I.turnedL (t' := s.toks) (ch := [e, z, TI, TO, i1, i2]) (fun c o hb q =>
      keep c o (fun q' => hb (by simp [q'])) (fun q' => hb (by simp [q'])) (fun q' => hb (by simp [q'])) (fun q' => hb (by simp [q'])) q) fp⟩
  self := fun A i s Q E here h => let ⟨_, he⟩ := here.e; wpAny_pyIter_enum he h
def iEnumZ (K : PySem.W.Frag) (ta : TA) : TI := fun σ H R => ta σ H fun vs H1 => ∃ a b xs ys, vs = [.ref a, .ref b] ∧ SqT K H1 a xs ∧ SqT K H1 b ys ∧ R (IteZ K a b) H1
theorem pi_enumZ {X : Cx} {e e2 : Expr} {ta : TA} {p p2 pos pos2 tpos : Pos} {elts : List Expr} {kk : Nat} (g1 : Gl X "enumerate") (m1 : X.mg "enumerate" = none) (g2 : Gl X "zip") (m2 : X.mg "zip" = none) (ha : PA X [e, e2] ta)
    (hs : starEach [e, e2] X.env = (false, eval e X.env) :: starEach [e2] X.env := by rfl) (hpl : (backTo pos2 (starEach [e2] X.env)).any (·.1) = false := by rfl)
    (hs1 : starEach [Expr.Call (.Name "zip" p2) [e, e2] [] pos2] X.env = [(false, eval (.Call (.Name "zip" p2) [e, e2] [] pos2) X.env)] := by rfl) :
    PI X (.Tuple elts kk tpos) (.Call (.Name "enumerate" p) [.Call (.Name "zip" p2) [e, e2] [] pos2] [] pos) (iEnumZ X.K ta) := by
  refine ⟨fun pins s σ H R I h => ?_⟩
  refine Call_ (ld_blt I g1 m1 boot_enumerate (PyProof.Rows.callWith_type1 ?_ hs1 rfl))
  rw [hs1]
  show wpAny _ _ (spliced [(false, eval (.Call (.Name "zip" p2) [e, e2] [] pos2) X.env)]) _ _ s
  refine Calls.spliced_cons ?_
  refine Call_ (ld_blt I g2 m2 PyProof.Rows.boot_zip (PyProof.Rows.callWith_type1 (thn (ha.run pos2 pins s σ H _ I h) fun us s1 ⟨vs, H1, I1, r1, q1⟩ => ?_) hs hpl))
  obtain ⟨a, b, xs, ys, ex, qx, qy, q⟩ := q1
  subst ex
  cases r1 with
  | cons r rr =>
    cases rr with
    | cons r' rr =>
      cases rr
      cases r
      cases r'
      obtain ⟨its, rv, p1, _⟩ := I1.tuple qx
      obtain ⟨its2, rv2, p2', _⟩ := I1.tuple qy
      obtain ⟨o1, ho1, _⟩ := id p1
      obtain ⟨o2, ho2, _⟩ := id p2'
      refine call_zipT (show s1.heap.IsTuple a its.toArray from p1) (show s1.heap.IsTuple b its2.toArray from p2') fun g hz hTI hTO t1 t2 hsz hk => ?_
      refine Calls.spliced_nil ?_
      refine call_enumerate_zip (s := { s1 with heap := g }) hz fun g2 he hk2 => wpAny_pyIter_enum he ?_
      have I2 : Inv X pins σ H1 { s1 with heap := g2 } := I1.kept (t' := s1.toks) fun c o q => hk2 c o (hk c o q)
      have above : ∀ c, s1.heap.objs.size ≤ c → FpOk X pins H1 c := fun c hle => I1.fpOk hle (I1.hok.fresh hle)
      dsimp only at he hk2
      rw [hsz] at he ⊢
      refine ⟨s1.heap.objs.size + 5, [s1.heap.objs.size + 5, s1.heap.objs.size + 4, s1.heap.objs.size + 2, s1.heap.objs.size + 3, s1.heap.objs.size, s1.heap.objs.size + 1], _, _, H1, rfl, I2,
        turn_enumZ (PySem.W.ktu_apart s1.heap.objs.size a b (Heap.lt_size ho1) (Heap.lt_size ho2)) (by intro z; exact absurd (Nat.add_left_cancel z) (by decide)) (by intro z; exact absurd (Nat.add_left_cancel z) (by decide)) (Nat.ne_of_gt (Nat.lt_add_of_pos_right (by decide))) (by intro z; exact absurd (Nat.add_left_cancel z) (by decide)) (by intro z; exact absurd (Nat.add_left_cancel z) (by decide)),
        ⟨⟨.none, he⟩, ⟨.none, false, hk2 _ _ hz, .inl rfl⟩, hk2 _ _ hTI, ⟨_, _, hk2 _ _ hTO⟩, t1.at fun o q => hk2 _ o q, t2.at fun o q => hk2 _ o q⟩, fun c hc => ?_, q⟩
      have e' : c = s1.heap.objs.size + 5 ∨ c = s1.heap.objs.size + 4 ∨ c = s1.heap.objs.size + 2 ∨ c = s1.heap.objs.size + 3 ∨ c = s1.heap.objs.size ∨ c = s1.heap.objs.size + 1 := by simpa using hc
      rcases e' with z | z | z | z | z | z <;> rw [z] <;> exact above _ (by first | exact Nat.le_add_right _ _ | exact Nat.le_refl _)
/-- the turns of such a loop -/
theorem for_enumZ {K : PySem.W.Frag} {a b : Addr} {xs ys : List V} {g : TG} {tb : TS} {D : Ends} {σ : L2.St} {H : Hp} (hl : xs.length = ys.length) (Pv : Nat → L2.St → Hp → Prop) (h0 : Pv 0 σ H) (hq : ∀ i σ H, Pv i σ H → SqT K H a xs ∧ SqT K H b ys)
    (hs : ∀ (i : Nat) (x y : V) (Pp T : Addr) (σ : L2.St) (H : Hp), xs[i]? = some x → ys[i]? = some y → Pv i σ H → H Pp = none → upd H Pp (.tup [x, y]) T = none →
      g (.ref T) σ (upd (upd H Pp (.tup [x, y])) T (.tup [.int (i : Nat), .ref Pp])) fun σ2 H2 => tb { D with nx := Pv (i + 1), ct := Pv (i + 1), bk := D.nx } σ2 H2)
    (hd : ∀ σ H, Pv xs.length σ H → D.nx σ H) : ForB (IteZ K a b) g tb D σ H := by
  refine ⟨fun i m σ H => m = xs.length - i ∧ i ≤ xs.length ∧ Pv i σ H, ⟨xs.length, rfl, Nat.zero_le _, h0⟩, ?_⟩
  rintro i m σ H ⟨rfl, hi, p⟩
  obtain ⟨qx, qy⟩ := hq i σ H p
  by_cases lt : i < xs.length
  · have hx : xs[i]? = some xs[i] := List.getElem?_eq_getElem lt
    have hy : ys[i]? = some (ys[i]'(by omega)) := List.getElem?_eq_getElem (by omega)
    refine .inr ⟨⟨xs, ys, _, _, qx, qy, hx, hy⟩, Pv (i + 1), fun σ' H' p' => ⟨xs.length - (i + 1), by omega, rfl, lt, p'⟩, fun v H' y => ?_⟩
    obtain ⟨Pp, T, x', y', rfl, hP, hT, rfl, f1, f2⟩ := y
    exact hs i x' y' Pp T σ H (f1 xs qx) (f2 ys qy) p hP hT
  · have e : i = xs.length := by omega
    subst e
    exact .inl ⟨⟨xs, ys, qx, qy, .inl (Nat.le_refl _)⟩, hd σ H p⟩
end Vf

namespace Vf
open PySem L2 PySem.Spec PyProof.Rows He RZ
/-! max(xs): xs a list of references to data of one form -/
structure MdK (K : PySem.W.Frag) (H : Hp) (a : Addr) (ps : List Addr) (kd : Nat → PyData) : Prop where
  lst : SqL K H a (ps.map V.ref)
  dp : ∀ i p, ps[i]? = some p → Dp K H (.ref p) (kd i)
  alk : ∀ i j, i < ps.length → j < ps.length → PySem.W.alike (kd i) (kd j) = true
  nn : ∀ i, i < ps.length → kd i ≠ .none
  dep : ∀ i, i < ps.length → (kd i).depth ≤ 60
section
variable {X : Cx} {a : Addr} {pins : List (Addr × Obj)} {σ : L2.St} {ps : List Addr} {kd : Nat → PyData} {H : Hp} {S it : Addr} {R : Result → Shared → Prop}
theorem md_loop (hc : X.calm = true) (hu : X.A.units + 64 < cLine) (M : MdK X.K H a ps kd) (fS : FpOk X pins H S) (fI : FpOk X pins H it) (ne : S ≠ it) :
    ∀ (m j : Nat) (s : Shared) (p : Addr) (c : Nat), ps.length - (j + 1) = m → j + 1 ≤ ps.length → Inv X pins σ H s → ps[argBest (mxB kd) j]? = some p → s.heap.get? S = some (mxS (.ref p) (.ref p) c) → s.heap.IsListIter it a (j + 1) →
    (∀ (s' : Shared) (p : Addr), Inv X pins σ H s' → ps[argBest (mxB kd) (ps.length - 1)]? = some p → R (.ok (.ret (.ref p))) s') → codeAny (model X.prog X.w) X.A (.builtin "max.loop" ⟨[.ref it, .none, .ref S], []⟩) R s := by
  have hname : (toString "max" ++ toString ".loop" : String) = "max.loop" := by decide
  intro m
  induction m with
  | zero =>
    intro j s p c hm hj I hp hS st hR
    obtain ⟨its, rv, pl, hz⟩ := I.list M.lst
    have hl := rv.length
    rw [List.length_map] at hl
    refine codeAny_builtin PySem.F.entry_max_loop ?_
    rw [Around.under_plainId PySem.F.plain_max_loop _]
    show wpAny _ X.A.in1 (seqItems? (.ref S) >>= _) _ _ s
    refine wpAny_bind (wpAny_seqItems hS rfl ?_)
    refine wpAny_bind (wpAny_tryCatch ?_)
    refine wpAny_pyNext_list_end (I.ok.hd hc) st pl.isList (by simp; omega) fun h' eb => ?_
    have I1 : Inv X pins σ H { s with heap := h' } := I.turned (t' := s.toks) (fun b o hb e => eb b o hb e) fI.1 fI.2.1 fI.2.2.2.1 fI.2.2.2.2.1 fI.2.2.2.2.2
    have hS' : ({ s with heap := h' } : Shared).heap.get? S = some (mxS (.ref p) (.ref p) c) := eb S _ ne hS
    show wpAny _ X.A.in1 (updateSeq S (fun _ => #[]) >>= _) _ _ _
    refine wpAny_bind (wpAny_updateSeq hS' rfl (wpAny_bind (wpAny_letGo (wpAny_pure ?_))))
    have I2 := I1.turned (it := S) (t' := s.toks) (h' := h'.update S (Obj.mapSeq fun _ => #[])) (fun b o hb e => (Heap.get?_update_other _ _ (Ne.symm hb)).trans e) fS.1 fS.2.1 fS.2.2.2.1 fS.2.2.2.2.1 fS.2.2.2.2.2
    refine hR _ p I2 ?_
    rw [show ps.length - 1 = j from by omega]
    exact hp
  | succ m ih =>
    intro j s p c hm hj I hp hS st hR
    obtain ⟨its, rv, pl, hz⟩ := I.list M.lst
    have hlt : j + 1 < ps.length := by omega
    have hx : ps[j + 1]? = some ps[j + 1] := List.getElem?_eq_getElem hlt
    obtain ⟨u, hu1, ru⟩ := rv.get (i := j + 1) (x := .ref ps[j + 1]) (by rw [List.getElem?_map, hx]; rfl)
    cases ru
    generalize ps[j + 1] = q at hx hu1
    refine codeAny_builtin PySem.F.entry_max_loop ?_
    rw [Around.under_plainId PySem.F.plain_max_loop _]
    show wpAny _ X.A.in1 (seqItems? (.ref S) >>= _) _ _ s
    refine wpAny_bind (wpAny_seqItems hS rfl ?_)
    refine wpAny_bind (wpAny_tryCatch ?_)
    refine wpAny_pyNext_list_item st pl.isList (x := .ref q) (by simpa using hu1) fun h' st' sb => ?_
    have I1 : Inv X pins σ H { s with heap := h' } := I.turned (t' := s.toks) (fun b o hb e => (sb.2 b hb).trans e) fI.1 fI.2.1 fI.2.2.2.1 fI.2.2.2.2.1 fI.2.2.2.2.2
    have hS' : ({ s with heap := h' } : Shared).heap.get? S = some (mxS (.ref p) (.ref p) c) := (sb.2 S ne).trans hS
    have hbl := argBest_lt (mxB kd) j
    obtain ⟨as1, r1⟩ := Dp.reads I1 _ _ _ (M.dp _ _ hx) rfl
    obtain ⟨as2, r2⟩ := Dp.reads I1 _ _ _ (M.dp _ _ hp) rfl
    refine wpAny_bind (wpAny_pure ?_)
    refine wpAny_bind (wpAny_tryCatch (wpAny_holding (wpAny_bind (PySem.W.gt_data r1 r2 (M.alk _ _ hlt (by omega)) (M.nn _ hlt) (by
      have h1 := Nat.min_le_left (kd (j + 1)).depth (kd (argBest (mxB kd) j)).depth
      have h2 := M.dep _ hlt
      show X.A.units + 1 + _ < _
      omega) ?_))))
    refine wpAny_bind (wpAny_holding (wpAny_truthy_bool ?_))
    refine wpAny_bind (wpAny_letGo (wpAny_pure ?_))
    have eB : argBest (mxB kd) (j + 1) = if PySem.W.dataLt (kd (argBest (mxB kd) j)) (kd (j + 1)) = true then j + 1 else argBest (mxB kd) j := rfl
    cases hcmp : PySem.W.dataLt (kd (argBest (mxB kd) j)) (kd (j + 1)) with
    | true =>
      rw [hcmp, if_pos rfl] at eB
      simp only [if_true]
      refine wpAny_bind (wpAny_updateSeq hS' rfl (wpAny_bind (wpAny_letGo ?_)))
      rw [hname]
      refine wpAny_pure ⟨plainId_quiet PySem.F.plain_max_loop _, ih (j + 1) _ q c (by omega) hlt ?_ (by rw [eB]; exact hx) ?_ (st'.at fun o e => ?_) hR⟩
      · exact I1.turned (it := S) (t' := s.toks) (fun b o hb e => (Heap.get?_update_other _ _ (Ne.symm hb)).trans e) fS.1 fS.2.1 fS.2.2.2.1 fS.2.2.2.2.1 fS.2.2.2.2.2
      · exact Heap.get?_update_self _ hS' rfl
      · exact (Heap.get?_update_other _ _ ne).trans e
    | false =>
      rw [hcmp, if_neg Bool.false_ne_true] at eB
      simp only [Bool.false_eq_true, if_false]
      refine wpAny_bind (wpAny_letGo ?_)
      rw [hname]
      exact wpAny_pure ⟨plainId_quiet PySem.F.plain_max_loop _, ih (j + 1) _ p c (by omega) hlt I1 (by rw [eB]; exact hp) hS' st' hR⟩
/-- the first of the best -/
def rMaxD (K : PySem.W.Frag) : List V → Hp → VK → Prop := fun vs H Q => ∃ (a : Addr) (ps : List Addr) (kd : Nat → PyData), vs = [.ref a] ∧ 0 < ps.length ∧ MdK K H a ps kd ∧ ∀ p, ps[mxI kd ps.length]? = some p → Q (.ref p) H
theorem cr_maxD (hc : X.calm = true) (hu : X.A.units + 64 < cLine) : CallR X (.builtin "max") (rMaxD X.K) := by
  intro pins s σ H vs us Q I r hq
  obtain ⟨a, ps, kd, rfl, hn, M, q⟩ := hq
  obtain rfl := Vals.ref1 r
  have hname : (toString "max" ++ toString ".loop" : String) = "max.loop" := by decide
  refine PyProof.Rows.kmk_tree PySem.F.kind_max PySem.F.plain_max PySem.F.entry_max (by unfold argsOk; kernel_rfl) ?_
  refine wpAny_bind (wpAny_of_eq (a := [none, none]) (by rfl) ?_)
  refine wpAny_bind (wpAny_pure ?_)
  obtain ⟨its, rv, pl, hz⟩ := I.list M.lst
  refine wpAny_bind (wpAny_pyIter_list pl.isList ?_)
  have I1 : Inv X pins σ H { s with heap := s.heap.push { cls := .type "list_iterator", data := .fields #[.ref a, .int 0 0] } } := I.kept (t' := s.toks) fun b o e => Heap.get?_push_of_some _ e
  have fI : FpOk X pins H s.heap.objs.size := I.fpOk (Nat.le_refl _) (I.hok.fresh (Nat.le_refl _))
  have st0 : ({ s with heap := s.heap.push { cls := .type "list_iterator", data := .fields #[.ref a, .int 0 0] } } : Shared).heap.IsListIter s.heap.objs.size a 0 := ⟨_, Heap.get?_push_size _ rfl, rfl, rfl⟩
  generalize hs1 : ({ s with heap := s.heap.push { cls := .type "list_iterator", data := .fields #[.ref a, .int 0 0] } } : Shared) = s1 at I1 st0 ⊢
  have sz1 : s1.heap.objs.size = s.heap.objs.size + 1 := by rw [← hs1]; exact size_push' ..
  have fS : FpOk X pins H s1.heap.objs.size := I1.fpOk (Nat.le_refl _) (I1.hok.fresh (Nat.le_refl _))
  refine wpAny_bind (wpAny_newObj_type ?_)
  rw [hname]
  have I2 : Inv X pins σ H { s1 with heap := s1.heap.push { cls := .type "list", data := .seq #[] 0 } } := I1.kept (t' := s1.toks) fun b o e => Heap.get?_push_of_some _ e
  have hS : (s1.heap.push { cls := .type "list", data := .seq #[] 0 }).get? s1.heap.objs.size = some { cls := .type "list", data := .seq #[] 0 } := Heap.get?_push_size _ rfl
  have st1 := st0.at (h' := s1.heap.push { cls := .type "list", data := .seq #[] 0 }) fun o e => Heap.get?_push_of_some _ e
  have ne : s1.heap.objs.size ≠ s.heap.objs.size := fun z => by rw [sz1] at z; exact absurd z (Nat.succ_ne_self _)
  refine wpAny_pure ⟨plainId_quiet PySem.F.plain_max_loop _, ?_⟩
  generalize hs2 : ({ s1 with heap := s1.heap.push { cls := .type "list", data := .seq #[] 0 } } : Shared) = s2 at I2
  have hS2 : s2.heap.get? s1.heap.objs.size = some { cls := .type "list", data := .seq #[] 0 } := by rw [← hs2]; exact hS
  have st2 : s2.heap.IsListIter s.heap.objs.size a 0 := by rw [← hs2]; exact st1
  obtain ⟨its2, rv2, pl2, hz2⟩ := I2.list M.lst
  have hx : ps[0]? = some ps[0] := List.getElem?_eq_getElem hn
  obtain ⟨u, hu1, ru⟩ := rv2.get (i := 0) (x := .ref ps[0]) (by rw [List.getElem?_map, hx]; rfl)
  cases ru
  generalize ps[0] = b0 at hx hu1
  refine codeAny_builtin PySem.F.entry_max_loop ?_
  rw [Around.under_plainId PySem.F.plain_max_loop _]
  show wpAny _ X.A.in1 (seqItems? (.ref s1.heap.objs.size) >>= _) _ _ s2
  refine wpAny_bind (wpAny_seqItems hS2 rfl ?_)
  refine wpAny_bind (wpAny_tryCatch ?_)
  refine wpAny_pyNext_list_item st2 pl2.isList (x := .ref b0) (by simpa using hu1) fun h' st' sb => ?_
  have I3 : Inv X pins σ H { s2 with heap := h' } := I2.turned (t' := s2.toks) (fun b o hb e => (sb.2 b hb).trans e) fI.1 fI.2.1 fI.2.2.2.1 fI.2.2.2.2.1 fI.2.2.2.2.2
  have hS3 : ({ s2 with heap := h' } : Shared).heap.get? s1.heap.objs.size = some { cls := .type "list", data := .seq #[] 0 } := (sb.2 _ ne).trans hS2
  refine wpAny_bind (wpAny_pure ?_)
  refine wpAny_bind (wpAny_updateSeq hS3 rfl ?_)
  rw [hname]
  refine wpAny_pure ⟨plainId_quiet PySem.F.plain_max_loop _, md_loop hc hu M fS fI ne _ 0 _ b0 1 rfl hn ?_ hx ?_ (st'.at fun o e => ?_) fun s' p I' hp' => ⟨.ref p, H, I', rfl, q p hp'⟩⟩
  · exact I3.turned (it := s1.heap.objs.size) (t' := s2.toks) (fun b o hb e => (Heap.get?_update_other _ _ (Ne.symm hb)).trans e) fS.1 fS.2.1 fS.2.2.2.1 fS.2.2.2.2.1 fS.2.2.2.2.2
  · exact Heap.get?_update_self _ hS3 rfl
  · exact (Heap.get?_update_other _ _ ne).trans e
end
end Vf

namespace Vf
open PySem L2 PySem.Spec PyProof.Rows He RZ
/-! zip(xs, t), a list and a tuple -/
def ItzLT (K : PySem.W.Frag) (a b : Addr) : It :=
  ⟨fun i H => ∃ (xs ys : List V) (x y : V), SqL K H a xs ∧ SqT K H b ys ∧ xs[i]? = some x ∧ ys[i]? = some y,
   fun i H v H' => ∃ T x y, v = .ref T ∧ H T = none ∧ H' = upd H T (.tup [x, y]) ∧ (∀ xs, SqL K H a xs → xs[i]? = some x) ∧ ∀ ys, SqT K H b ys → ys[i]? = some y,
   fun i H => ∃ xs ys : List V, SqL K H a xs ∧ SqT K H b ys ∧ (xs.length = i ∨ ys.length = i) ∧ i ≤ xs.length ∧ i ≤ ys.length⟩
structure ZlAt (a b z TI TO i1 i2 : Addr) (i : Nat) (h : Heap) : Prop where
  z : IsZip h z TI TO .none
  p : IsTupOf2 h TI (.ref i1) (.ref i2)
  o : ∃ c d, IsTupOf2 h TO c d
  t1 : h.IsListIter i1 a i
  t2 : h.IsTupleIter i2 b i
theorem turn_zipLT {P : Program} {w : World} {K : PySem.W.Frag} {elts : List Expr} {kk : Nat} {tpos : Pos} {a b z TI TO i1 i2 : Addr} (D : ZipSep2 z TI TO i1 i2 [i1, a] [i2, b]) (na : a ≠ i1) (nb : b ≠ i2) :
    Turn P w K (.Tuple elts kk tpos) (ItzLT K a b) [z, TI, TO, i1, i2] z (ZlAt a b z TI TO i1 i2) where
  mem := by simp
  obj := fun i h here c hc => by
    obtain ⟨hz, hp, ⟨c', d', ho⟩, ⟨o1, e1, _, d1⟩, ⟨o2, e2, _, d2⟩⟩ := here
    have e' : c = z ∨ c = TI ∨ c = TO ∨ c = i1 ∨ c = i2 := by simpa using hc
    rcases e' with q | q | q | q | q
    · rw [q]; exact ⟨_, hz, fun v q => nomatch q⟩
    · rw [q]; exact ⟨_, hp, fun v q => nomatch q⟩
    · rw [q]; exact ⟨_, ho, fun v q => nomatch q⟩
    · rw [q]; exact ⟨o1, e1, fun v q => by rw [d1] at q; cases q⟩
    · rw [q]; exact ⟨o2, e2, fun v q => by rw [d2] at q; cases q⟩
  keep := fun i h h' here k => by
    obtain ⟨hz, hp, ⟨c', d', ho⟩, h1, h2⟩ := here
    exact ⟨k z (by simp) _ hz, k TI (by simp) _ hp, ⟨c', d', k TO (by simp) _ ho⟩, h1.at fun o q => k i1 (by simp) o q, h2.at fun o q => k i2 (by simp) o q⟩
  item := by
    intro X hP hw hK wc i pins s σ H E I fp here got
    subst hP hw hK
    obtain ⟨hz, hp, ⟨c', d', ho⟩, h1, h2⟩ := here
    obtain ⟨xs, ys, x, y, qx, qy, hx, hy⟩ := got
    obtain ⟨its, rv, p1, _⟩ := I.list qx
    obtain ⟨its2, rv2, p2, _⟩ := I.tuple qy
    obtain ⟨u, hu, ru⟩ := rv.get hx
    obtain ⟨u2, hu2, ru2⟩ := rv2.get hy
    have h0 : X.A.in1.handled = none := I.ok.hd wc
    have zl : z < s.heap.objs.size := Heap.lt_size hz
    have lt1 : i < its.toArray.size := by have := (List.getElem?_eq_some_iff.mp hu).1; simpa using this
    have lt2 : i < its2.toArray.size := by have := (List.getElem?_eq_some_iff.mp hu2).1; simpa using this
    refine wpAny_pyNext_zipD2_item D (Draws.list (A := X.A.in1) h0 i1 a na its.toArray) (Draws.tuple (A := X.A.in1) h0 i2 b nb its2.toArray) hz hp ho ⟨h1, p1.isList⟩ ⟨h2, p2⟩ lt1 lt2 fun x1 x2 g tk y1 y2 z' o' s1 s2 pT size keep => ?_
    have e1 : x1 = u := by
      have q1 : its[i]? = some x1 := by simpa using y1
      exact Option.some.inj (q1.symm.trans hu)
    have e2 : x2 = u2 := by
      have q1 : its2[i]? = some x2 := by simpa using y2
      exact Option.some.inj (q1.symm.trans hu2)
    subst e1 e2
    refine ⟨_, rfl, wpAny_letOwnedTupleGo_zip (s := { s with heap := g, toks := tk }) z' fun g2 z2 only => ?_⟩
    have up : ∀ c o, c ≠ z → g.get? c = some o → g2.get? c = some o := fun c o n h => (only.2 c n).trans h
    have pT2 : IsTupOf2 g2 s.heap.objs.size x1 x2 := up _ _ (Nat.ne_of_gt zl) pT
    have I1 : Inv X pins σ (upd H s.heap.objs.size (.tup [x, y])) { s with heap := g2, toks := tk } :=
      I.turnedNew (ch := [z, TI, TO, i1, i2]) (fun c o hb q => up c o (fun q' => hb (by simp [q'])) (keep c o (fun q' => hb (by simp [q'])) (fun q' => hb (by simp [q'])) (fun q' => hb (by simp [q'])) (fun q' => hb (by simp [q'])) q)) fp (Nat.le_refl _)
        ⟨by show 2 ≤ sizeLine; decide, [x1, x2], .cons ru (.cons ru2 .nil), ⟨_, pT2, rfl, _, rfl⟩⟩
    refine ⟨.ref s.heap.objs.size, _, I1, rfl, ⟨_, x, y, rfl, I.hok.fresh (Nat.le_refl _), rfl, fun l hl => by rw [I.list_inj hl qx]; exact hx, fun l hl => by rw [I.tuple_inj hl qy]; exact hy⟩, ⟨z2, up _ _ D.TIz (keep _ _ D.TIz D.TITO D.TIi1 D.TIi2 hp), ⟨x1, x2, up _ _ D.TOz o'⟩, s1.1.at fun o q => up _ o D.zi1.symm q, s2.1.at fun o q => up _ o D.zi2.symm q⟩, fun c hcm => ?_⟩
    have lt : c < s.heap.objs.size := by
      have e' : c = z ∨ c = TI ∨ c = TO ∨ c = i1 ∨ c = i2 := by simpa using hcm
      rcases e' with q | q | q | q | q
      · rw [q]; exact zl
      · rw [q]; exact Heap.lt_size hp
      · rw [q]; exact Heap.lt_size ho
      · rw [q]; obtain ⟨_, e1, _⟩ := h1; exact Heap.lt_size e1
      · rw [q]; obtain ⟨_, e2, _⟩ := h2; exact Heap.lt_size e2
    rw [upd_ne (Nat.ne_of_lt lt)]
    exact (fp c hcm).1
  done := by
    intro X hP hw hK wc i pins s σ H E I fp here got
    subst hP hw hK
    obtain ⟨hz, hp, ⟨c', d', ho⟩, h1, h2⟩ := here
    obtain ⟨xs, ys, qx, qy, en, le1, le2⟩ := got
    obtain ⟨its, rv, p1, _⟩ := I.list qx
    obtain ⟨its2, rv2, p2, _⟩ := I.tuple qy
    have l1 := rv.length
    have l2 := rv2.length
    have h0 : X.A.in1.handled = none := I.ok.hd wc
    refine wpAny_pyNext_zipD2_end D (Draws.list (A := X.A.in1) h0 i1 a na its.toArray) (Draws.tuple (A := X.A.in1) h0 i2 b nb its2.toArray) hz hp ho ⟨h1, p1.isList⟩ ⟨h2, p2⟩ (by simp; omega) (by simp; omega) (by simp; omega) fun g tk keep => ⟨rfl, ?_⟩
    exact I.turnedL (t' := tk) (ch := [z, TI, TO, i1, i2]) (fun c o hb q => keep c o (fun q' => hb (by simp [q'])) (fun q' => hb (by simp [q'])) (fun q' => hb (by simp [q'])) (fun q' => hb (by simp [q'])) q) fp
  self := fun A i s Q E here h => wpAny_pyIter_zip here.z h
def iZipLT (K : PySem.W.Frag) (ta : TA) : TI := fun σ H R => ta σ H fun vs H1 => ∃ a b xs ys, vs = [.ref a, .ref b] ∧ SqL K H1 a xs ∧ SqT K H1 b ys ∧ R (ItzLT K a b) H1
theorem pi_zipLT {X : Cx} {e e2 : Expr} {ta : TA} {p pos tpos : Pos} {elts : List Expr} {kk : Nat} (hg : Gl X "zip") (hm : X.mg "zip" = none) (ha : PA X [e, e2] ta)
    (hs : starEach [e, e2] X.env = (false, eval e X.env) :: starEach [e2] X.env := by rfl) (hpl : (backTo pos (starEach [e2] X.env)).any (·.1) = false := by rfl) :
    PI X (.Tuple elts kk tpos) (.Call (.Name "zip" p) [e, e2] [] pos) (iZipLT X.K ta) := by
  refine ⟨fun pins s σ H R I h => ?_⟩
  refine Call_ (ld_blt I hg hm PyProof.Rows.boot_zip (PyProof.Rows.callWith_type1 (thn (ha.run pos pins s σ H _ I h) fun us s1 ⟨vs, H1, I1, r1, q1⟩ => ?_) hs hpl))
  obtain ⟨a, b, xs, ys, ex, qx, qy, q⟩ := q1
  subst ex
  cases r1 with
  | cons r rr =>
    cases rr with
    | cons r' rr =>
      cases rr
      cases r
      cases r'
      obtain ⟨its, rv, p1, _⟩ := I1.list qx
      obtain ⟨its2, rv2, p2, _⟩ := I1.tuple qy
      have la : a < s1.heap.objs.size := p1.lt
      obtain ⟨o2, ho2, _⟩ := id p2
      have lb : b < s1.heap.objs.size := Heap.lt_size ho2
      refine zip_begins2 (begins_list a its.toArray) (begins_tuple b its2.toArray) p1.isList p2 fun g hz hTI hTO g1 g2 size hk => wpAny_pyIter_zip hz ?_
      have I2 : Inv X pins σ H1 { s1 with heap := g } := I1.kept (t' := s1.toks) hk
      refine ⟨s1.heap.objs.size + 4, [s1.heap.objs.size + 4, s1.heap.objs.size + 2, s1.heap.objs.size + 3, s1.heap.objs.size, s1.heap.objs.size + 1], _, _, H1, rfl, I2,
        turn_zipLT (a := a) (b := b) (zip_sep2 (fp1 := [a]) (fp2 := [b]) (fun c hc => by rw [List.mem_singleton.mp hc]; exact la) (fun c hc => by rw [List.mem_singleton.mp hc]; exact lb)) (Nat.ne_of_lt la) (Nat.ne_of_lt (Nat.lt_succ_of_lt lb)),
        ⟨hz, hTI, ⟨_, _, hTO⟩, ⟨_, g1, rfl, rfl⟩, ⟨_, g2, rfl, rfl⟩⟩, fun c hc => ?_, q⟩
      have e' : c = s1.heap.objs.size + 4 ∨ c = s1.heap.objs.size + 2 ∨ c = s1.heap.objs.size + 3 ∨ c = s1.heap.objs.size ∨ c = s1.heap.objs.size + 1 := by simpa using hc
      have above : s1.heap.objs.size ≤ c := by rcases e' with z | z | z | z | z <;> rw [z] <;> first | exact Nat.le_add_right _ _ | exact Nat.le_refl _
      exact I1.fpOk above (I1.hok.fresh above)
theorem walk_zipLT {K : PySem.W.Frag} {a b : Addr} {xs ys : List V} (hl : xs.length = ys.length) : Walk (ItzLT K a b) xs.length (fun H => SqL K H a xs ∧ SqT K H b ys) (YPair (fun i => xs[i]?) (fun i => ys[i]?)) := by
  refine ⟨fun i H hi q => ⟨xs, ys, xs[i], ys[i]'(by omega), q.1, q.2, List.getElem?_eq_getElem hi, List.getElem?_eq_getElem (by omega)⟩, fun H q => ⟨xs, ys, q.1, q.2, .inl rfl, Nat.le_refl _, by omega⟩, fun i H v H' hi q y => ?_⟩
  obtain ⟨T, x, y, g1, g2, g3, g4, g5⟩ := y
  exact ⟨T, x, y, g1, g2, g3, g4 xs q.1, g5 ys q.2⟩
end Vf

namespace Vf
open PySem L2 PySem.Spec PyProof.Rows He RZ
/-! x != y by the class's own __eq__: object's __ne__ asks it and turns the answer -/
def rNeO (K : PySem.W.Frag) (C : Addr) (sp : Sp) (E : XK) : R2 := fun x y H Q => ∃ (a b dx dy : Addr) (fs gs : List (Str × V)), x = .ref a ∧ y = .ref b ∧ H a = some (.ins C dx fs) ∧ H b = some (.ins C dy gs) ∧ sp [x, y] H (fun z H' => ∃ t, z = .bl t ∧ Q (.bl (!t)) H') E
theorem ne_bind (self : Value) : bindSpecial (.builtin "object.__ne__") self = pure (.builtin "object.__ne__", [self]) :=
  (Slot.of (T := "object") (name := "__ne__") (owner := "object") (n := "__ne__") (by rw [typeLookup_type, builtinLookup_eq_fast]; kernel_rfl) (by decide +kernel) (by decide +kernel) (by decide +kernel)
    (.inl (by decide +kernel)) (by rw [isSubtype_type]; kernel_rfl)).bind self
theorem op_neOwn {X : Cx} {C f : Addr} {fd : FuncData} {ps : List Str} {sp : Sp} {n : Nat} (F : FnOk X.prog X.w X.K X.mg X.base CX0 n f fd ps sp)
    (hs : PySem.W.findIn X.K (.ref C) "__eq__" = some (some (.ref f))) (hf : PySem.W.isFn X.K (.ref f) = true) (hb : Binds X.K fd ps [])
    (hn : PySem.W.findIn X.K (.ref C) "__ne__" = some (some (.builtin "object.__ne__"))) (ho : PySem.W.mroIn X.K C (.type "object") = some true) (hr : Room (n + 1) X.A) : OpR X (compareOp .NotEq) (rNeO X.K C sp E0) := by
  intro pins s σ H x y v u Q I rx ry q
  obtain ⟨a, b, dx, dy, fs, gs, rfl, rfl, ha, hy, hsp⟩ := q
  cases rx
  cases ry
  obtain ⟨mA, J, _⟩ := ins_get I.hok ha
  obtain ⟨od, J, _⟩ := J.look
  obtain ⟨mB, J', _⟩ := ins_get I.hok hy
  obtain ⟨od', J', _⟩ := J'.look
  have KI : X.K.In s.heap := I.kIn
  have sub : PySem.W.Looks (model X.prog X.w) s.heap (isInstance (.ref a) (.type "object")) true := J.type.andThen (PySem.W.looks_mroIn KI ho)
  have run : ∀ {Q' : Value → Shared → Prop}, (∀ t s', (∃ H', Inv X pins σ H' s' ∧ Q (.bl (!t)) H') → Q' (.bool t) s') → wpAny (model X.prog X.w) X.A.in1 (call (.ref f) [.ref a, .ref b]) Q' X.xe s := fun {Q'} h =>
    run_in F hb hr.in1 rfl I (vs := [.ref a, .ref b]) (.cons rfl (.cons rfl .nil)) hsp fun w s' ⟨z, H', I', rz, t, ez, hQ⟩ => by
      subst ez
      cases rz
      exact h t s' ⟨H', I', hQ⟩
  have ib : wpAny (model X.prog X.w) X.A (callSpecialIfBound? (.ref a) "__ne__" [.ref b]) (fun r s' => ∃ t, r = some (.bool (!t)) ∧ ∃ H', Inv X pins σ H' s' ∧ Q (.bl (!t)) H') X.xe s := by
    simp only [callSpecialIfBound?, bindSpecialIfBound?]
    refine wpAny_holding (wpAny_bind (wpAny_bind (wpAny_bind (J.type.here ((PySem.W.looks_findIn KI hn).here ?_)))))
    have fin : wpAny (model X.prog X.w) X.A (call (.builtin "object.__ne__") ([.ref a] ++ [.ref b]) >>= fun v => pure (some v)) (fun r s' => ∃ t, r = some (.bool (!t)) ∧ ∃ H', Inv X pins σ H' s' ∧ Q (.bl (!t)) H') X.xe s := by
      refine wpAny_bind ?_
      refine wpAny_call (codeAny_call_builtin (by decide +kernel) PySem.F.cmpEntry_ne (@PySem.W.check_slot (model X.prog X.w) _ _ s "object.__ne__" "object" "__ne__" (.ref a) [.ref b] [] _ PySem.F.cmpKind_ne PySem.F.cmpSplit_ne sub (PySem.F.cmpArgs_ne _ _) ?_))
      unfold Builtin.«object.__ne__»
      refine wpAny_bind (wpAny_of_eq (a := (Value.ref a, [Value.ref b])) (by rfl) ?_)
      dsimp only
      refine wpAny_bind (wpAny_cRoomFor (by have := hr.un; show X.A.units + 1 < _; omega) ?_)
      refine wpAny_bind (PySem.W.ifBound_K KI J hs hf (run fun t s' h => ?_))
      dsimp only
      refine wpAny_bind (wpAny_truthy_bool ?_)
      exact wpAny_pure (wpAny_pure ⟨t, rfl, h⟩)
    refine wpAny_bind (wpAny_askSetting (wpAny_ite ?_))
    split
    · exact wpAny_bind (wpAny_of_eq (ne_bind _) (wpAny_pure (by exact fin)))
    · exact wpAny_tryCatch (wpAny_bind (wpAny_of_eq (ne_bind _) (wpAny_pure (by exact fin))))
  have one : wpAny (model X.prog X.w) X.A (tryCompare (.ref a) "__ne__" (.ref b)) (fun r s' => ∃ t, r = some (.bool (!t)) ∧ ∃ H', Inv X pins σ H' s' ∧ Q (.bl (!t)) H') X.xe s := by
    unfold tryCompare
    refine wpAny_bind (wpAny_mono ib (fun r s' z => ?_) fun _ _ e => e)
    obtain ⟨t, rfl, h⟩ := z
    exact wpAny_pure ⟨t, rfl, h⟩
  show wpAny _ _ (richCompare .NotEq (.ref a) (.ref b)) _ _ s
  unfold richCompare
  simp only [oneThing_ref]
  refine wpAny_holding (wpAny_bind (wpAny_cRoomFor (by have := hr.un; omega) ?_))
  refine wpAny_bind (J.type.here (wpAny_bind (J'.type.here ?_)))
  rw [show (Value.ref C != Value.ref C) = false from by simp]
  simp only [Bool.false_eq_true, if_false]
  refine wpAny_bind (wpAny_pure ?_)
  simp only [Bool.false_eq_true, if_false]
  refine wpAny_bind (wpAny_mono one (fun r s' z => ?_) fun _ _ e => e)
  obtain ⟨t, rfl, H', I', hQ⟩ := z
  exact wpAny_pure ⟨.bl (!t), H', I', rfl, hQ⟩
end Vf
namespace Vf
open PySem L2 PySem.Spec PyProof.Rows He RZ
def neB (x : Str) (K : PySem.W.Frag) : Bool := eqO (PySem.W.findIn K (.ref (ga K x)) "__ne__") (some (some (.builtin "object.__ne__"))) && (PySem.W.mroIn K (ga K x) (.type "object") == some true)
structure NeC (K : PySem.W.Frag) (x : Str) : Prop where
  n : PySem.W.findIn K (.ref (ga K x)) "__ne__" = some (some (.builtin "object.__ne__"))
  o : PySem.W.mroIn K (ga K x) (.type "object") = some true
theorem neB_ok {x : Str} {K : PySem.W.Frag} (c : neB x K = true) : NeC K x := by
  unfold neB at c
  obtain ⟨c1, c2⟩ := ba c
  exact ⟨eqO_ok c1, beq_iff_eq.mp c2⟩
theorem op_neC {X : Cx} {k j : Nat} {x : Str} {sp : Sp} (c : EqC X.prog X.w X.K X.mg X.base k x sp) (d : NeC X.K x) (hr : Room j X.A) (hk : k + 1 ≤ j) : OpR X (compareOp .NotEq) (rNeO X.K (ga X.K x) sp E0) := by
  obtain ⟨f, fd, ps, F, hs, hf, hb⟩ := c.ex
  exact op_neOwn F hs hf hb d.n d.o (hr.mono hk)
end Vf

namespace Vf
open PySem L2 PySem.Spec PyProof.Rows He RZ
/-! calls of a method that may raise -/
structure MetX (P : Program) (w : World) (K : PySem.W.Frag) (mg : Str → Option Value) (base : Heap) (k : Nat) (C : Addr) (m : Str) (sp : Sp) : Prop where
  ex : ∃ (f : Addr) (fd : FuncData) (ps : List Str), Cls K C ∧ Meth K C m f ∧ FnOk P w K mg base (L2.CX P w) k f fd ps sp ∧ Binds K fd ps []
def tMethX (C : Addr) (m : Str) (sp : Sp) (EE : L2.St → XK) (ta : TE) (t : TA) : TE := fun σ H Q => ta σ H fun x H1 => ∃ a dx fs, x = .ref a ∧ H1 a = some (.ins C dx fs) ∧ fs.lookup m = none ∧ t σ H1 fun vs H2 => sp (x :: vs) H2 Q (EE σ)
section
variable {X : Cx} {k j : Nat} {C : Addr} {m : Str} {sp : Sp} {o e : Expr} {es : List Expr} {ta : TE} {t : TA} {apos pos : Pos} {W : WX}
theorem pe_mtX {pl : Sem Bool} (c : MetX X.prog X.w X.K X.mg X.base k C m sp) (hr : Room j X.A) (hk : k ≤ j) (tk : Takes X W) (he : PE X o ta) (ha : PA X (e :: es) t)
    (hst : starEach (e :: es) X.env = (false, eval e X.env) :: starEach es X.env := by rfl) (hpl : (backTo pos (starEach es X.env)).any (·.1) = false := by rfl)
    (ht : eval (.Call (.Attribute o m apos) (e :: es) [] pos) X.env = (do
      let ov ← eval o X.env
      standAt apos.atName
      let (f, first) ← holding [ov] (getMethod ov m pl)
      callWith pos f first (backTo pos (starEach (e :: es) X.env)) (backToKw pos (keywordEach [] X.env))) := by rfl) :
    PE X (.Call (.Attribute o m apos) (e :: es) [] pos) (tMethX C m sp (WE W) ta t) := by
  obtain ⟨f, fd, ps, hc, hm, F, b⟩ := c.ex
  refine ⟨fun pins s σ H Q I h => ?_⟩
  refine PySem.W.methodCall_KW (pl := pl) (thn (he.run pins s σ H _ I h) fun u s1 ⟨x, H1, I1, rx, a, dx, fs, ex, ea, l, q⟩ => ?_) ht
  subst ex
  obtain rfl : u = Value.ref a := rx
  refine getmeth_ok I1 ea hc hm l ?_
  refine PySem.W.callWith_K (first := [.ref a]) (h₀ := X.base) I.ok.mod.kin hm.kp (thn (ha.run pos pins s1 σ H1 _ I1 q) fun us s2 ⟨vs, H2, I2, r, q2⟩ => ⟨I2.kIn, ?_⟩) hst hpl
  exact run_fnS (E := WE W) (us := .ref a :: us) (vs := .ref a :: vs) F (hr.mono hk) b (passAt tk σ) I2 (.cons rfl r) q2
theorem pe_mtX0 {pl : Sem Bool} (c : MetX X.prog X.w X.K X.mg X.base k C m sp) (hr : Room j X.A) (hk : k ≤ j) (tk : Takes X W) (he : PE X o ta)
    (ht : eval (.Call (.Attribute o m apos) [] [] pos) X.env = (do
      let ov ← eval o X.env
      standAt apos.atName
      let (f, first) ← holding [ov] (getMethod ov m pl)
      callWith pos f first (backTo pos (starEach [] X.env)) (backToKw pos (keywordEach [] X.env))) := by rfl) :
    PE X (.Call (.Attribute o m apos) [] [] pos) (tMethX C m sp (WE W) ta tNil) := by
  obtain ⟨f, fd, ps, hc, hm, F, b⟩ := c.ex
  refine ⟨fun pins s σ H Q I h => ?_⟩
  refine PySem.W.methodCall_KW (pl := pl) (thn (he.run pins s σ H _ I h) fun u s1 ⟨x, H1, I1, rx, a, dx, fs, ex, ea, l, q⟩ => ?_) ht
  subst ex
  obtain rfl : u = Value.ref a := rx
  refine getmeth_ok I1 ea hc hm l ?_
  exact PySem.W.callWith_K0 (first := [.ref a]) I1.kIn hm.kp (run_fnS (E := WE W) (us := [.ref a]) (vs := [.ref a]) F (hr.mono hk) b (passAt tk σ) I1 (.cons rfl .nil) q)
end
end Vf

namespace Vf
open PySem L2 PySem.Spec PyProof.Rows He RZ L2H
/-! a def called in an except suite that lets nothing out: FnH without the word of the handled exception's context -/
structure FnQ (P : Program) (w : World) (K : PySem.W.Frag) (mg : Str → Option Value) (base : Heap) (k : Nat) (f : Addr) (fd : FuncData) (ps : List Str) (sp : Sp) : Prop where
  len : ∀ vs H Q E, sp vs H Q E → vs.length = ps.length
  run : ∀ (A : Around) (out : List Env) (s : Shared) (H : Hp) (ar : Args) (us : List Value) (vs : List V) (Q : VK) (E : XK) (pp : Addr × Obj), RoomH k A → PinOk out H s pp →
    Env0 P w K mg base A out s H → BindsTo s fd ar (ps.zip us) → Vals vs us → sp vs H Q E → codeAny (model P w) A (.call (.ref f) ar) (CR CX0 out P w H s Q E) s
section
variable {P : Program} {w : World} {K : PySem.W.Frag} {mg : Str → Option Value} {base : Heap} {x qual : Str} {params : Arguments} {body : List Stmt} {scope : Scope} {dvs : List V} {kws : List (Str × V)} {f : Addr} {fd : FuncData}
theorem okQ {N ps : List Str} {k : Nat} {sp : Sp} (F : FunD K x qual params body scope dvs kws f fd) (S : FnScope N ps scope)
    (len : ∀ vs H Q E, sp vs H Q E → vs.length = ps.length)
    (hbody : ∀ (cdv : Value) (A : Around) (out : List Env) (s : Shared) (H : Hp) (vs : List V) (Q : VK) (E : XK) (pp : Addr × Obj), RoomH k (A.deeper (envOfC qual scope s.heap.objs.size f cdv)) →
      sp vs H Q E → ∃ t, PSs (cxH CX0 P w K mg base N qual scope f cdv A out s H E pp) body t ∧
        t { nx := fun _ H' => Q .non H', rt := Q } (L2.start N vs) H) : FnQ P w K mg base (k + 1) f fd ps sp := by
  obtain ⟨oc, od, dV, kV, doc, pm, an, cdv, ct, osl, rfl, lk, hcd, _, _⟩ := F.ex
  refine ⟨len, fun A out s H ar us vs Q E pp hr hpin e0 hb r hsp => ?_⟩
  have hl := len _ _ _ _ hsp
  have kin : K.In s.heap := e0.mod.kin.keeps fun b o e => (e0.bs b o e).1
  have nol : s.heap.NoLimit := e0.mod.nolimit.keeps fun b o e => (e0.bs b o e).1
  have knd : ∀ y ∈ ps.zip us, scope.names.lookup y.1 = some .local ∨
      (scope.names.lookup y.1 = some .cell ∧ ((cellsFrom (s.heap.objs.size + 1) scope.names []).lookup y.1).isSome = true) := fun ⟨n, v⟩ hy =>
    (S.par n (List.of_mem_zip hy).1).imp id fun q => ⟨q, PySem.W.cellsFrom_some _ _ _ (.inl q)⟩
  refine codeAny_call_function hr.depth (kin _ _ lk) rfl S.co S.gen rfl (PySem.W.codeRec_of kin hcd) (hb _ _ _ _ ?_)
  refine wpAny_newFunctionEnv_cells S.kind knd fun env he s1 x => ?_
  subst he
  refine ⟨nol.keeps x.toInCall.keep, codeAny_func ?_⟩
  obtain ⟨t, ht, hq⟩ := hbody cdv A out s H vs Q E pp (hr.deeper _) hsp
  have I := inv_startH (CX := CX0) (E := E) S hpin e0 hl r x
  refine wpAny_mono (ht.run [] s1 (L2.start N vs) H _ I hq) (fun fl s' hs => ?_) fun e s' hs => hs
  cases fl with
  | ret u => obtain ⟨v, σ', H', J, rv, q⟩ := hs; exact ⟨v, H', J.os, J.bare, J.base, J.hok, rv, q⟩
  | next => obtain ⟨σ', H', J, q⟩ := hs; exact ⟨V.non, H', J.os, J.bare, J.base, J.hok, rfl, q⟩
  | brk => exact False.elim (let ⟨_, _, _, q⟩ := hs; q)
  | cont => exact False.elim (let ⟨_, _, _, q⟩ := hs; q)
end
structure CalQ (P : Program) (w : World) (K : PySem.W.Frag) (mg : Str → Option Value) (base : Heap) (k : Nat) (x : Str) (sp : Sp) : Prop where
  ex : ∃ (f : Addr) (fd : FuncData) (ps : List Str), FnQ P w K mg base k f fd ps sp ∧ mg x = some (.ref f) ∧ PySem.W.keepIn K (.ref f) = true ∧ Binds K fd ps []
theorem roomQ {k : Nat} {A : Around} {h : Option Value} (r : Room k A) : RoomH k (A.mark h) := ⟨r.dp, r.un⟩
theorem huQ {k : Nat} {A : Around} {h : Option Value} (r : Room k A) : (A.mark h).units + 1 < cLine := by
  have e : A.units + 1 < cLine := hu_of r
  exact e
theorem pe_cQ {X : Cx} {k j : Nat} {x : Str} {sp : Sp} {p pos : Pos} {e : Expr} {es : List Expr} {t : TA} (c : CalQ X.prog X.w X.K X.mg X.base k x sp) (hr : RoomH j X.A) (hk : k ≤ j) (hp : ∃ pp : Addr × Obj, pp ∈ X.pn) (hg : Gl X x) (ha : PA X (e :: es) t)
    (hdb : (x == ("__debug__" : Str)) = false := by decide) (he : starEach (e :: es) X.env = (false, eval e X.env) :: starEach es X.env := by rfl)
    (hpl : (backTo pos (starEach es X.env)).any (·.1) = false := by rfl) : PE X (.Call (.Name x p) (e :: es) [] pos) (tCall sp [] E0 t) := by
  obtain ⟨f, fd, ps, F, hm, kp, b⟩ := c.ex
  obtain ⟨pp, hp⟩ := hp
  refine ⟨fun pins s σ H Q I h => ?_⟩
  refine wpAny_Call_Name_kw (ld_glob I hg hm ?_ hdb)
  refine PySem.W.callWith_K (h₀ := X.base) I.ok.mod.kin kp (thn (ha.run pos pins s σ H _ I h) fun us s1 ⟨vs, H1, I1, r, q⟩ => ⟨I1.kIn, ?_⟩) he hpl
  have q : sp (vs ++ []) H1 Q E0 := q
  rw [List.append_nil] at q
  have hl : us.length = ps.length := by rw [← r.length]; exact F.len _ _ _ _ q
  have b2 := b s1 us I1.kIn (by rw [List.append_nil]; exact hl)
  rw [List.append_nil] at b2
  have P1 := I1.pin pp (List.mem_append_left _ hp)
  have pk : PinOk X.stack H1 s1 pp := ⟨P1.1, P1.2.1, fun hm => (List.mem_cons.mp (I1.stkSub pp.1 hm)).elim P1.2.2.1 P1.2.2.2.1, P1.2.2.2.2⟩
  refine wpAny_call (codeAny_mono (F.run X.A X.stack s1 H1 ⟨us, []⟩ us vs Q _ pp (hr.mono hk) pk I1.env0 b2 r q) fun r s' hq => ?_)
  cases r with
  | error e => exact False.elim hq
  | ok fl =>
    cases fl with
    | ret u => exact I1.after hq
    | next => exact False.elim hq
    | brk => exact False.elim hq
    | cont => exact False.elim hq
end Vf

namespace Vf
open PySem L2 PySem.Spec PyProof.Rows He RZ
/-! ### a comprehension whose element may raise -/
section
variable {X : Cx} {W : WX} {E : XK}
theorem comp_raise {pinsB pins : List (Addr × Obj)} {σB σ : L2.St} {HB H3 : Hp} {sB s3 s' : Shared} {scope : Scope} {ce : Env} {fp : List Addr} {xe : Value → Shared → Prop} {u : Value}
    (tk : Takes X W) (hst : X.stack = X.env :: X.outer) (hfr : X.env.frame = some X.env.locals) (hcf : ce.frame = X.env.frame)
    (I3 : Inv X pins σ H3 s3) (IB : Inv ((X.blk s3 H3 scope ce fp).wish xe) pinsB σB HB sB) (ff : ∀ b ∈ fp, FpOk X pins H3 b) (fC : s3.heap.objs.size ≤ ce.locals)
    (hE : ∀ cls d H', E cls d H' → W cls d σ H') (c : L2.CX X.prog X.w X.stack HB sB E u s') : notedBy (model X.prog X.w) X.A ce (CompFails (model X.prog X.w) X.A X.xe ce) u s' := by
  obtain ⟨a, Bh, H', cls, d, rfl, fl, hok, ub, na, os, ag, hE'⟩ := c
  have hA : X.A.frames = some (X.env :: X.outer) := by rw [I3.ok.frames, hst]
  obtain ⟨m, hn, _⟩ := IB.loc
  obtain ⟨oC, es, ep, hoC, hdC, hr⟩ := id hn
  have hoC : sB.heap.get? ce.locals = some oC := hoC
  have nCB : HB ce.locals = none := IB.free
  have nCf : ce.locals ∉ frs X.stack := fun hm => by
    rcases List.mem_cons.mp (I3.stkSub _ hm) with z | z
    · have := I3.lt
      rw [z] at fC
      exact absurd (Nat.lt_of_lt_of_le this fC) (Nat.lt_irrefl _)
    · exact I3.nofs fC z
  have hBC : Bh.get? ce.locals = some oC := ub.keep _ _ hoC nCB nCf
  have nC' : H' ce.locals = none := ub.free _ _ hoC nCB
  have fl2 : HandSPX.FlyingZ Bh (X.env :: X.outer) a (Zc cls d) s'.heap := by rw [← hst]; exact fl
  show wpAny _ X.A (noteFrame (.ref a) ce) _ _ s'
  rw [noteFrame_env _ hcf]
  refine HandSPX.looks_onZ Zc.steady hA hfr fl2 fun h' hh up => ?_
  obtain ⟨b1, b0, f1, oe, vs, T, oT, ts, he, hz, hd, h1, hnT, hTe, hT, hdT, h3⟩ := hh
  refine ⟨m, ⟨oC, es, ep, b1 _ _ hBC, hdC, hr⟩, fun h2 m2 hn2 hs2 => ?_⟩
  obtain ⟨B2, g1, g2⟩ := restrict h2 fun b => (Bh.get? b).isSome
  have st2 : B2.StaysIn h2 := fun b o e => by
    cases q : (Bh.get? b).isSome with
    | false => rw [g2 b q] at e; cases e
    | true => rw [g1 b q] at e; exact e
  have same : ∀ b o, b ≠ ce.locals → Bh.get? b = some o → B2.get? b = some o := fun b o ne e => by
    rw [g1 b (by simp [e]), hs2.2 b ne]
    exact b1 b o e
  have none2 : ∀ b, Bh.get? b = none → B2.get? b = none := fun b e => g2 b (by simp [e])
  have naC : a ≠ ce.locals := fun z => by rw [z, hBC] at b0; cases b0
  have nTC : T ≠ ce.locals := fun z => by rw [z, hBC] at hnT; cases hnT
  have he2 : h2.get? a = some oe := (hs2.2 a naC).trans he
  have hT2 : h2.get? T = some oT := (hs2.2 T nTC).trans hT
  have f2 : h2.FunFrames Bh (X.env :: X.outer) := Heap.FunFrames.sameBut hs2 hn2 f1
  have f3 : h2.FunFrames B2 (X.env :: X.outer) := funFrames_none f2 fun b hb => none2 b (f2.mem hb).1
  have hh2 : HandSPX.HeldZ B2 (X.env :: X.outer) a (Zc cls d) X.env.locals h2 := ⟨st2, none2 _ b0, f3, oe, vs, T, oT, ts, he2, hz, hd, h1, none2 _ hnT, hTe, hT2, hdT, h3⟩
  unfold PySem.passOn
  refine wpAny_bind (wpAny_field he2 hd h1 ?_)
  rw [if_neg (show ¬ ((Value.ref T == Value.none) = true) from by simp), hcf, hfr]
  refine wpAny_bind (HandSPX.setFlight_onZ hh2 fun h4 hh4 up4 => ?_)
  refine wpAny_throw (tk _ _ ?_)
  -- the block's state, then the def's, without the exception
  obtain ⟨G, k1, k2⟩ := restrict s'.heap fun b => (Bh.get? b).isSome || decide (b ∈ frs X.stack)
  have st : Bh.StaysIn s'.heap := fl.1
  have gB : ∀ b o, Bh.get? b = some o → G.get? b = some o := fun b o e => by
    rw [k1 b (by simp [e])]
    exact st b o e
  have gF : ∀ b, b ∈ frs X.stack → G.get? b = s'.heap.get? b := fun b hb => k1 b (by simp [hb])
  have og : ∀ b o, G.get? b = some o → s'.heap.get? b = some o ∧ ((Bh.get? b).isSome = true ∨ b ∈ frs X.stack) := fun b o e => by
    cases q : ((Bh.get? b).isSome || decide (b ∈ frs X.stack)) with
    | false => rw [k2 b q] at e; cases e
    | true =>
      rw [k1 b q] at e
      exact ⟨e, by simpa [Bool.or_eq_true] using q⟩
  have IB2 : Inv ((X.blk s3 H3 scope ce fp).wish xe) pinsB σB H' { sB with heap := G, gens := s'.gens, drawn := s'.drawn, toks := s'.toks } := by
    refine IB.call (ch := []) ⟨fun b o e n hb _ => gB b o (ub.keep b o e n hb), fun b o e n hb _ => ?_, fun b o e n _ => ub.free b o e n, fun b o e _ => ?_, ub.tups, ub.frzs, ub.tbls⟩ (hok.kept gB) ag (fun _ z => nomatch z)
    · obtain ⟨sl, q⟩ := ub.slot b o e hb
      exact ⟨sl, by rw [gF b hb]; exact q⟩
    · by_cases hb : b ∈ frs X.stack
      · obtain ⟨sl, q⟩ := ub.slot b o e hb
        exact ⟨_, by rw [gF b hb]; exact q⟩
      · obtain ⟨o', q⟩ := ub.there b o e hb
        exact ⟨o', gB b o' q⟩
  have J : Inv X pins σ H' { sB with heap := G, gens := s'.gens, drawn := s'.drawn, toks := s'.toks } := I3.call' (ch := fp) IB2.os IB2.base IB2.hok IB2.bare fun b hb => ⟨(ff b hb).2.2.2.1, (ff b hb).2.1, (ff b hb).2.2.2.2.1, (ff b hb).2.2.2.2.2⟩
  obtain ⟨G2, l1, l2⟩ := restrict h4 fun b => (B2.get? b).isSome || decide (b ∈ frs X.stack)
  obtain ⟨st4, _, f4, _⟩ := id hh4
  have gB2 : ∀ b o, B2.get? b = some o → G2.get? b = some o := fun b o e => by
    rw [l1 b (by simp [e])]
    exact st4 b o e
  have gF2 : ∀ b, b ∈ frs X.stack → G2.get? b = h4.get? b := fun b hb => l1 b (by simp [hb])
  have og2 : ∀ b o, G2.get? b = some o → h4.get? b = some o ∧ ((B2.get? b).isSome = true ∨ b ∈ frs X.stack) := fun b o e => by
    cases q : ((B2.get? b).isSome || decide (b ∈ frs X.stack)) with
    | false => rw [l2 b q] at e; cases e
    | true =>
      rw [l1 b q] at e
      exact ⟨e, by simpa [Bool.or_eq_true] using q⟩
  have slot2 : ∀ b o, G.get? b = some o → b ∈ frs X.stack → ∃ sl, G2.get? b = some { o with slots := sl } := fun b o e hb => by
    have e1 := (og b o e).1
    have hb' : b ∈ frs (X.env :: X.outer) := by rw [← hst]; exact hb
    obtain ⟨_, o₀, e₀, hnf⟩ := fl2.2.2.1.mem hb'
    rw [e1] at e₀; cases e₀
    obtain ⟨sl, e2⟩ := up b _ e1 hnf
    have e3 : h2.get? b = some { o with slots := sl } := (hs2.2 b fun z => nCf (z ▸ hb)).trans e2
    obtain ⟨sl2, e4⟩ := up4 b _ e3 hnf
    exact ⟨sl2, by rw [gF2 b hb]; exact e4⟩
  have keep2 : ∀ b o, G.get? b = some o → b ∉ frs X.stack → b ≠ ce.locals → G2.get? b = some o := fun b o e hb ne => by
    obtain ⟨e1, h⟩ := og b o e
    rcases h with h | h
    · obtain ⟨o', q⟩ := Option.isSome_iff_exists.mp h
      have z := st b o' q
      rw [e1] at z; cases z
      exact gB2 b o (same b o ne q)
    · exact absurd h hb
  have hok2 : HOk X.prog X.w H' B2 := fun b o e => (hok b o e).stay (fun c v hc q => same c v (fun z => by
    rcases hc with hc | hc
    · rw [← hc, z, nC'] at e; cases e
    · rw [z, nC'] at hc; cases hc) q) (fun _ q => q) fun _ _ q => q
  have fpC := I3.fpOk (H' := H') fC nC'
  have J2 : Inv X pins σ H' { sB with heap := G2, gens := s'.gens, drawn := s'.drawn, toks := s'.toks } := by
    refine L2.Inv.call (s := { sB with heap := G, gens := s'.gens, drawn := s'.drawn, toks := s'.toks }) (ch := [ce.locals]) (g' := s'.gens) (d' := s'.drawn) (t' := s'.toks) J ⟨fun b o e _ hb hc => keep2 b o e hb fun z => hc (by simp [z]), fun b o e _ hb _ => slot2 b o e hb, fun _ _ _ n _ => n, fun b o e hc => ?_, fun _ _ e => e, fun _ _ _ e => e, fun b ps e => ⟨#[], by rw [e]; simp⟩⟩ (hok2.kept gB2) ag fun b hb => ?_
    · by_cases hb : b ∈ frs X.stack
      · obtain ⟨sl, q⟩ := slot2 b o e hb
        exact ⟨_, q⟩
      · exact ⟨o, keep2 b o e hb fun z => hc (by simp [z])⟩
    · have e : b = ce.locals := by simpa using hb
      subst e
      obtain ⟨_, q2, _, q4, q5, q6⟩ := fpC
      exact ⟨q4, q2, q5, q6⟩
  refine ⟨a, B2, { sB with heap := G2, gens := s'.gens, drawn := s'.drawn, toks := s'.toks }, pins, σ, H', cls, d, rfl, J2, fun b o e hb => ?_, Heap.UpToSlots.of_keeps fun b o e => (og2 b o e).1, .inr (.inr (by rw [hst]; exact hh4)), na, os, ag, hE _ _ _ hE'⟩
  obtain ⟨e', h⟩ := og2 b o e
  rcases h with h | h
  · obtain ⟨o', q⟩ := Option.isSome_iff_exists.mp h
    have z := st4 b o' q
    rw [e'] at z; cases z
    exact q
  · exact absurd h hb

/-- [elt for tg in iter], elt may raise: the def's wish stands for the element's too -/
def tLcX (wi : TI) (g : TG) (te : XK → TE) (vs : List Nat) (EE : L2.St → XK) : TE := fun σ H Q => tLc wi g tYes (te (EE σ)) vs σ H Q
theorem pe_lcX {elt tg iter : Expr} {scope : Scope} {own : List (Str × Nat)} {pos : Pos} {wi : TI} {g : TG} {te : XK → TE} (hc : X.calm = true) (hN : X.N.Nodup) (tk : Takes X W) (hst : X.stack = X.env :: X.outer) (hfr : X.env.frame = some X.env.locals) (hi : PI X tg iter wi)
    (ok : BlkOk X.N X.env.scope scope own) (hg : ∀ (s : Shared) (H : Hp) (C : Addr) (cl : List (Str × Addr)) (fp : List Addr), PG (X.blk s H scope (compEnvC scope cl C X.env) fp) tg g)
    (he : ∀ (s : Shared) (H : Hp) (C : Addr) (cl : List (Str × Addr)) (fp : List Addr) (xe : Value → Shared → Prop) (E : XK), (∀ σ', PassesAt (L2.CX X.prog X.w) ((X.blk s H scope (compEnvC scope cl C X.env) fp).wish xe) σ' E) → PE ((X.blk s H scope (compEnvC scope cl C X.env) fp).wish xe) elt (te E))
    (hs : ∀ x, foldedSetIterable iter X.env x = pure x := by intro _; rfl) :
    PE X (.ListComp elt [⟨tg, iter, [], 0⟩] scope pos) (tLcX wi g te (own.map (·.2)) (WE W)) := by
  refine ⟨fun pins s σ H Q I h => ?_⟩
  rw [eval_ListComp]
  have hfree : ∀ y ∈ scope.names, y.2 = .free → ∃ c, X.env.cells.lookup y.1 = some c := fun y hy e => (ok.free y hy e).elim (fun k => I.ok.has _ (.inl k)) fun k => I.ok.has _ (.inr k)
  refine comprehension_at (use := none) rfl hs (closure_ok hfree) ok.kind (fun y hy e => by rw [ok.uniq y hy, e]) (thn (hi.run pins s σ H _ I h) fun xv s1 hx => thn hx fun itv s2 h2 => ?_)
  obtain ⟨it, fp, tn, J, H2, rfl, I2, T, st2, f2, q⟩ := h2
  refine wpAny_newObj_type (newEnv_comp ?_) (by show 0 ≤ sizeLine; decide)
  generalize hD : s2.heap.objs.size = D
  have hDn : H2 D = none := I2.hok.fresh (Nat.le_of_eq hD)
  obtain ⟨Wn, ⟨m0, w0⟩, turn⟩ := q D hDn
  generalize hs3 : ({ s2 with heap := s2.heap.push { cls := .type "list", data := .seq ([] : List Value).toArray } } : Shared) = s3
  have h3 : s3.heap = s2.heap.push { cls := .type "list", data := .seq ([] : List Value).toArray } := by rw [← hs3]
  have I3 : Inv X pins σ (upd H2 D (.lst [])) s3 := by
    rw [← hs3]
    exact I2.laid (t' := s2.toks) (fun b o e => Heap.get?_push_of_some _ e) (Nat.le_of_eq hD) ⟨Nat.zero_le _, [], 0, .nil, by rw [← hD]; exact Heap.get?_push_size _ rfl⟩
  have f3 : ∀ b ∈ fp, FpOk X pins (upd H2 D (.lst [])) b ∧ b < s3.heap.objs.size := fun b hb => by
    obtain ⟨o, e, _⟩ := T.obj _ _ st2 b hb
    have hlt := Heap.lt_size e
    refine ⟨⟨?_, (f2 b hb).2⟩, by rw [h3, Heap.size_push]; exact Nat.lt_succ_of_lt hlt⟩
    rw [upd_ne (by rw [← hD]; exact Nat.ne_of_lt hlt)]
    exact (f2 b hb).1
  have st3 : tn 0 s3.heap := T.keep _ _ _ st2 fun b _ o e => by rw [h3]; exact Heap.get?_push_of_some _ e
  have I4 := block_start I3 ok hN f3
  have pg := hg s3 (upd H2 D (.lst [])) s3.heap.objs.size (cellsFrom (s3.heap.objs.size + 1) scope.names (cloFrom X.env.cells scope.names [])) fp
  have pe := he s3 (upd H2 D (.lst [])) s3.heap.objs.size (cellsFrom (s3.heap.objs.size + 1) scope.names (cloFrom X.env.cells scope.names [])) fp
  show codeAny _ _ (.compStart (.ListComp elt [⟨tg, iter, [], 0⟩] scope pos) 0 (.ref it) (.ref D) (compEnvC scope (cellsFrom (s3.heap.objs.size + 1) scope.names (cloFrom X.env.cells scope.names [])) s3.heap.objs.size X.env))
    (compEnds (model X.prog X.w) X.A X.xe none (EP X pins σ Q) (.ref D) (compEnvC scope (cellsFrom (s3.heap.objs.size + 1) scope.names (cloFrom X.env.cells scope.names [])) s3.heap.objs.size X.env)) { s3 with heap := pushCells (s3.heap.push { cls := .type "dict", data := .dict #[] }) scope.names }
  have nfp : ∀ b ∈ fp, (upd H2 D (.lst [])) b = none := fun b hb => (f3 b hb).1.1
  generalize hce : compEnvC scope (cellsFrom (s3.heap.objs.size + 1) scope.names (cloFrom X.env.cells scope.names [])) s3.heap.objs.size X.env = ce at I4 pg pe ⊢
  have cL : ce.locals = s3.heap.objs.size := by subst hce; rfl
  have cF : ce.frame = X.env.frame := by subst hce; rfl
  generalize upd H2 D (.lst []) = H3 at I3 I4 pg pe w0 nfp f3
  generalize hs4 : ({ s3 with heap := pushCells (s3.heap.push { cls := .type "dict", data := .dict #[] }) scope.names } : Shared) = s4 at I4 ⊢
  have st4 : tn 0 s4.heap := T.keep _ _ _ st3 fun b _ o e => by rw [← hs4]; exact pushCells_keeps _ _ _ _ (Heap.get?_push_of_some _ e)
  have pe := pe (notedBy (model X.prog X.w) X.A ce (CompFails (model X.prog X.w) X.A X.xe ce)) (WE W σ) fun σ' pins' H' s' e s'' I' c =>
    comp_raise (xe := notedBy (model X.prog X.w) X.A ce (CompFails (model X.prog X.w) X.A X.xe ce)) tk hst hfr cF I3 I' (fun b hb => (f3 b hb).1) (Nat.le_of_eq cL.symm) (fun _ _ _ h => h) c
  have stat : ∀ {σ' : L2.St} {H' : Hp} {s' : Shared}, Inv (X.blk s3 H3 scope ce fp) [] σ' H' s' → (∀ b ∈ fp, H' b = none) → ∀ b ∈ fp, FpOk (X.blk s3 H3 scope ce fp) [] H' b := fun I' hn b hb =>
    ⟨hn b hb, (I'.ok.exf b hb).1, I'.ok.exfs b hb, .inl hb, fun x c e => (I'.ok.exf b hb).2 x c e, fun p hp => absurd (show p ∈ ([] : List (Addr × Obj)) ++ [] from hp) (by simp)⟩
  have loop : codeAny (model X.prog X.w) X.A (.compLoop (.ListComp elt [⟨tg, iter, [], 0⟩] scope pos) 0 (.ref it) (.ref D) ce) (compEnds (model X.prog X.w) X.A X.xe none (EP X pins σ Q) (.ref D) ce) s4 := by
    refine compLoop_any (fun n s' => ∃ i H', Inv (X.blk s3 H3 scope ce fp) [] (wipe σ (own.map (·.2))) H' s' ∧ tn i s'.heap ∧ (∀ b ∈ fp, H' b = none) ∧ Wn i n H') ?_ m0 ⟨0, H3, I4, st4, nfp, w0⟩
    rintro n s5 ⟨i, H5, I5, st5, n5, w5⟩
    rcases turn i n H5 w5 with ⟨stop, qq⟩ | ⟨go, Nx, hNx, step⟩
    · refine thnF (T.done (X.blk s3 H3 scope ce fp) rfl rfl rfl hc i [] s5 _ H5 (fun _ _ => False) I5 (stat I5 n5) st5 stop) fun r s6 ⟨hr, I6⟩ => ?_
      subst hr
      have I7 : Inv X pins σ H5 s6 := I3.call' (ch := fp) I6.os I6.base I6.hok I6.bare fun b hb => ⟨(f3 b hb).1.2.2.2.1, (f3 b hb).1.2.1, (f3 b hb).1.2.2.2.2.1, (f3 b hb).1.2.2.2.2.2⟩
      have nC : H5 ce.locals = none := I6.free
      obtain ⟨m, hn, _⟩ := I6.loc
      refine ⟨m, hn, fun h'' sb => ?_⟩
      obtain ⟨g0, g1, _, g3, g4, g5⟩ := I3.fpOk (Nat.le_of_eq cL.symm) nC
      exact ⟨.ref D, H5, I7.turned (t' := s6.toks) (fun b o hb e => (sb.2 b hb).trans e) g0 g1 g3 g4 g5, rfl, qq⟩
    · refine thnF (T.item (X.blk s3 H3 scope ce fp) rfl rfl rfl hc i [] s5 _ H5 (fun _ _ => False) I5 (stat I5 n5) st5 go) fun r s6 ⟨u, hr, h6⟩ => ?_
      subst hr
      refine thnF h6 fun _ s7 ⟨x, H7, I7, r7, y7, st7, n7⟩ => ?_
      refine thnF (pg.run _ s7 _ H7 x u _ (I7.pinned (stat I7 n7) (T.obj _ _ st7)) r7 (step x H7 y7)) fun _ s8 ⟨σ8, H8, I8, hw8, q8⟩ => ?_
      have fin : ∀ {s' : Shared} {H' : Hp}, Inv (X.blk s3 H3 scope ce fp) ([] ++ pinsAt fp s7.heap) σ8 H' s' → Nx H' → ∃ m, m < n ∧ ∃ i H', Inv (X.blk s3 H3 scope ce fp) [] (wipe σ (own.map (·.2))) H' s' ∧ tn i s'.heap ∧ (∀ b ∈ fp, H' b = none) ∧ Wn i m H' := fun {s' H'} I' nx => by
        obtain ⟨m', hm, w'⟩ := hNx H' nx
        have pin' : ∀ b ∈ fp, ∀ o, s7.heap.get? b = some o → s'.heap.get? b = some o ∧ H' b = none := fun b hb o e =>
          let z := I'.pin (b, o) (List.mem_append_right _ (List.mem_append_right _ (mem_pinsAt hb e)))
          ⟨z.1, z.2.1⟩
        refine ⟨m', hm, i + 1, H', (I'.unpinned (pins := [])).weak (by rw [← hw8, wipe_length]) (fun j v e => ?_), T.keep _ _ _ st7 fun b hb o e => (pin' b hb o e).1, fun b hb => ?_, w'⟩
        · rw [← hw8] at e
          exact (wipe_some e).1
        · obtain ⟨o, e, _⟩ := T.obj _ _ st7 b hb
          exact (pin' b hb o e).2
      refine wpAny_tests_nil ?_
      simp only [if_true]
      refine thn (pe.run _ s8 σ8 H8 _ (I8.wish _) q8) fun z s10 ⟨yv, H10, I10, r10, acc, hD10, hz10, nx⟩ => ?_
      exact app_ok (X := X.blk s3 H3 scope ce fp) I10.unwish hD10 hz10 r10 fun s11 I11 => fin I11 nx
  exact codeAny_compStart_list loop (T.self X.A 0 _ _ _ st4 loop)
end
/-! ### methods that may raise, with default values -/
structure MetXD (P : Program) (w : World) (K : PySem.W.Frag) (mg : Str → Option Value) (base : Heap) (k : Nat) (C : Addr) (m : Str) (sp : Sp) (dvs : List V) : Prop where
  ex : ∃ (f : Addr) (fd : FuncData) (ps : List Str) (ds : List Value), Cls K C ∧ Meth K C m f ∧ FnOk P w K mg base (L2.CX P w) k f fd ps sp ∧ Binds K fd ps ds ∧ Vals dvs ds
def tMethXD (C : Addr) (m : Str) (sp : Sp) (dvs : List V) (EE : L2.St → XK) (ta : TE) (t : TA) : TE := fun σ H Q => ta σ H fun x H1 => ∃ a dx fs, x = .ref a ∧ H1 a = some (.ins C dx fs) ∧ fs.lookup m = none ∧ t σ H1 fun vs H2 => sp (x :: (vs ++ dvs)) H2 Q (EE σ)
section
variable {X : Cx} {k j : Nat} {C : Addr} {m : Str} {sp : Sp} {dvs : List V} {o e : Expr} {es : List Expr} {ta : TE} {t : TA} {apos pos : Pos} {W : WX} {E : L2.St → XK}
theorem pe_mtA {pl : Sem Bool} (c : MetXD X.prog X.w X.K X.mg X.base k C m sp dvs) (hr : Room j X.A) (hk : k ≤ j) (hx : ∀ σ, PassesAt (L2.CX X.prog X.w) X σ (E σ)) (he : PE X o ta) (ha : PA X (e :: es) t)
    (hst : starEach (e :: es) X.env = (false, eval e X.env) :: starEach es X.env := by rfl) (hpl : (backTo pos (starEach es X.env)).any (·.1) = false := by rfl)
    (ht : eval (.Call (.Attribute o m apos) (e :: es) [] pos) X.env = (do
      let ov ← eval o X.env
      standAt apos.atName
      let (f, first) ← holding [ov] (getMethod ov m pl)
      callWith pos f first (backTo pos (starEach (e :: es) X.env)) (backToKw pos (keywordEach [] X.env))) := by rfl) :
    PE X (.Call (.Attribute o m apos) (e :: es) [] pos) (tMethXD C m sp dvs E ta t) := by
  obtain ⟨f, fd, ps, ds, hc, hm, F, b, hd⟩ := c.ex
  refine ⟨fun pins s σ H Q I h => ?_⟩
  refine PySem.W.methodCall_KW (pl := pl) (thn (he.run pins s σ H _ I h) fun u s1 ⟨x, H1, I1, rx, a, dx, fs, ex, ea, l, q⟩ => ?_) ht
  subst ex
  obtain rfl : u = Value.ref a := rx
  refine getmeth_ok I1 ea hc hm l ?_
  refine PySem.W.callWith_K (first := [.ref a]) (h₀ := X.base) I.ok.mod.kin hm.kp (thn (ha.run pos pins s1 σ H1 _ I1 q) fun us s2 ⟨vs, H2, I2, r, q2⟩ => ⟨I2.kIn, ?_⟩) hst hpl
  exact run_fnSD (E := E) (us := .ref a :: us) (vs := .ref a :: vs) F (hr.mono hk) b hd (hx σ) I2 (.cons rfl r) q2
theorem pe_mtA0 {pl : Sem Bool} (c : MetXD X.prog X.w X.K X.mg X.base k C m sp dvs) (hr : Room j X.A) (hk : k ≤ j) (hx : ∀ σ, PassesAt (L2.CX X.prog X.w) X σ (E σ)) (he : PE X o ta)
    (ht : eval (.Call (.Attribute o m apos) [] [] pos) X.env = (do
      let ov ← eval o X.env
      standAt apos.atName
      let (f, first) ← holding [ov] (getMethod ov m pl)
      callWith pos f first (backTo pos (starEach [] X.env)) (backToKw pos (keywordEach [] X.env))) := by rfl) :
    PE X (.Call (.Attribute o m apos) [] [] pos) (tMethXD C m sp dvs E ta tNil) := by
  obtain ⟨f, fd, ps, ds, hc, hm, F, b, hd⟩ := c.ex
  refine ⟨fun pins s σ H Q I h => ?_⟩
  refine PySem.W.methodCall_KW (pl := pl) (thn (he.run pins s σ H _ I h) fun u s1 ⟨x, H1, I1, rx, a, dx, fs, ex, ea, l, q⟩ => ?_) ht
  subst ex
  obtain rfl : u = Value.ref a := rx
  refine getmeth_ok I1 ea hc hm l ?_
  exact PySem.W.callWith_K0 (first := [.ref a]) I1.kIn hm.kp (run_fnSD (E := E) (us := [.ref a]) (vs := [.ref a]) F (hr.mono hk) b hd (hx σ) I1 (.cons rfl .nil) q)
theorem pe_mtXD {pl : Sem Bool} (c : MetXD X.prog X.w X.K X.mg X.base k C m sp dvs) (hr : Room j X.A) (hk : k ≤ j) (tk : Takes X W) (he : PE X o ta) (ha : PA X (e :: es) t)
    (hst : starEach (e :: es) X.env = (false, eval e X.env) :: starEach es X.env := by rfl) (hpl : (backTo pos (starEach es X.env)).any (·.1) = false := by rfl)
    (ht : eval (.Call (.Attribute o m apos) (e :: es) [] pos) X.env = (do
      let ov ← eval o X.env
      standAt apos.atName
      let (f, first) ← holding [ov] (getMethod ov m pl)
      callWith pos f first (backTo pos (starEach (e :: es) X.env)) (backToKw pos (keywordEach [] X.env))) := by rfl) :
    PE X (.Call (.Attribute o m apos) (e :: es) [] pos) (tMethXD C m sp dvs (WE W) ta t) := pe_mtA c hr hk (fun σ => passAt tk σ) he ha hst hpl ht
theorem pe_mtXD0 {pl : Sem Bool} (c : MetXD X.prog X.w X.K X.mg X.base k C m sp dvs) (hr : Room j X.A) (hk : k ≤ j) (tk : Takes X W) (he : PE X o ta)
    (ht : eval (.Call (.Attribute o m apos) [] [] pos) X.env = (do
      let ov ← eval o X.env
      standAt apos.atName
      let (f, first) ← holding [ov] (getMethod ov m pl)
      callWith pos f first (backTo pos (starEach [] X.env)) (backToKw pos (keywordEach [] X.env))) := by rfl) :
    PE X (.Call (.Attribute o m apos) [] [] pos) (tMethXD C m sp dvs (WE W) ta tNil) := pe_mtA0 c hr hk (fun σ => passAt tk σ) he ht
end
end Vf

namespace Vf
open PySem L2 PySem.Spec PyProof.Rows He RZ
/-! ### what may raise, called where it does not -/
theorem passA0 {X : Cx} {σ : L2.St} : PassesAt (L2.CX X.prog X.w) X σ E0 := fun _ _ _ _ _ _ c => by
  obtain ⟨_, _, _, _, _, _, _, _, _, _, _, _, hE⟩ := c
  exact False.elim hE
theorem pe_cA {X : Cx} {k j : Nat} {x : Str} {sp : Sp} {p pos : Pos} {e : Expr} {es : List Expr} {t : TA} (c : CalX X.prog X.w X.K X.mg X.base k x sp) (hr : Room j X.A) (hk : k ≤ j) (hg : Gl X x) (ha : PA X (e :: es) t)
    (hdb : (x == ("__debug__" : Str)) = false := by decide) (he : starEach (e :: es) X.env = (false, eval e X.env) :: starEach es X.env := by rfl)
    (hpl : (backTo pos (starEach es X.env)).any (·.1) = false := by rfl) : PE X (.Call (.Name x p) (e :: es) [] pos) (tCallS sp (fun _ => E0) t) := by
  obtain ⟨f, fd, ps, F, hm, kp, b⟩ := c.ex
  exact pe_callS F (hr.mono hk) hg hm kp b (fun σ => passA0) ha hdb he hpl
end Vf

namespace Vk49
open PySem PySem.Spec PyProof.Rows L2 Vf
def topS (i : Nat) : Stmt := PySem.Challenge.pw_folderkin_k49_whole_any_bytes_as_letters.main.body.getD i (.Pass ⟨0, 0, 0, 0⟩)
abbrev s_FolderkinError___init__ : Stmt := inClass (topS 1) 0
abbrev N_FolderkinError___init__ : List Str := ["self", "place"]
theorem sc_FolderkinError___init__ : FnScope N_FolderkinError___init__ ["self", "place"] (defScope s_FolderkinError___init__) := ⟨rfl, rfl, rfl, by decide +kernel, rfl, by decide +kernel, by decide +kernel⟩
abbrev s_block_number : Stmt := topS 6
abbrev N_block_number : List Str := ["data", "number", "byte"]
theorem sc_block_number : FnScope N_block_number ["data"] (defScope s_block_number) := ⟨rfl, rfl, rfl, by decide +kernel, rfl, by decide +kernel, by decide +kernel⟩
abbrev s_block_size : Stmt := topS 7
abbrev N_block_size : List Str := ["number", "size"]
theorem sc_block_size : FnScope N_block_size ["number"] (defScope s_block_size) := ⟨rfl, rfl, rfl, by decide +kernel, rfl, by decide +kernel, by decide +kernel⟩
abbrev s_block_bytes : Stmt := topS 8
abbrev N_block_bytes : List Str := ["number", "size", "behind"]
theorem sc_block_bytes : FnScope N_block_bytes ["number"] (defScope s_block_bytes) := ⟨rfl, rfl, rfl, by decide +kernel, rfl, by decide +kernel, by decide +kernel⟩
abbrev s_Entry___init__ : Stmt := inClass (topS 10) 0
abbrev N_Entry___init__ : List Str := ["self", "name", "vector", "height", "maker", "deleted", "time", "blocks"]
theorem sc_Entry___init__ : FnScope N_Entry___init__ ["self", "name", "vector", "height", "maker", "deleted", "time", "blocks"] (defScope s_Entry___init__) := ⟨rfl, rfl, rfl, by decide +kernel, rfl, by decide +kernel, by decide +kernel⟩
abbrev s_Entry___eq__ : Stmt := inClass (topS 10) 1
abbrev N_Entry___eq__ : List Str := ["self", "other"]
theorem sc_Entry___eq__ : FnScope N_Entry___eq__ ["self", "other"] (defScope s_Entry___eq__) := ⟨rfl, rfl, rfl, by decide +kernel, rfl, by decide +kernel, by decide +kernel⟩
abbrev s_character_of : Stmt := topS 14
abbrev N_character_of : List Str := ["code", "char"]
theorem sc_character_of : FnScope N_character_of ["code"] (defScope s_character_of) := ⟨rfl, rfl, rfl, by decide +kernel, rfl, by decide +kernel, by decide +kernel⟩
abbrev s_number_bytes : Stmt := topS 19
abbrev N_number_bytes : List Str := ["number", "behind"]
theorem sc_number_bytes : FnScope N_number_bytes ["number"] (defScope s_number_bytes) := ⟨rfl, rfl, rfl, by decide +kernel, rfl, by decide +kernel, by decide +kernel⟩
abbrev s_name_bytes : Stmt := topS 20
abbrev N_name_bytes : List Str := ["name", "char"]
theorem sc_name_bytes : FnScope N_name_bytes ["name"] (defScope s_name_bytes) := ⟨rfl, rfl, rfl, by decide +kernel, rfl, by decide +kernel, by decide +kernel⟩
abbrev s_row_bytes : Stmt := topS 21
abbrev N_row_bytes : List Str := ["row"]
theorem sc_row_bytes : FnScope N_row_bytes ["row"] (defScope s_row_bytes) := ⟨rfl, rfl, rfl, by decide +kernel, rfl, by decide +kernel, by decide +kernel⟩
abbrev s_vector_bytes : Stmt := topS 22
abbrev N_vector_bytes : List Str := ["vector", "data", "device", "count"]
theorem sc_vector_bytes : FnScope N_vector_bytes ["vector"] (defScope s_vector_bytes) := ⟨rfl, rfl, rfl, by decide +kernel, rfl, by decide +kernel, by decide +kernel⟩
abbrev s_entry_bytes : Stmt := topS 23
abbrev N_entry_bytes : List Str := ["entry", "number", "device", "made", "data", "block"]
theorem sc_entry_bytes : FnScope N_entry_bytes ["entry", "number"] (defScope s_entry_bytes) := ⟨rfl, rfl, rfl, by decide +kernel, rfl, by decide +kernel, by decide +kernel⟩
abbrev s_Reader___init__ : Stmt := inClass (topS 24) 0
abbrev N_Reader___init__ : List Str := ["self", "data", "at"]
theorem sc_Reader___init__ : FnScope N_Reader___init__ ["self", "data", "at"] (defScope s_Reader___init__) := ⟨rfl, rfl, rfl, by decide +kernel, rfl, by decide +kernel, by decide +kernel⟩
abbrev s_Reader_byte : Stmt := inClass (topS 24) 1
abbrev N_Reader_byte : List Str := ["self", "least", "most", "value"]
theorem sc_Reader_byte : FnScope N_Reader_byte ["self", "least", "most"] (defScope s_Reader_byte) := ⟨rfl, rfl, rfl, by decide +kernel, rfl, by decide +kernel, by decide +kernel⟩
abbrev s_Reader_number : Stmt := inClass (topS 24) 2
abbrev N_Reader_number : List Str := ["self", "least", "value", "left", "bound"]
theorem sc_Reader_number : FnScope N_Reader_number ["self", "least"] (defScope s_Reader_number) := ⟨rfl, rfl, rfl, by decide +kernel, rfl, by decide +kernel, by decide +kernel⟩
abbrev s_Reader_device : Stmt := inClass (topS 24) 3
abbrev N_Reader_device : List Str := ["self"]
theorem sc_Reader_device : FnScope N_Reader_device ["self"] (defScope s_Reader_device) := ⟨rfl, rfl, rfl, by decide +kernel, rfl, by decide +kernel, by decide +kernel⟩
abbrev s_Reader_name : Stmt := inClass (topS 24) 4
abbrev N_Reader_name : List Str := ["self", "size", "_"]
theorem sc_Reader_name : FnScope N_Reader_name ["self"] (defScope s_Reader_name) := ⟨rfl, rfl, rfl, by decide +kernel, rfl, by decide +kernel, by decide +kernel⟩
abbrev s_Reader__character : Stmt := inClass (topS 24) 5
abbrev N_Reader__character : List Str := ["self", "at", "char"]
theorem sc_Reader__character : FnScope N_Reader__character ["self"] (defScope s_Reader__character) := ⟨rfl, rfl, rfl, by decide +kernel, rfl, by decide +kernel, by decide +kernel⟩
abbrev s_Reader_vector : Stmt := inClass (topS 24) 6
abbrev N_Reader_vector : List Str := ["self", "size", "pairs", "device", "left"]
theorem sc_Reader_vector : FnScope N_Reader_vector ["self"] (defScope s_Reader_vector) := ⟨rfl, rfl, rfl, by decide +kernel, rfl, by decide +kernel, by decide +kernel⟩
abbrev s_Reader_row : Stmt := inClass (topS 24) 7
abbrev N_Reader_row : List Str := ["self", "least", "size", "_"]
theorem sc_Reader_row : FnScope N_Reader_row ["self", "least"] (defScope s_Reader_row) := ⟨rfl, rfl, rfl, by decide +kernel, rfl, by decide +kernel, by decide +kernel⟩
abbrev s_Reader_block : Stmt := inClass (topS 24) 8
abbrev N_Reader_block : List Str := ["self"]
theorem sc_Reader_block : FnScope N_Reader_block ["self"] (defScope s_Reader_block) := ⟨rfl, rfl, rfl, by decide +kernel, rfl, by decide +kernel, by decide +kernel⟩
abbrev s_Reader_entry : Stmt := inClass (topS 24) 9
abbrev N_Reader_entry : List Str := ["self", "number", "name", "vector", "height", "device", "made", "deleted", "time", "blocks"]
theorem sc_Reader_entry : FnScope N_Reader_entry ["self"] (defScope s_Reader_entry) := ⟨rfl, rfl, rfl, by decide +kernel, rfl, by decide +kernel, by decide +kernel⟩
abbrev s_Reader__blocks : Stmt := inClass (topS 24) 10
abbrev N_Reader__blocks : List Str := ["self", "most", "size", "blocks", "left"]
theorem sc_Reader__blocks : FnScope N_Reader__blocks ["self", "most"] (defScope s_Reader__blocks) := ⟨rfl, rfl, rfl, by decide +kernel, rfl, by decide +kernel, by decide +kernel⟩
abbrev s_encode : Stmt := topS 33
abbrev N_encode : List Str := ["letter", "word", "_", "name", "index", "block", "data"]
theorem sc_encode : FnScope N_encode ["letter"] (defScope s_encode) := ⟨rfl, rfl, rfl, by decide +kernel, rfl, by decide +kernel, by decide +kernel⟩
abbrev s_entries_bytes : Stmt := topS 34
abbrev N_entries_bytes : List Str := ["letter", "_", "behind", "upto", "pairs", "data", "entry", "number"]
theorem sc_entries_bytes : FnScope N_entries_bytes ["letter"] (defScope s_entries_bytes) := ⟨rfl, rfl, rfl, by decide +kernel, rfl, by decide +kernel, by decide +kernel⟩
abbrev s_decode : Stmt := topS 35
abbrev N_decode : List Str := ["data", "reader", "letter"]
theorem sc_decode : FnScope N_decode ["data"] (defScope s_decode) := ⟨rfl, rfl, rfl, by decide +kernel, rfl, by decide +kernel, by decide +kernel⟩
abbrev s_decode_all : Stmt := topS 36
abbrev N_decode_all : List Str := ["data", "reader", "letters"]
theorem sc_decode_all : FnScope N_decode_all ["data"] (defScope s_decode_all) := ⟨rfl, rfl, rfl, by decide +kernel, rfl, by decide +kernel, by decide +kernel⟩
abbrev s_next_letter : Stmt := topS 37
abbrev N_next_letter : List Str := ["reader", "kind"]
theorem sc_next_letter : FnScope N_next_letter ["reader"] (defScope s_next_letter) := ⟨rfl, rfl, rfl, by decide +kernel, rfl, by decide +kernel, by decide +kernel⟩
abbrev s_next_entries : Stmt := topS 38
abbrev N_next_entries : List Str := ["reader", "behind", "upto", "size", "_"]
theorem sc_next_entries : FnScope N_next_entries ["reader"] (defScope s_next_entries) := ⟨rfl, rfl, rfl, by decide +kernel, rfl, by decide +kernel, by decide +kernel⟩
abbrev s_law_draw : Stmt := topS 40
abbrev N_law_draw : List Str := ["state", "script", "size", "at", "cell", "first", "digit"]
theorem sc_law_draw : FnScope N_law_draw ["state", "script", "size"] (defScope s_law_draw) := ⟨rfl, rfl, rfl, by decide +kernel, rfl, by decide +kernel, by decide +kernel⟩
abbrev s_law_all : Stmt := topS 41
abbrev N_law_all : List Str := []
theorem sc_law_all : FnScope N_law_all [] (defScope s_law_all) := ⟨rfl, rfl, rfl, by decide +kernel, rfl, by decide +kernel, by decide +kernel⟩
abbrev s_law_count : Stmt := topS 42
abbrev N_law_count : List Str := ["state", "script", "least", "kind"]
theorem sc_law_count : FnScope N_law_count ["state", "script", "least"] (defScope s_law_count) := ⟨rfl, rfl, rfl, by decide +kernel, rfl, by decide +kernel, by decide +kernel⟩
abbrev s_law_name : Stmt := topS 43
abbrev N_law_name : List Str := ["state", "script", "size", "k"]
theorem sc_law_name : FnScope N_law_name ["state", "script"] (defScope s_law_name) := ⟨rfl, rfl, rfl, by decide +kernel, rfl, by decide +kernel, by decide +kernel⟩
abbrev s_law_vector : Stmt := topS 44
abbrev N_law_vector : List Str := ["state", "script", "mask", "k"]
theorem sc_law_vector : FnScope N_law_vector ["state", "script"] (defScope s_law_vector) := ⟨rfl, rfl, rfl, by decide +kernel, rfl, by decide +kernel, by decide +kernel⟩
abbrev s_law_block : Stmt := topS 45
abbrev N_law_block : List Str := ["row", "value", "byte"]
theorem sc_law_block : FnScope N_law_block ["row"] (defScope s_law_block) := ⟨rfl, rfl, rfl, by decide +kernel, rfl, by decide +kernel, by decide +kernel⟩
abbrev s_law_row : Stmt := topS 46
abbrev N_law_row : List Str := ["state", "script", "size", "k"]
theorem sc_law_row : FnScope N_law_row ["state", "script", "size"] (defScope s_law_row) := ⟨rfl, rfl, rfl, by decide +kernel, rfl, by decide +kernel, by decide +kernel⟩
abbrev s_law_entry : Stmt := topS 47
abbrev N_law_entry : List Str := ["state", "script", "deleted", "rows", "maker", "fields", "k", "row"]
theorem sc_law_entry : FnScope N_law_entry ["state", "script"] (defScope s_law_entry) := ⟨rfl, rfl, rfl, by decide +kernel, rfl, by decide +kernel, by decide +kernel⟩
abbrev s_law_four : Stmt := topS 48
abbrev N_law_four : List Str := ["number"]
theorem sc_law_four : FnScope N_law_four ["number"] (defScope s_law_four) := ⟨rfl, rfl, rfl, by decide +kernel, rfl, by decide +kernel, by decide +kernel⟩
abbrev s_law_name_written : Stmt := topS 49
abbrev N_law_name_written : List Str := ["name", "char"]
theorem sc_law_name_written : FnScope N_law_name_written ["name"] (defScope s_law_name_written) := ⟨rfl, rfl, rfl, by decide +kernel, rfl, by decide +kernel, by decide +kernel⟩
abbrev s_law_vector_written : Stmt := topS 50
abbrev N_law_vector_written : List Str := ["vector", "data", "device", "count"]
theorem sc_law_vector_written : FnScope N_law_vector_written ["vector"] (defScope s_law_vector_written) := ⟨rfl, rfl, rfl, by decide +kernel, rfl, by decide +kernel, by decide +kernel⟩
abbrev s_law_block_written : Stmt := topS 51
abbrev N_law_block_written : List Str := ["block", "row", "k"]
theorem sc_law_block_written : FnScope N_law_block_written ["block"] (defScope s_law_block_written) := ⟨rfl, rfl, rfl, by decide +kernel, rfl, by decide +kernel, by decide +kernel⟩
abbrev s_law_entry_written : Stmt := topS 52
abbrev N_law_entry_written : List Str := ["fields", "number", "name", "vector", "height", "maker", "deleted", "time", "blocks", "data", "block"]
theorem sc_law_entry_written : FnScope N_law_entry_written ["fields", "number"] (defScope s_law_entry_written) := ⟨rfl, rfl, rfl, by decide +kernel, rfl, by decide +kernel, by decide +kernel⟩
abbrev s_law_made : Stmt := topS 53
abbrev N_law_made : List Str := ["fields", "name", "vector", "height", "maker", "deleted", "time", "blocks"]
theorem sc_law_made : FnScope N_law_made ["fields"] (defScope s_law_made) := ⟨rfl, rfl, rfl, by decide +kernel, rfl, by decide +kernel, by decide +kernel⟩
abbrev s_law_fields : Stmt := topS 54
abbrev N_law_fields : List Str := ["entry"]
theorem sc_law_fields : FnScope N_law_fields ["entry"] (defScope s_law_fields) := ⟨rfl, rfl, rfl, by decide +kernel, rfl, by decide +kernel, by decide +kernel⟩
abbrev s_law_take : Stmt := topS 55
abbrev N_law_take : List Str := ["data", "box", "least", "most"]
theorem sc_law_take : FnScope N_law_take ["data", "box", "least", "most"] (defScope s_law_take) := ⟨rfl, rfl, rfl, by decide +kernel, rfl, by decide +kernel, by decide +kernel⟩
abbrev s_law_number_read : Stmt := topS 56
abbrev N_law_number_read : List Str := ["data", "box", "least", "value", "k"]
theorem sc_law_number_read : FnScope N_law_number_read ["data", "box", "least"] (defScope s_law_number_read) := ⟨rfl, rfl, rfl, by decide +kernel, rfl, by decide +kernel, by decide +kernel⟩
abbrev s_law_name_read : Stmt := topS 57
abbrev N_law_name_read : List Str := ["data", "box", "name", "k", "code", "found", "char"]
theorem sc_law_name_read : FnScope N_law_name_read ["data", "box"] (defScope s_law_name_read) := ⟨rfl, rfl, rfl, by decide +kernel, rfl, by decide +kernel, by decide +kernel⟩
abbrev s_law_vector_read : Stmt := topS 58
abbrev N_law_vector_read : List Str := ["data", "box", "pairs", "device", "many", "k"]
theorem sc_law_vector_read : FnScope N_law_vector_read ["data", "box"] (defScope s_law_vector_read) := ⟨rfl, rfl, rfl, by decide +kernel, rfl, by decide +kernel, by decide +kernel⟩
abbrev s_law_row_read : Stmt := topS 59
abbrev N_law_row_read : List Str := ["data", "box", "least", "k"]
theorem sc_law_row_read : FnScope N_law_row_read ["data", "box", "least"] (defScope s_law_row_read) := ⟨rfl, rfl, rfl, by decide +kernel, rfl, by decide +kernel, by decide +kernel⟩
abbrev s_law_entry_read : Stmt := topS 60
abbrev N_law_entry_read : List Str := ["data", "box", "number", "name", "vector", "height", "device", "maker", "deleted", "time", "many", "blocks", "k"]
theorem sc_law_entry_read : FnScope N_law_entry_read ["data", "box"] (defScope s_law_entry_read) := ⟨rfl, rfl, rfl, by decide +kernel, rfl, by decide +kernel, by decide +kernel⟩
abbrev s_law_letter : Stmt := topS 61
abbrev N_law_letter : List Str := ["state", "script", "kind", "row", "block", "rows", "k"]
theorem sc_law_letter : FnScope N_law_letter ["state", "script"] (defScope s_law_letter) := ⟨rfl, rfl, rfl, by decide +kernel, rfl, by decide +kernel, by decide +kernel⟩
abbrev s_law_letter_written : Stmt := topS 62
abbrev N_law_letter_written : List Str := ["letter", "kind", "data", "fields", "number"]
theorem sc_law_letter_written : FnScope N_law_letter_written ["letter"] (defScope s_law_letter_written) := ⟨rfl, rfl, rfl, by decide +kernel, rfl, by decide +kernel, by decide +kernel⟩
abbrev s_law_real : Stmt := topS 63
abbrev N_law_real : List Str := ["letter", "fields", "number"]
theorem sc_law_real : FnScope N_law_real ["letter"] (defScope s_law_real) := ⟨rfl, rfl, rfl, by decide +kernel, rfl, by decide +kernel, by decide +kernel⟩
abbrev s_law_plain : Stmt := topS 64
abbrev N_law_plain : List Str := ["letter", "entry", "number"]
theorem sc_law_plain : FnScope N_law_plain ["letter"] (defScope s_law_plain) := ⟨rfl, rfl, rfl, by decide +kernel, rfl, by decide +kernel, by decide +kernel⟩
abbrev s_law_decoded : Stmt := topS 65
abbrev N_law_decoded : List Str := ["data", "error"]
theorem sc_law_decoded : FnScope N_law_decoded ["data"] (defScope s_law_decoded) := ⟨rfl, rfl, rfl, by decide +kernel, rfl, by decide +kernel, by decide +kernel⟩
abbrev s_law_all_decoded : Stmt := topS 66
abbrev N_law_all_decoded : List Str := ["data", "found", "error", "letter"]
theorem sc_law_all_decoded : FnScope N_law_all_decoded ["data"] (defScope s_law_all_decoded) := ⟨rfl, rfl, rfl, by decide +kernel, rfl, by decide +kernel, by decide +kernel⟩
abbrev s_law_letter_read : Stmt := topS 67
abbrev N_law_letter_read : List Str := ["data", "box", "kind", "behind", "upto", "many", "rows", "k", "name", "index", "block"]
theorem sc_law_letter_read : FnScope N_law_letter_read ["data", "box"] (defScope s_law_letter_read) := ⟨rfl, rfl, rfl, by decide +kernel, rfl, by decide +kernel, by decide +kernel⟩
abbrev s_law_due : Stmt := topS 68
abbrev N_law_due : List Str := ["data", "box", "letter"]
theorem sc_law_due : FnScope N_law_due ["data"] (defScope s_law_due) := ⟨rfl, rfl, rfl, by decide +kernel, rfl, by decide +kernel, by decide +kernel⟩
abbrev s_law_all_due : Stmt := topS 69
abbrev N_law_all_due : List Str := ["data", "box", "letters", "turn"]
theorem sc_law_all_due : FnScope N_law_all_due ["data"] (defScope s_law_all_due) := ⟨rfl, rfl, rfl, by decide +kernel, rfl, by decide +kernel, by decide +kernel⟩
abbrev s_law_changed : Stmt := topS 70
abbrev N_law_changed : List Str := ["state", "script", "data", "at", "other", "byte", "kind"]
theorem sc_law_changed : FnScope N_law_changed ["state", "script", "data"] (defScope s_law_changed) := ⟨rfl, rfl, rfl, by decide +kernel, rfl, by decide +kernel, by decide +kernel⟩
abbrev s_law : Stmt := topS 71
abbrev N_law : List Str := ["script", "state", "data", "k", "turn", "given", "due", "found", "many", "told"]
theorem sc_law : FnScope N_law ["script"] (defScope s_law) := ⟨rfl, rfl, rfl, by decide +kernel, rfl, by decide +kernel, by decide +kernel⟩
structure Txt (K : PySem.W.Frag) (mg : Str → Option Value) : Prop where
  f_bool : mg "bool" = none
  f_int : mg "int" = none
  f_isinstance : mg "isinstance" = none
  f_len : mg "len" = none
  f_list : mg "list" = none
  f_ord : mg "ord" = none
  f_range : mg "range" = none
  f_reversed : mg "reversed" = none
  f_tuple : mg "tuple" = none
  c_BLOCK : ∃ u, mg "BLOCK" = some u ∧ RelV (.int 4) u
  c_CHARACTERS : ∃ u, mg "CHARACTERS" = some u ∧ RelV (.str "-./0123456789ABCDEFGHIJKLMNOPQRSTUVWXYZ_abcdefghijklmnopqrstuvwxyz~") u
  c_MOST_NAME : ∃ u, mg "MOST_NAME" = some u ∧ RelV (.int 40) u
  c__ASK : ∃ u, mg "_ASK" = some u ∧ RelV (.int 2) u
  c__BLOCK : ∃ u, mg "_BLOCK" = some u ∧ RelV (.int 5) u
  c__ENTRIES : ∃ u, mg "_ENTRIES" = some u ∧ RelV (.int 3) u
  c__HELLO : ∃ u, mg "_HELLO" = some u ∧ RelV (.int 1) u
  c__MOST_BLOCKS : ∃ u, mg "_MOST_BLOCKS" = some u ∧ RelV (.int 255) u
  c__MOST_DEVICE : ∃ u, mg "_MOST_DEVICE" = some u ∧ RelV (.int 9) u
  c__MOST_INDEX : ∃ u, mg "_MOST_INDEX" = some u ∧ RelV (.int 254) u
  c__NUMBER_BYTES : ∃ u, mg "_NUMBER_BYTES" = some u ∧ RelV (.int 4) u
  c__REFUSED : ∃ u, mg "_REFUSED" = some u ∧ RelV (.int 6) u
  c__REQUEST : ∃ u, mg "_REQUEST" = some u ∧ RelV (.int 4) u
  er_InvalidBytes : ErrAll K mg "InvalidBytes" "FolderkinError"
  cl_Entry : Cls K (He.ga K "Entry")
  g_Entry : mg "Entry" = some (.ref (He.ga K "Entry"))
  no_Entry_name : NoAttr K (He.ga K "Entry") "name"
  no_Entry_vector : NoAttr K (He.ga K "Entry") "vector"
  no_Entry_height : NoAttr K (He.ga K "Entry") "height"
  no_Entry_maker : NoAttr K (He.ga K "Entry") "maker"
  no_Entry_deleted : NoAttr K (He.ga K "Entry") "deleted"
  no_Entry_time : NoAttr K (He.ga K "Entry") "time"
  no_Entry_blocks : NoAttr K (He.ga K "Entry") "blocks"
  ct_Entry : ClsT K "Entry"
  cq_Entry : ClsL K "Entry"
  cl_Reader : Cls K (He.ga K "Reader")
  g_Reader : mg "Reader" = some (.ref (He.ga K "Reader"))
  no_Reader__data : NoAttr K (He.ga K "Reader") "_data"
  no_Reader_at : NoAttr K (He.ga K "Reader") "at"
def bnum (c : List Int) : Int := c.foldl (fun n b => n * 256 + b) 1
def bsize (n : Int) : Int := if n / 256 = 1 then 1 else if n / 65536 = 1 then 2 else if n / 16777216 = 1 then 3 else if n / 4294967296 = 1 then 4 else 0
def bbytes (n : Int) : List Int :=
  if bsize n = 1 then [n % 256] else if bsize n = 2 then [n / 256 % 256, n % 256] else if bsize n = 3 then [n / 65536 % 256, n / 256 % 256, n % 256]
  else if bsize n = 4 then [n / 16777216 % 256, n / 65536 % 256, n / 256 % 256, n % 256] else []
def isB (c : List Int) : Prop := ∀ b ∈ c, 0 ≤ b ∧ b < 256
def chunks : List Int → List (List Int)
  | [] => []
  | [a] => [[a]]
  | [a, b] => [[a, b]]
  | [a, b, c] => [[a, b, c]]
  | a :: b :: c :: d :: r => [a, b, c, d] :: chunks r
theorem chunks_flat : ∀ xs, (chunks xs).flatten = xs
  | [] => rfl
  | [a] => rfl
  | [a, b] => rfl
  | [a, b, c] => rfl
  | a :: b :: c :: d :: r => by
    show [a, b, c, d] ++ (chunks r).flatten = _
    rw [chunks_flat r]
    rfl
theorem chunks_len : ∀ xs, (chunks xs).length = (xs.length + 3) / 4
  | [] => rfl
  | [a] => by simp [chunks]
  | [a, b] => by simp [chunks]
  | [a, b, c] => by simp [chunks]
  | a :: b :: c :: d :: r => by
    have ih := chunks_len r
    show (chunks r).length + 1 = (r.length + 4 + 3) / 4
    omega
theorem chunks_get : ∀ (xs : List Int) (i : Nat), i < (xs.length + 3) / 4 → (chunks xs)[i]? = some ((xs.drop (4 * i)).take 4)
  | [], i, h => by simp at h
  | [a], i, h => by
    have e : i = 0 := by simp at h; omega
    subst e; rfl
  | [a, b], i, h => by
    have e : i = 0 := by simp at h; omega
    subst e; rfl
  | [a, b, c], i, h => by
    have e : i = 0 := by simp at h; omega
    subst e; rfl
  | a :: b :: c :: d :: r, 0, h => rfl
  | a :: b :: c :: d :: r, i + 1, h => by
    have ih := chunks_get r i (by simp at h; omega)
    show (chunks r)[i]? = _
    rw [ih]
    have e : 4 * (i + 1) = (4 * i) + 1 + 1 + 1 + 1 := by omega
    rw [e]
    rfl
theorem chunks_map (xs : List Int) : chunks xs = (List.range ((xs.length + 3) / 4)).map fun i => (xs.drop (4 * i)).take 4 := by
  refine List.ext_getElem? fun i => ?_
  by_cases h : i < (xs.length + 3) / 4
  · rw [chunks_get xs i h, List.getElem?_map, List.getElem?_range h]
    rfl
  · rw [List.getElem?_eq_none (by rw [chunks_len]; omega), List.getElem?_eq_none (by simp; omega)]
/-- a piece: one to four bytes -/
structure Piece (c : List Int) : Prop where
  b : isB c
  h1 : 1 ≤ c.length
  h4 : c.length ≤ 4
theorem chunks_piece : ∀ (xs : List Int), isB xs → ∀ c ∈ chunks xs, Piece c
  | [], _, c, h => by cases h
  | [a], hb, c, h => by
    rw [List.mem_singleton.mp h]; exact ⟨hb, by simp, by simp⟩
  | [a, b], hb, c, h => by
    rw [List.mem_singleton.mp h]; exact ⟨hb, by simp, by simp⟩
  | [a, b, c'], hb, c, h => by
    rw [List.mem_singleton.mp h]; exact ⟨hb, by simp, by simp⟩
  | a :: b :: c' :: d :: r, hb, c, h => by
    rcases List.mem_cons.mp h with e | h
    · rw [e]
      exact ⟨fun x hx => hb x (by simp at hx ⊢; rcases hx with q | q | q | q <;> simp [q]), by simp, by simp⟩
    · exact chunks_piece r (fun x hx => hb x (by simp [hx])) c h
theorem Piece.cases {c : List Int} {P : List Int → Prop} (h : Piece c) (p1 : ∀ a, 0 ≤ a ∧ a < 256 → P [a]) (p2 : ∀ a b, 0 ≤ a ∧ a < 256 → 0 ≤ b ∧ b < 256 → P [a, b])
    (p3 : ∀ a b d, 0 ≤ a ∧ a < 256 → 0 ≤ b ∧ b < 256 → 0 ≤ d ∧ d < 256 → P [a, b, d]) (p4 : ∀ a b d e, 0 ≤ a ∧ a < 256 → 0 ≤ b ∧ b < 256 → 0 ≤ d ∧ d < 256 → 0 ≤ e ∧ e < 256 → P [a, b, d, e]) : P c := by
  obtain ⟨hb, h1, h4⟩ := h
  match c, hb, h1, h4 with
  | [a], hb, _, _ => exact p1 a (hb a (by simp))
  | [a, b], hb, _, _ => exact p2 a b (hb a (by simp)) (hb b (by simp))
  | [a, b, d], hb, _, _ => exact p3 a b d (hb a (by simp)) (hb b (by simp)) (hb d (by simp))
  | [a, b, d, e], hb, _, _ => exact p4 a b d e (hb a (by simp)) (hb b (by simp)) (hb d (by simp)) (hb e (by simp))
  | _ :: _ :: _ :: _ :: _ :: _, _, _, h4 => simp at h4
theorem bnum1 (a : Int) : bnum [a] = 256 + a := by simp [bnum]
theorem bnum2 (a b : Int) : bnum [a, b] = 65536 + a * 256 + b := by simp [bnum]; omega
theorem bnum3 (a b d : Int) : bnum [a, b, d] = 16777216 + a * 65536 + b * 256 + d := by simp [bnum]; omega
theorem bnum4 (a b d e : Int) : bnum [a, b, d, e] = 4294967296 + a * 16777216 + b * 65536 + d * 256 + e := by simp [bnum]; omega
theorem bsize_bnum {c : List Int} (h : Piece c) : bsize (bnum c) = c.length := by
  refine h.cases (P := fun c => bsize (bnum c) = c.length) (fun a ha => ?_) (fun a b ha hb => ?_) (fun a b d ha hb hd => ?_) (fun a b d e ha hb hd he => ?_)
  · rw [bnum1]; unfold bsize; rw [if_pos (by omega)]; rfl
  · rw [bnum2]; unfold bsize; rw [if_neg (by omega), if_pos (by omega)]; rfl
  · rw [bnum3]; unfold bsize; rw [if_neg (by omega), if_neg (by omega), if_pos (by omega)]; rfl
  · rw [bnum4]; unfold bsize; rw [if_neg (by omega), if_neg (by omega), if_neg (by omega), if_pos (by omega)]; rfl
theorem bbytes_bnum {c : List Int} (h : Piece c) : bbytes (bnum c) = c := by
  have hs := bsize_bnum h
  unfold bbytes
  rw [hs]
  refine h.cases (P := fun c => (if (c.length : Int) = 1 then [bnum c % 256] else if (c.length : Int) = 2 then [bnum c / 256 % 256, bnum c % 256] else if (c.length : Int) = 3 then [bnum c / 65536 % 256, bnum c / 256 % 256, bnum c % 256]
    else if (c.length : Int) = 4 then [bnum c / 16777216 % 256, bnum c / 65536 % 256, bnum c / 256 % 256, bnum c % 256] else []) = c) (fun a ha => ?_) (fun a b ha hb => ?_) (fun a b d ha hb hd => ?_) (fun a b d e ha hb hd he => ?_)
  · rw [if_pos (show ((([a] : List Int).length : Nat) : Int) = 1 from rfl), bnum1]
    congr 1
    omega
  · rw [if_neg (by simp), if_pos (show ((([a, b] : List Int).length : Nat) : Int) = 2 from rfl), bnum2]
    have e1 : (65536 + a * 256 + b) / 256 % 256 = a := by omega
    have e2 : (65536 + a * 256 + b) % 256 = b := by omega
    rw [e1, e2]
  · rw [if_neg (by simp), if_neg (by simp), if_pos (show ((([a, b, d] : List Int).length : Nat) : Int) = 3 from rfl), bnum3]
    have e1 : (16777216 + a * 65536 + b * 256 + d) / 65536 % 256 = a := by omega
    have e2 : (16777216 + a * 65536 + b * 256 + d) / 256 % 256 = b := by omega
    have e3 : (16777216 + a * 65536 + b * 256 + d) % 256 = d := by omega
    rw [e1, e2, e3]
  · rw [if_neg (by simp), if_neg (by simp), if_neg (by simp), if_pos (show ((([a, b, d, e] : List Int).length : Nat) : Int) = 4 from rfl), bnum4]
    have e1 : (4294967296 + a * 16777216 + b * 65536 + d * 256 + e) / 16777216 % 256 = a := by omega
    have e2 : (4294967296 + a * 16777216 + b * 65536 + d * 256 + e) / 65536 % 256 = b := by omega
    have e3 : (4294967296 + a * 16777216 + b * 65536 + d * 256 + e) / 256 % 256 = d := by omega
    have e4 : (4294967296 + a * 16777216 + b * 65536 + d * 256 + e) % 256 = e := by omega
    rw [e1, e2, e3, e4]
theorem bnum_inj {c d : List Int} (hc : Piece c) (hd : Piece d) : bnum c = bnum d ↔ c = d :=
  ⟨fun e => by rw [← bbytes_bnum hc, ← bbytes_bnum hd, e], fun e => by rw [e]⟩
theorem flat_bytes {xs : List Int} (h : isB xs) : ((chunks xs).map bnum).flatMap bbytes = xs := by
  have q : ∀ l : List (List Int), (∀ c ∈ l, Piece c) → (l.map bnum).flatMap bbytes = l.flatten := by
    intro l
    induction l with
    | nil => intro _; rfl
    | cons c r ih =>
      intro hp
      show bbytes (bnum c) ++ (r.map bnum).flatMap bbytes = c ++ r.flatten
      rw [bbytes_bnum (hp c (List.mem_cons_self ..)), ih fun d hd => hp d (List.mem_cons_of_mem _ hd)]
  rw [q _ (chunks_piece xs h), chunks_flat]
def nums (xs : List Int) : List Int := (chunks xs).map bnum
theorem nums_inj {xs ys : List Int} (h1 : isB xs) (h2 : isB ys) : nums xs = nums ys ↔ xs = ys :=
  ⟨fun e => by rw [← flat_bytes h1, ← flat_bytes h2]; exact congrArg _ e, fun e => by rw [e]⟩
/-- the order of two rows of bytes by their pieces -/
def lessP : List (List Int) → List (List Int) → Bool
  | [], [] => false
  | [], _ :: _ => true
  | _ :: _, [] => false
  | c :: cs, d :: ds => if c = d then lessP cs ds else if c.length = d.length then HT.lexLt c d else decide (c.length < d.length)
theorem bnum_len {c d : List Int} (hc : Piece c) (hd : Piece d) (h : c.length < d.length) : bnum c < bnum d := by
  have key : ∀ c : List Int, Piece c → 256 ^ c.length ≤ bnum c ∧ bnum c < 2 * 256 ^ c.length := fun c h => by
    refine h.cases (P := fun c => 256 ^ c.length ≤ bnum c ∧ bnum c < 2 * 256 ^ c.length) (fun a ha => ?_) (fun a b ha hb => ?_) (fun a b d ha hb hd => ?_) (fun a b d e ha hb hd he => ?_)
    · rw [bnum1, show (256 : Int) ^ ([a] : List Int).length = 256 from rfl]; omega
    · rw [bnum2, show (256 : Int) ^ ([a, b] : List Int).length = 65536 from rfl]; omega
    · rw [bnum3]
      show (256 : Int) ^ 3 ≤ _ ∧ _ < 2 * (256 : Int) ^ 3
      rw [show (256 : Int) ^ 3 = 16777216 by decide +kernel]; omega
    · rw [bnum4]
      show (256 : Int) ^ 4 ≤ _ ∧ _ < 2 * (256 : Int) ^ 4
      rw [show (256 : Int) ^ 4 = 4294967296 by decide +kernel]; omega
  have k1 := (key c hc).2
  have k2 := (key d hd).1
  have l1 := hc.h1
  have l4 := hd.h4
  have e : ∀ n : Nat, 1 ≤ n → n < d.length → (2 : Int) * 256 ^ n ≤ 256 ^ d.length := fun n h1 h2 => by
    have hd4 : d.length = 2 ∨ d.length = 3 ∨ d.length = 4 := by omega
    have hn : n = 1 ∨ n = 2 ∨ n = 3 := by omega
    rcases hd4 with q | q | q <;> rcases hn with r | r | r <;> rw [q, r] <;> first | decide | (exfalso; omega)
  have := e _ l1 h
  omega
theorem bnum_lex {c d : List Int} (hc : Piece c) (hd : Piece d) (h : c.length = d.length) (hne : c ≠ d) : decide (bnum c < bnum d) = HT.lexLt c d := by
  obtain ⟨bc, c1, c4⟩ := hc
  obtain ⟨bd, d1, d4⟩ := hd
  match c, d, bc, c1, c4, bd, h, hne with
  | [a], [b], bc, _, _, bd, _, hne =>
    have h1 := bc a (by simp)
    have h2 := bd b (by simp)
    have n1 : a ≠ b := fun e => hne (by rw [e])
    rw [bnum1, bnum1]
    show _ = if a = b then false else decide (a < b)
    rw [if_neg n1]
    exact decide_eq_decide.mpr (by omega)
  | [a, a2], [b, b2], bc, _, _, bd, _, hne =>
    have h1 := bc a (by simp)
    have h2 := bd b (by simp)
    have h3 := bc a2 (by simp)
    have h4 := bd b2 (by simp)
    rw [bnum2, bnum2]
    show _ = if a = b then (if a2 = b2 then false else decide (a2 < b2)) else decide (a < b)
    by_cases n1 : a = b
    · rw [if_pos n1]
      have n2 : a2 ≠ b2 := fun e => hne (by rw [n1, e])
      rw [if_neg n2]
      exact decide_eq_decide.mpr (by omega)
    · rw [if_neg n1]
      exact decide_eq_decide.mpr (by omega)
  | [a, a2, a3], [b, b2, b3], bc, _, _, bd, _, hne =>
    have h1 := bc a (by simp)
    have h2 := bd b (by simp)
    have h3 := bc a2 (by simp)
    have h4 := bd b2 (by simp)
    have h5 := bc a3 (by simp)
    have h6 := bd b3 (by simp)
    rw [bnum3, bnum3]
    show _ = if a = b then (if a2 = b2 then (if a3 = b3 then false else decide (a3 < b3)) else decide (a2 < b2)) else decide (a < b)
    by_cases n1 : a = b
    · rw [if_pos n1]
      by_cases n2 : a2 = b2
      · rw [if_pos n2]
        have n3 : a3 ≠ b3 := fun e => hne (by rw [n1, n2, e])
        rw [if_neg n3]
        exact decide_eq_decide.mpr (by omega)
      · rw [if_neg n2]
        exact decide_eq_decide.mpr (by omega)
    · rw [if_neg n1]
      exact decide_eq_decide.mpr (by omega)
  | [a, a2, a3, a4], [b, b2, b3, b4], bc, _, _, bd, _, hne =>
    have h1 := bc a (by simp)
    have h2 := bd b (by simp)
    have h3 := bc a2 (by simp)
    have h4 := bd b2 (by simp)
    have h5 := bc a3 (by simp)
    have h6 := bd b3 (by simp)
    have h7 := bc a4 (by simp)
    have h8 := bd b4 (by simp)
    rw [bnum4, bnum4]
    show _ = if a = b then (if a2 = b2 then (if a3 = b3 then (if a4 = b4 then false else decide (a4 < b4)) else decide (a3 < b3)) else decide (a2 < b2)) else decide (a < b)
    by_cases n1 : a = b
    · rw [if_pos n1]
      by_cases n2 : a2 = b2
      · rw [if_pos n2]
        by_cases n3 : a3 = b3
        · rw [if_pos n3]
          have n4 : a4 ≠ b4 := fun e => hne (by rw [n1, n2, n3, e])
          rw [if_neg n4]
          exact decide_eq_decide.mpr (by omega)
        · rw [if_neg n3]
          exact decide_eq_decide.mpr (by omega)
      · rw [if_neg n2]
        exact decide_eq_decide.mpr (by omega)
    · rw [if_neg n1]
      exact decide_eq_decide.mpr (by omega)
theorem lex_nums : ∀ {cs ds : List (List Int)}, (∀ c ∈ cs, Piece c) → (∀ d ∈ ds, Piece d) → HT.lexLt (cs.map bnum) (ds.map bnum) = lessP cs ds
  | [], [], _, _ => rfl
  | [], _ :: _, _, _ => rfl
  | _ :: _, [], _, _ => rfl
  | c :: cs, d :: ds, h1, h2 => by
    have pc := h1 c (List.mem_cons_self ..)
    have pd := h2 d (List.mem_cons_self ..)
    have ih := lex_nums (cs := cs) (ds := ds) (fun x hx => h1 x (List.mem_cons_of_mem _ hx)) (fun x hx => h2 x (List.mem_cons_of_mem _ hx))
    show (if bnum c = bnum d then HT.lexLt (cs.map bnum) (ds.map bnum) else decide (bnum c < bnum d)) = if c = d then lessP cs ds else if c.length = d.length then HT.lexLt c d else decide (c.length < d.length)
    by_cases e : c = d
    · rw [if_pos e, if_pos (by rw [e]), ih]
    · rw [if_neg e, if_neg (fun q => e ((bnum_inj pc pd).mp q))]
      by_cases l : c.length = d.length
      · rw [if_pos l, bnum_lex pc pd l e]
      · rw [if_neg l]
        by_cases l2 : c.length < d.length
        · rw [decide_eq_true l2, decide_eq_true (bnum_len pc pd l2)]
        · have := bnum_len pd pc (by omega)
          rw [decide_eq_false l2, decide_eq_false (by omega)]
def sp_block_number (K : PySem.W.Frag) : Sp := sp1 fun a H Q => ∃ (p : Addr) (xs : List Int), a = .ref p ∧ SqL K H p (xs.map V.int) ∧ Q (.int (bnum xs)) H
def sp_block_size (K : PySem.W.Frag) : Sp := sp1 fun a H Q => ∃ n : Int, a = .int n ∧ Q (.int (bsize n)) H
def sp_is_block (K : PySem.W.Frag) : Sp := sp1 fun a H Q => ∃ n : Int, a = .int n ∧ Q (.bl (decide (0 < bsize n))) H
def sp_block_bytes (K : PySem.W.Frag) : Sp := sp1 fun a H Q => ∃ n : Int, a = .int n ∧ 0 < bsize n ∧ ∀ (p : Addr) (H' : Hp), H p = none → Same H H' → H' p = some (.lst ((bbytes n).map V.int)) → Q (.ref p) H'
def sp_split (K : PySem.W.Frag) : Sp := sp1 fun a H Q => ∃ (p : Addr) (xs : List Int), a = .ref p ∧ SqL K H p (xs.map V.int) ∧ xs.length ≤ 100000 ∧ ∀ (q : Addr) (H' : Hp), H q = none → Same H H' → H' q = some (.tup ((nums xs).map V.int)) → Q (.ref q) H'
theorem bsize_le (n : Int) : 0 ≤ bsize n ∧ bsize n ≤ 4 := by
  unfold bsize
  repeat' split
  all_goals omega
theorem bbytes_len (n : Int) : (bbytes n).length ≤ 4 := by
  unfold bbytes
  repeat' split
  all_goals simp
theorem range4 {n : Int} (h0 : 0 ≤ n) (h1 : n ≤ 1000000) : RgC 0 n 4 ((n.toNat + 3) / 4) := by
  have e : Builtin.Range.rangeSize 0 n 4 = (((n.toNat + 3) / 4 : Nat) : Int) := by
    rw [PyProof.Rows.rangeSize_pos (by decide) h0]
    omega
  refine ⟨by decide, by decide, ?_, e⟩
  unfold Builtin.Range.small
  rw [e]
  simp only [Builtin.Range.rangeFitsLong, Bool.and_eq_true, Bool.or_eq_true, decide_eq_true_eq, beq_iff_eq, show ((4 : Int) > 0) by decide, if_true]
  omega
theorem cut_chunk (xs : List Int) (i : Nat) : cutV (xs.map V.int) (some (0 + (i : Nat) * 4)) (some (0 + (i : Nat) * 4 + 4)) = ((xs.drop (4 * i)).take 4).map V.int := by
  unfold cutV
  have e1 : (0 + ((i : Nat) : Int) * 4) = ((4 * i : Nat) : Int) := by omega
  have e2 : (0 + ((i : Nat) : Int) * 4 + 4) = ((4 * i + 4 : Nat) : Int) := by omega
  rw [e2, e1, HT.sIx_nat, HT.sIx_nat, List.length_map, List.map_take, List.map_drop]
  by_cases h : 4 * i ≤ xs.length
  · rw [Nat.min_eq_left h]
    by_cases h2 : 4 * i + 4 ≤ xs.length
    · rw [Nat.min_eq_left h2, show 4 * i + 4 - 4 * i = 4 by omega]
    · rw [Nat.min_eq_right (by omega)]
      rw [List.take_of_length_le (by simp), List.take_of_length_le (by simp; omega)]
  · rw [Nat.min_eq_right (by omega), Nat.min_eq_right (by omega)]
    rw [List.drop_eq_nil_of_le (by simp), List.drop_eq_nil_of_le (by simp; omega)]
    simp
theorem bbytes_length {n : Int} (h : 0 < bsize n) : (bbytes n).length = (bsize n).toNat := by
  have h4 := (bsize_le n).2
  unfold bbytes
  by_cases e1 : bsize n = 1
  · rw [if_pos e1, e1]; rfl
  · rw [if_neg e1]
    by_cases e2 : bsize n = 2
    · rw [if_pos e2, e2]; rfl
    · rw [if_neg e2]
      by_cases e3 : bsize n = 3
      · rw [if_pos e3, e3]; rfl
      · rw [if_neg e3]
        have e4 : bsize n = 4 := by omega
        rw [if_pos e4, e4]; rfl
theorem byte_at {n : Int} {i : Nat} (h : 0 < bsize n) (hi : i < (bsize n - 0).toNat) : n / 2 ^ (8 * (0 + ((bsize n - 0).toNat : Int) - 1 + (i : Int) * -1)).toNat % 2 ^ 8 = (bbytes n).getD i 0 := by
  have h4 := (bsize_le n).2
  unfold bbytes
  by_cases e1 : bsize n = 1
  · rw [if_pos e1]
    rw [e1] at hi ⊢
    have ei : i = 0 := by omega
    subst ei
    show n / 1 % 256 = n % 256
    omega
  · rw [if_neg e1]
    by_cases e2 : bsize n = 2
    · rw [if_pos e2]
      rw [e2] at hi ⊢
      have hi2 : i < 2 := by omega
      match i, hi2 with
      | 0, _ => rfl
      | 1, _ =>
        show n / 1 % 256 = n % 256
        omega
    · rw [if_neg e2]
      by_cases e3 : bsize n = 3
      · rw [if_pos e3]
        rw [e3] at hi ⊢
        have hi2 : i < 3 := by omega
        match i, hi2 with
        | 0, _ => rfl
        | 1, _ => rfl
        | 2, _ =>
          show n / 1 % 256 = n % 256
          omega
      · rw [if_neg e3]
        have e4 : bsize n = 4 := by omega
        rw [if_pos e4]
        rw [e4] at hi ⊢
        have hi2 : i < 4 := by omega
        match i, hi2 with
        | 0, _ => rfl
        | 1, _ => rfl
        | 2, _ => rfl
        | 3, _ =>
          show n / 1 % 256 = n % 256
          omega
theorem map_getD : ∀ (l : List Int), (List.range l.length).map (fun i => V.int (l.getD i 0)) = l.map V.int := fun l => by
  refine List.ext_getElem? fun i => ?_
  by_cases h : i < l.length
  · rw [List.getElem?_map, List.getElem?_range h, List.getElem?_map, List.getElem?_eq_getElem h]
    show some (V.int (l.getD i 0)) = some (V.int l[i])
    rw [List.getD_eq_getElem?_getD, List.getElem?_eq_getElem h]
    rfl
  · rw [List.getElem?_eq_none (by simp; omega), List.getElem?_eq_none (by simp; omega)]
theorem nums_range (xs : List Int) : (nums xs).map V.int = (List.range ((xs.length + 3) / 4)).map fun i => V.int (bnum ((xs.drop (4 * i)).take 4)) := by
  unfold nums
  rw [chunks_map, List.map_map, List.map_map]
  rfl
theorem nums_len (xs : List Int) : (nums xs).length = (xs.length + 3) / 4 := by
  unfold nums
  rw [List.length_map, chunks_len]
theorem flat_len : ∀ ns : List Int, (ns.flatMap bbytes).length ≤ 4 * ns.length
  | [] => Nat.zero_le _
  | n :: r => by
    have ih := flat_len r
    have := bbytes_len n
    show (bbytes n ++ r.flatMap bbytes).length ≤ 4 * (r.length + 1)
    rw [List.length_append]
    omega
theorem same_tup {K : PySem.W.Frag} {H H' : Hp} {a : Addr} {xs : List V} (e : Same H H') (h : SqT K H a xs) : SqT K H' a xs := by
  rcases h with (h | ⟨o, h⟩) | h
  · exact .inl (.inl (e _ _ h))
  · exact .inl (.inr ⟨o, e _ _ h⟩)
  · exact .inr h
abbrev Vc := List (Int × Int)
def cnt : Vc → Int → Int
  | [], _ => 0
  | c :: r, d => if c.1 = d then c.2 else cnt r d
def madeN (n : Nat) (f : Nat → Int) : Vc := ((List.range n).filter fun k => decide (0 < f k)).map fun k => (((k : Nat) : Int) + 1, f k)
abbrev made (f : Nat → Int) : Vc := madeN 9 f
theorem madeN_succ (n : Nat) (f : Nat → Int) : madeN (n + 1) f = madeN n f ++ (if 0 < f n then [(((n : Nat) : Int) + 1, f n)] else []) := by
  unfold madeN
  rw [List.range_succ, List.filter_append, List.map_append]
  by_cases h : 0 < f n
  · rw [if_pos h, List.filter_cons_of_pos (by rw [decide_eq_true h])]; rfl
  · rw [if_neg h, List.filter_cons_of_neg (by rw [decide_eq_false h]; exact Bool.false_ne_true)]; rfl
theorem madeN_mem {n : Nat} {f : Nat → Int} {c : Int × Int} (h : c ∈ madeN n f) : ∃ k : Nat, k < n ∧ c = (((k : Nat) : Int) + 1, f k) ∧ 0 < f k := by
  obtain ⟨k, hk, rfl⟩ := List.mem_map.mp h
  obtain ⟨h1, h2⟩ := List.mem_filter.mp hk
  exact ⟨k, List.mem_range.mp h1, rfl, of_decide_eq_true h2⟩
theorem cnt_app_ne {u : Vc} {c : Int × Int} {d : Int} (h : ¬ c.1 = d) : cnt (u ++ [c]) d = cnt u d := by
  induction u with
  | nil => show (if c.1 = d then _ else _) = _; rw [if_neg h]
  | cons x r ih => show (if x.1 = d then _ else cnt (r ++ [c]) d) = if x.1 = d then _ else _; rw [ih]
theorem cnt_app_out {u w : Vc} {d : Int} (h : ∀ c ∈ u, ¬ c.1 = d) : cnt (u ++ w) d = cnt w d := by
  induction u with
  | nil => rfl
  | cons x r ih =>
    show (if x.1 = d then _ else cnt (r ++ w) d) = _
    rw [if_neg (h x (List.mem_cons_self ..)), ih fun c hc => h c (List.mem_cons_of_mem _ hc)]
theorem cnt_madeN {f : Nat → Int} (hf : ∀ k, 0 ≤ f k) (k : Nat) : ∀ n, cnt (madeN n f) (((k : Nat) : Int) + 1) = if k < n then f k else 0
  | 0 => by rw [if_neg (by omega)]; rfl
  | n + 1 => by
    have ih := cnt_madeN hf k n
    rw [madeN_succ]
    by_cases h : k = n
    · subst h
      rw [if_pos (show k < k + 1 by omega), cnt_app_out fun c hc => ?_]
      · by_cases h0 : 0 < f k
        · rw [if_pos h0]
          show (if ((k : Nat) : Int) + 1 = ((k : Nat) : Int) + 1 then f k else 0) = _
          rw [if_pos rfl]
        · rw [if_neg h0]; have := hf k; show (0 : Int) = _; omega
      · obtain ⟨j, hj, rfl, _⟩ := madeN_mem hc
        show ¬ ((j : Nat) : Int) + 1 = _
        omega
    · have e : (if k < n + 1 then f k else 0) = if k < n then f k else 0 := by
        by_cases h2 : k < n
        · rw [if_pos h2, if_pos (by omega)]
        · rw [if_neg h2, if_neg (by omega)]
      rw [e, ← ih]
      by_cases h0 : 0 < f n
      · rw [if_pos h0, cnt_app_ne (by show ¬ ((n : Nat) : Int) + 1 = _; omega)]
      · rw [if_neg h0, List.append_nil]
theorem cnt_made {f : Nat → Int} (hf : ∀ k, 0 ≤ f k) {k : Nat} (hk : k < 9) : cnt (made f) (((k : Nat) : Int) + 1) = f k := by
  rw [cnt_madeN hf, if_pos hk]
/-- the last that was told, along a row -/
def told (g : Int → Int → Int) (v : Vc) (d i : Int) : Int := v.foldl (fun acc c => if c.1 = d then g c.2 acc else acc) i
theorem told_app (g : Int → Int → Int) (u w : Vc) (d i : Int) : told g (u ++ w) d i = told g w d (told g u d i) := by
  unfold told; rw [List.foldl_append]
theorem told_one (g : Int → Int → Int) (c : Int × Int) (d i : Int) : told g [c] d i = if c.1 = d then g c.2 i else i := rfl
theorem told_madeN (g : Int → Int → Int) {f : Nat → Int} (k : Nat) (i : Int) : ∀ n, told g (madeN n f) (((k : Nat) : Int) + 1) i = if k < n ∧ 0 < f k then g (f k) i else i
  | 0 => by rw [if_neg (by omega)]; rfl
  | n + 1 => by
    have ih := told_madeN g (f := f) k i n
    rw [madeN_succ, told_app, ih]
    by_cases h0 : 0 < f n
    · rw [if_pos h0, told_one]
      by_cases h : k = n
      · subst h
        show (if ((k : Nat) : Int) + 1 = _ then _ else _) = _
        rw [if_pos rfl, if_neg (show ¬ (k < k ∧ 0 < f k) by omega), if_pos ⟨by omega, h0⟩]
      · show (if ((n : Nat) : Int) + 1 = _ then _ else _) = _
        rw [if_neg (by omega)]
        by_cases h2 : k < n ∧ 0 < f k
        · rw [if_pos h2, if_pos ⟨by omega, h2.2⟩]
        · rw [if_neg h2, if_neg (by omega)]
    · rw [if_neg h0]
      show (if k < n ∧ 0 < f k then g (f k) i else i) = _
      by_cases h2 : k < n ∧ 0 < f k
      · rw [if_pos h2, if_pos ⟨by omega, h2.2⟩]
      · by_cases h : k = n
        · subst h
          rw [if_neg h2, if_neg (by omega)]
        · rw [if_neg h2, if_neg (by omega)]
theorem last_made {f : Nat → Int} (hf : ∀ k, 0 ≤ f k) {k : Nat} (hk : k < 9) : told (fun c _ => c) (made f) (((k : Nat) : Int) + 1) 0 = f k := by
  rw [told_madeN]
  by_cases h : 0 < f k
  · rw [if_pos ⟨hk, h⟩]
  · have := hf k
    rw [if_neg (by omega)]; omega
def mx (i j : Int) : Int := if j > i then j else i
theorem max_made {f g : Nat → Int} (hf : ∀ k, 0 ≤ f k) {k : Nat} (hk : k < 9) : told mx (made g) (((k : Nat) : Int) + 1) (f k) = mx (f k) (g k) := by
  rw [told_madeN]
  have := hf k
  by_cases h : 0 < g k
  · rw [if_pos ⟨hk, h⟩]
    unfold mx
    split <;> split <;> omega
  · rw [if_neg (by omega)]
    unfold mx
    rw [if_neg (by omega)]
def lessF (n : Nat) (f g : Nat → Int) : Bool := (List.range n).any fun k => decide (f k < g k)
theorem less_madeN {f g : Nat → Int} (hf : ∀ k, 0 ≤ f k) : ∀ n, n ≤ 9 → ((madeN n g).any fun c => decide (cnt (made f) c.1 < c.2)) = lessF n f g
  | 0, _ => rfl
  | n + 1, h => by
    have ih := less_madeN (g := g) hf n (by omega)
    have e : lessF (n + 1) f g = (lessF n f g || decide (f n < g n)) := by
      unfold lessF
      rw [List.range_succ, List.any_append]
      simp
    rw [madeN_succ, List.any_append, ih, e]
    have := hf n
    by_cases h0 : 0 < g n
    · rw [if_pos h0]
      show (_ || (decide (cnt (made f) (((n : Nat) : Int) + 1) < g n) || false)) = _
      rw [cnt_made hf (by omega), Bool.or_false]
    · rw [if_neg h0, decide_eq_false (by omega : ¬ f n < g n)]
      rfl
/-! a dict of counts -/
def kvl (m : Vc) : List (Key × V) := m.map fun c => (Sum.inl c.1, V.int c.2)
def dput (m : Vc) (k c : Int) : Vc := if (m.any fun x => decide (x.1 = k)) = true then m.map (fun x => if x.1 = k then (k, c) else x) else m ++ [(k, c)]
structure Good (m : Vc) : Prop where
  nd : (m.map (·.1)).Nodup
  rg : ∀ c ∈ m, 1 ≤ c.1 ∧ c.1 ≤ 9 ∧ 0 < c.2
theorem putK_kvl (m : Vc) (k c : Int) : putK (kvl m) (Sum.inl k) (V.int c) = kvl (dput m k c) := by
  have e1 : ((kvl m).any fun kv => decide (kv.1 = (Sum.inl k : Key))) = (m.any fun x => decide (x.1 = k)) := by
    unfold kvl
    rw [List.any_map]
    congr 1
    funext x
    exact decide_eq_decide.mpr ⟨fun h => Sum.inl.inj h, fun h => congrArg Sum.inl h⟩
  unfold putK dput
  rw [e1]
  split
  · unfold kvl
    rw [List.map_map, List.map_map]
    refine List.map_congr_left fun x _ => ?_
    show (if (Sum.inl x.1 : Key) = Sum.inl k then _ else _) = (fun c : Int × Int => ((Sum.inl c.1 : Key), V.int c.2)) (if x.1 = k then (k, c) else x)
    by_cases h : x.1 = k
    · rw [if_pos h, if_pos (congrArg Sum.inl h)]
      show ((Sum.inl x.1 : Key), V.int c) = (Sum.inl k, V.int c)
      rw [h]
    · rw [if_neg h, if_neg fun q => h (Sum.inl.inj q)]
  · unfold kvl
    rw [List.map_append]
    rfl
theorem valV_kvl (m : Vc) (d : Int) : ((valV (kvl m) (Sum.inl d : Key)).getD (.int 0) = .int (cnt m d)) ∧ (∀ c ∈ m, c.1 = d → valV (kvl m) (Sum.inl d : Key) = some (.int (cnt m d))) := by
  induction m with
  | nil => exact ⟨rfl, fun c hc => by cases hc⟩
  | cons x r ih =>
    have e : valV (kvl (x :: r)) (Sum.inl d : Key) = if x.1 = d then some (.int x.2) else valV (kvl r) (Sum.inl d : Key) := by
      unfold valV kvl
      rw [List.map_cons, List.find?_cons]
      by_cases h : x.1 = d
      · rw [if_pos h, decide_eq_true (congrArg Sum.inl h)]; rfl
      · rw [if_neg h, decide_eq_false fun q => h (Sum.inl.inj q)]
    rw [e]
    show (_ = V.int (if x.1 = d then x.2 else cnt r d)) ∧ _
    by_cases h : x.1 = d
    · rw [if_pos h, if_pos h]
      exact ⟨rfl, fun _ _ _ => by show _ = some (V.int (if x.1 = d then x.2 else cnt r d)); rw [if_pos h]⟩
    · rw [if_neg h, if_neg h]
      refine ⟨ih.1, fun c hc q => ?_⟩
      show _ = some (V.int (if x.1 = d then x.2 else cnt r d))
      rw [if_neg h]
      rcases List.mem_cons.mp hc with rfl | hc
      · exact absurd q h
      · exact ih.2 c hc q
theorem cnt_pos {m : Vc} (g : Good m) {d : Int} : (∃ c ∈ m, c.1 = d) ↔ 0 < cnt m d := by
  have := g.rg
  clear g
  induction m with
  | nil => exact ⟨fun ⟨c, hc, _⟩ => (by cases hc), fun h => absurd h (by show ¬ (0 : Int) < 0; omega)⟩
  | cons x r ih =>
    have ih : (∃ c ∈ r, c.1 = d) ↔ 0 < cnt r d := ih fun c hc => this c (List.mem_cons_of_mem _ hc)
    have hx := this x (List.mem_cons_self ..)
    show _ ↔ 0 < if x.1 = d then x.2 else cnt r d
    by_cases h : x.1 = d
    · rw [if_pos h]
      exact ⟨fun _ => hx.2.2, fun _ => ⟨x, List.mem_cons_self .., h⟩⟩
    · rw [if_neg h]
      refine Iff.trans ?_ ih
      constructor
      · rintro ⟨c, hc, q⟩
        rcases List.mem_cons.mp hc with rfl | hc
        · exact absurd q h
        · exact ⟨c, hc, q⟩
      · rintro ⟨c, hc, q⟩
        exact ⟨c, List.mem_cons_of_mem _ hc, q⟩
theorem cnt_dput (m : Vc) (k c d : Int) : cnt (dput m k c) d = if k = d then c else cnt m d := by
  unfold dput
  split
  · rename_i h
    have key : ∀ m : Vc, (m.any fun x => decide (x.1 = k)) = true → cnt (m.map fun x => if x.1 = k then (k, c) else x) d = if k = d then c else cnt m d := by
      intro m
      have none : ∀ m : Vc, ¬ k = d → cnt (m.map fun x => if x.1 = k then (k, c) else x) d = cnt m d := by
        intro m hk
        induction m with
        | nil => rfl
        | cons x r ih =>
          show cnt ((if x.1 = k then (k, c) else x) :: r.map _) d = if x.1 = d then x.2 else cnt r d
          by_cases hx : x.1 = k
          · rw [if_pos hx]
            show (if k = d then c else _) = _
            rw [if_neg hk, if_neg (by rw [hx]; exact hk), ih]
          · rw [if_neg hx]
            show (if x.1 = d then x.2 else _) = _
            rw [ih]
      induction m with
      | nil => intro h; cases h
      | cons x r ih =>
        intro h
        by_cases hk : k = d
        · rw [if_pos hk]
          show cnt ((if x.1 = k then (k, c) else x) :: r.map _) d = c
          by_cases hx : x.1 = k
          · rw [if_pos hx]
            show (if k = d then c else _) = _
            rw [if_pos hk]
          · rw [if_neg hx]
            show (if x.1 = d then x.2 else _) = _
            rw [if_neg (by rw [← hk]; exact hx)]
            have h2 : (r.any fun x => decide (x.1 = k)) = true := by
              rw [List.any_cons, decide_eq_false hx, Bool.false_or] at h
              exact h
            rw [ih h2, if_pos hk]
        · rw [if_neg hk]
          exact none _ hk
    exact key m h
  · rename_i h
    have out : ∀ x ∈ m, ¬ x.1 = k := fun x hx q => h (List.any_eq_true.mpr ⟨x, hx, decide_eq_true q⟩)
    by_cases hk : k = d
    · rw [if_pos hk, cnt_app_out (by rw [← hk]; exact out)]
      show (if k = d then c else _) = _
      rw [if_pos hk]
    · rw [if_neg hk, cnt_app_ne hk]
theorem good_dput {m : Vc} (g : Good m) {k c : Int} (h1 : 1 ≤ k) (h9 : k ≤ 9) (hc : 0 < c) : Good (dput m k c) := by
  unfold dput
  split
  · refine ⟨?_, fun x hx => ?_⟩
    · have e : (m.map fun x => if x.1 = k then (k, c) else x).map (·.1) = m.map (·.1) := by
        rw [List.map_map]
        refine List.map_congr_left fun x _ => ?_
        show (if x.1 = k then (k, c) else x).1 = x.1
        by_cases h : x.1 = k
        · rw [if_pos h, h]
        · rw [if_neg h]
      rw [e]; exact g.nd
    · obtain ⟨y, hy, rfl⟩ := List.mem_map.mp hx
      by_cases h : y.1 = k
      · rw [if_pos h]; exact ⟨h1, h9, hc⟩
      · rw [if_neg h]; exact g.rg y hy
  · rename_i h
    have out : ∀ x ∈ m, ¬ x.1 = k := fun x hx q => h (List.any_eq_true.mpr ⟨x, hx, decide_eq_true q⟩)
    refine ⟨?_, fun x hx => ?_⟩
    · rw [List.map_append, List.nodup_append]
      refine ⟨g.nd, by simp, fun a ha b hb => ?_⟩
      obtain ⟨x, hx, rfl⟩ := List.mem_map.mp ha
      have hb : b = k := by simpa using hb
      rw [hb]; exact out x hx
    · rcases List.mem_append.mp hx with hx | hx
      · exact g.rg x hx
      · rw [List.mem_singleton.mp hx]; exact ⟨h1, h9, hc⟩
theorem merge_kvl (v : Vc) : ∀ m : Vc, mergeK (kvl m) (kvl v) = kvl (v.foldl (fun m c => dput m c.1 c.2) m) := by
  induction v with
  | nil => intro m; rfl
  | cons x r ih =>
    intro m
    show mergeK (putK (kvl m) (Sum.inl x.1) (V.int x.2)) (kvl r) = _
    rw [putK_kvl, ih]
    rfl
theorem fold_good (v : Vc) (hv : ∀ c ∈ v, 1 ≤ c.1 ∧ c.1 ≤ 9 ∧ 0 < c.2) : ∀ m : Vc, Good m → Good (v.foldl (fun m c => dput m c.1 c.2) m) := by
  induction v with
  | nil => intro m g; exact g
  | cons x r ih =>
    intro m g
    have hx := hv x (List.mem_cons_self ..)
    exact ih (fun c hc => hv c (List.mem_cons_of_mem _ hc)) _ (good_dput g hx.1 hx.2.1 hx.2.2)
theorem fold_cnt (v : Vc) (d : Int) : ∀ m : Vc, cnt (v.foldl (fun m c => dput m c.1 c.2) m) d = told (fun c _ => c) v d (cnt m d) := by
  induction v with
  | nil => intro m; rfl
  | cons x r ih =>
    intro m
    show cnt (r.foldl (fun m c => dput m c.1 c.2) (dput m x.1 x.2)) d = told (fun c _ => c) r d (if x.1 = d then x.2 else cnt m d)
    rw [ih, cnt_dput]
theorem made_rg {f : Nat → Int} : ∀ c ∈ made f, 1 ≤ c.1 ∧ c.1 ≤ 9 ∧ 0 < c.2 := fun c hc => by
  obtain ⟨k, hk, rfl, h0⟩ := madeN_mem hc
  exact ⟨by show (1 : Int) ≤ ((k : Nat) : Int) + 1; omega, by show ((k : Nat) : Int) + 1 ≤ 9; omega, h0⟩
/-- a rising row of numbers from 1 to n is told by what is in it -/
theorem rising (n : Nat) : ∀ ys : List Int, ys.Pairwise (· < ·) → (∀ y ∈ ys, 1 ≤ y ∧ y ≤ n) → ys = ((List.range n).filter fun k => decide ((((k : Nat) : Int) + 1) ∈ ys)).map fun k => ((k : Nat) : Int) + 1 := by
  induction n with
  | zero =>
    intro ys _ h
    cases ys with
    | nil => rfl
    | cons y r => have := h y (List.mem_cons_self ..); omega
  | succ n ih =>
    intro ys hp h
    by_cases hm : (((n : Nat) : Int) + 1) ∈ ys
    · obtain ⟨u, w, e⟩ := List.append_of_mem hm
      have hw : w = [] := by
        cases w with
        | nil => rfl
        | cons z w =>
          rw [e, List.pairwise_append] at hp
          have h1 := (List.pairwise_cons.mp hp.2.1).1 z (List.mem_cons_self ..)
          have h2 := h z (by rw [e]; simp)
          omega
      subst hw
      have hu : u.Pairwise (· < ·) := by rw [e, List.pairwise_append] at hp; exact hp.1
      have hlt : ∀ y ∈ u, y < ((n : Nat) : Int) + 1 := fun y hy => by
        rw [e, List.pairwise_append] at hp
        exact hp.2.2 y hy _ (by simp)
      have iu := ih u hu fun y hy => ⟨(h y (by rw [e]; simp [hy])).1, by have := hlt y hy; omega⟩
      have ef : ((List.range (n + 1)).filter fun k => decide ((((k : Nat) : Int) + 1) ∈ ys)) = ((List.range n).filter fun k => decide ((((k : Nat) : Int) + 1) ∈ u)) ++ [n] := by
        have e1 : ((List.range n).filter fun k => decide ((((k : Nat) : Int) + 1) ∈ ys)) = ((List.range n).filter fun k => decide ((((k : Nat) : Int) + 1) ∈ u)) := by
          refine List.filter_congr fun k hk => ?_
          have hk := List.mem_range.mp hk
          refine decide_eq_decide.mpr ?_
          rw [e, List.mem_append, List.mem_singleton]
          exact ⟨fun q => q.resolve_right (by omega), .inl⟩
        rw [List.range_succ, List.filter_append, List.filter_cons_of_pos (by rw [decide_eq_true hm]), List.filter_nil, e1]
      rw [ef, List.map_append, ← iu, e]
      rfl
    · have iu := ih ys hp fun y hy => ⟨(h y hy).1, by
        have h1 := (h y hy).2
        have h2 : ¬ y = ((n : Nat) : Int) + 1 := fun q => hm (q ▸ hy)
        omega⟩
      rw [List.range_succ, List.filter_append, List.filter_cons_of_neg (by rw [decide_eq_false hm]; exact Bool.false_ne_true), List.filter_nil, List.append_nil]
      exact iu
/-- sorted keys with their counts -/
theorem vector_made {m : Vc} (g : Good m) {ys : List Int} (hp : ys.Perm (m.map (·.1))) (hs : ys.Pairwise (· ≤ ·)) : ys.map (fun y => (y, cnt m y)) = made fun k => cnt m (((k : Nat) : Int) + 1) := by
  have nd : ys.Nodup := hp.nodup_iff.mpr g.nd
  have lt : ys.Pairwise (· < ·) := by
    have := List.Pairwise.and hs nd
    exact this.imp fun h => by omega
  have mem : ∀ y, y ∈ ys ↔ ∃ c ∈ m, c.1 = y := fun y => by rw [hp.mem_iff, List.mem_map]
  have rg : ∀ y ∈ ys, 1 ≤ y ∧ y ≤ ((9 : Nat) : Int) := fun y hy => by
    obtain ⟨c, hc, rfl⟩ := (mem y).mp hy
    have := g.rg c hc
    omega
  have e := rising 9 ys lt rg
  have ef : ((List.range 9).filter fun k => decide ((((k : Nat) : Int) + 1) ∈ ys)) = ((List.range 9).filter fun k => decide (0 < cnt m (((k : Nat) : Int) + 1))) :=
    List.filter_congr fun k _ => decide_eq_decide.mpr ((mem _).trans (cnt_pos g))
  rw [ef] at e
  rw [e, List.map_map]
  rfl
theorem paired_imp {α β : Type} {R S : α → β → Prop} (h : ∀ a b, R a b → S a b) : ∀ {xs : List α} {ys : List β}, Paired R xs ys → Paired S xs ys
  | _, _, .nil => .nil
  | _, _, .cons a b => .cons (h _ _ a) (paired_imp h b)
theorem paired_get {α β : Type} {R : α → β → Prop} : ∀ {xs : List α} {ys : List β}, Paired R xs ys → ∀ (i : Nat) (x : α), xs[i]? = some x → ∃ y, ys[i]? = some y ∧ R x y
  | _, _, .nil, i, x, h => by simp at h
  | _, _, .cons a b, 0, x, h => by cases (Option.some.inj h); exact ⟨_, rfl, a⟩
  | _, _, .cons a b, i + 1, x, h => by
    obtain ⟨y, h1, h2⟩ := paired_get b i x (by simpa using h)
    exact ⟨y, by simpa using h1, h2⟩
theorem paired_len {α β : Type} {R : α → β → Prop} : ∀ {xs : List α} {ys : List β}, Paired R xs ys → xs.length = ys.length
  | _, _, .nil => rfl
  | _, _, .cons a b => by rw [List.length_cons, List.length_cons, paired_len b]
theorem paired_snoc {α β : Type} {R : α → β → Prop} : ∀ {xs : List α} {ys : List β} {x : α} {y : β}, Paired R xs ys → R x y → Paired R (xs ++ [x]) (ys ++ [y])
  | _, _, _, _, .nil, h => .cons h .nil
  | _, _, _, _, .cons a b, h => .cons a (paired_snoc b h)
abbrev Prs (K : PySem.W.Frag) (H : Hp) (ps : List Addr) (v : Vc) : Prop := Paired (fun p (c : Int × Int) => SqT K H p [.int c.1, .int c.2]) ps v
def Vec (K : PySem.W.Frag) (H : Hp) (a : Addr) (v : Vc) : Prop := ∃ ps : List Addr, SqT K H a (ps.map V.ref) ∧ Prs K H ps v
def PVec (K : PySem.W.Frag) (H : Hp) (a : Addr) (v : Vc) : Prop := ∃ ps : List Addr, PlT H a (ps.map V.ref) ∧ Prs K H ps v
theorem prs_same {K : PySem.W.Frag} {H H' : Hp} {ps : List Addr} {v : Vc} (e : Same H H') (h : Prs K H ps v) : Prs K H' ps v := paired_imp (fun _ _ q => same_tup e q) h
theorem Vec.same {K : PySem.W.Frag} {H H' : Hp} {a : Addr} {v : Vc} (h : Vec K H a v) (e : Same H H') : Vec K H' a v := by
  obtain ⟨ps, h1, h2⟩ := h
  exact ⟨ps, same_tup e h1, prs_same e h2⟩
theorem PVec.same {K : PySem.W.Frag} {H H' : Hp} {a : Addr} {v : Vc} (h : PVec K H a v) (e : Same H H') : PVec K H' a v := by
  obtain ⟨ps, h1, h2⟩ := h
  exact ⟨ps, h1.same e, prs_same e h2⟩
theorem PVec.vec {K : PySem.W.Frag} {H : Hp} {a : Addr} {v : Vc} (h : PVec K H a v) : Vec K H a v := by
  obtain ⟨ps, h1, h2⟩ := h
  exact ⟨ps, h1.seq, h2⟩
theorem for_vec {K : PySem.W.Frag} {g : TG} {t : TS} {D : Ends} {σ : L2.St} {H H0 : Hp} {a : Addr} {v : Vc} {ps : List Addr} (hS : SqT K H0 a (ps.map V.ref)) (hP : Prs K H0 ps v) (Pv : Vc → L2.St → Hp → Prop) (h0 : Pv [] σ H) (hl : ∀ pre σ H, Pv pre σ H → Same H0 H)
    (hs : ∀ (pre : Vc) (c : Int × Int) (post : Vc) (T : Addr) σ H, v = pre ++ c :: post → Pv pre σ H → SqT K H T [.int c.1, .int c.2] → g (.ref T) σ H fun σ2 H2 => t { D with nx := Pv (pre ++ [c]), ct := Pv (pre ++ [c]), bk := D.nx } σ2 H2)
    (hd : ∀ σ H, Pv v σ H → D.nx σ H) : ForB (Itt K a) g t D σ H := by
  refine for_tup (xs := ps.map V.ref) (fun i => Pv (v.take i)) (by simpa using h0) (fun i σ H _ p => same_tup (hl _ σ H p) hS) (fun i x σ H hx p => ?_) (fun σ H p => ?_)
  · rw [List.getElem?_map] at hx
    obtain ⟨T, hT, rfl⟩ := Option.map_eq_some_iff.mp hx
    obtain ⟨c, hc, q⟩ := paired_get hP i T hT
    have e2 := (List.getElem?_eq_some_iff.mp hc).2
    have e1 : v = v.take i ++ c :: v.drop (i + 1) := by rw [← e2, List.getElem_cons_drop, List.take_append_drop]
    rw [List.take_add_one, hc]
    exact hs _ c _ T σ H e1 p (same_tup (hl _ σ H p) q)
  · rw [List.length_map, paired_len hP, List.take_length] at p
    exact hd σ H p
def lessV (v w : Vc) : Bool := w.any fun c => decide (cnt v c.1 < c.2)
def cmpS (a b : Bool) : Str := if a = true then (if b = true then "apart" else "less") else if b = true then "greater" else "equal"
theorem dput_len (m : Vc) (k c : Int) : (dput m k c).length ≤ m.length + 1 := by
  unfold dput
  split <;> simp
theorem fold_len (v : Vc) : ∀ m : Vc, (v.foldl (fun m c => dput m c.1 c.2) m).length ≤ m.length + v.length := by
  induction v with
  | nil => intro m; exact Nat.le_refl _
  | cons x r ih =>
    intro m
    have h1 := ih (dput m x.1 x.2)
    have h2 := dput_len m x.1 x.2
    show (r.foldl (fun m c => dput m c.1 c.2) (dput m x.1 x.2)).length ≤ _
    rw [List.length_cons]
    omega
theorem made_len (f : Nat → Int) : (made f).length ≤ 9 := by
  unfold made madeN
  rw [List.length_map]
  exact Nat.le_trans (List.length_filter_le ..) (by rw [List.length_range]; exact Nat.le_refl _)
theorem made_congr {f g : Nat → Int} (h : ∀ k, k < 9 → f k = g k) : made f = made g := by
  unfold made madeN
  have e : ((List.range 9).filter fun k => decide (0 < f k)) = ((List.range 9).filter fun k => decide (0 < g k)) :=
    List.filter_congr fun k hk => by rw [h k (List.mem_range.mp hk)]
  rw [e]
  refine List.map_congr_left fun k hk => ?_
  rw [h k (List.mem_range.mp (List.mem_filter.mp hk).1)]
def row9 (f : Nat → Int) : List Int := (List.range 9).map f
theorem e_tDGet {td ty : TE} {σ : L2.St} {H : Hp} {Q : VK} (q : td σ H fun x H1 => ty σ H1 fun y H2 => ∃ a v, x = .ref a ∧ DGet H2 a y (some v) ∧ Q v H2) : tDGet td ty σ H Q := q
theorem e_tDGet2 {td ty tx : TE} {σ : L2.St} {H : Hp} {Q : VK} (q : td σ H fun x H1 => ∃ a, x = .ref a ∧ IsD H1 a ∧ ty σ H1 fun y H2 => tx σ H2 fun z H3 => ∃ o, DGet H3 a y o ∧ Q (o.getD z) H3) : tDGet2 td ty tx σ H Q := q
theorem e_sDPut {td ty tv : TE} {σ : L2.St} {H : Hp} {D : Ends} (q : tv σ H fun v H1 => td σ H1 fun x H2 => ty σ H2 fun y H3 => ∃ a H4, x = .ref a ∧ DPut H3 a y v H4 ∧ D.nx σ H4) : sDPut td ty tv D σ H := q
theorem dg_some {H : Hp} {D : Addr} {m : Vc} {d : Int} {Q : V → Prop} (h : H D = some (.dK (kvl m))) (hc : ∃ c ∈ m, c.1 = d) (q : Q (.int (cnt m d))) : ∃ a v, V.ref D = .ref a ∧ DGet H a (.int d) (some v) ∧ Q v := by
  obtain ⟨c, h1, h2⟩ := hc
  refine ⟨D, _, rfl, ?_, q⟩
  rw [← (valV_kvl m d).2 c h1 h2]
  exact DGet.k (k := Sum.inl d) h
theorem dg_or {H : Hp} {D : Addr} {m : Vc} {d : Int} {Q : Option V → Prop} (h : H D = some (.dK (kvl m))) (q : ∀ o : Option V, o.getD (.int 0) = .int (cnt m d) → Q o) : ∃ o, DGet H D (.int d) o ∧ Q o :=
  ⟨_, DGet.k (k := Sum.inl d) h, q _ (valV_kvl m d).1⟩
theorem dp_put {H : Hp} {D : Addr} {m : Vc} {k c : Int} {Q : Hp → Prop} (h : H D = some (.dK (kvl m))) (hl : m.length ≤ 100) (q : Q (upd H D (.dK (kvl (dput m k c))))) : ∃ a H4, V.ref D = .ref a ∧ DPut H a (.int k) (.int c) H4 ∧ Q H4 :=
  ⟨D, _, rfl, .inl ⟨kvl m, Sum.inl k, h, rfl, Nat.lt_of_le_of_lt (by unfold kvl; rw [List.length_map]; exact hl) (by decide), rfl⟩, by rw [putK_kvl]; exact q⟩
theorem prs_kvl {K : PySem.W.Frag} {H : Hp} : ∀ {ps : List Addr} {v : Vc}, Prs K H ps v → Paired (fun p (kv : Key × V) => SqT K H p [kV kv.1, kv.2]) ps (kvl v)
  | _, _, .nil => .nil
  | _, _, .cons a b => .cons a (prs_kvl b)
theorem dict_made {f : Nat → Int} (hf : ∀ k, 0 ≤ f k) : ∃ m, mergeK [] (kvl (made f)) = kvl m ∧ Good m ∧ m.length ≤ 9 ∧ ∀ k : Nat, k < 9 → cnt m (((k : Nat) : Int) + 1) = f k :=
  ⟨_, merge_kvl (made f) [], fold_good (made f) made_rg [] ⟨by simp, fun c hc => by cases hc⟩, Nat.le_trans (fold_len (made f) []) (by rw [List.length_nil, Nat.zero_add]; exact made_len f), fun k hk => by rw [fold_cnt]; exact last_made hf hk⟩
abbrev Prx (H : Hp) (ps : List Addr) (v : Vc) : Prop := Paired (fun p (c : Int × Int) => H p = some (.tup [.int c.1, .int c.2])) ps v
theorem Prx.upd {H : Hp} {ps : List Addr} {v : Vc} {E : Addr} {l : List V} {o : HO} (h : Prx H ps v) (e : H E = some (.lst l)) : Prx (upd H E o) ps v :=
  paired_imp (fun p c q => by
    have n : p ≠ E := fun z => by
      rw [z, e] at q
      cases q
    rw [upd_ne n]; exact q) h
theorem Prx.same {H H' : Hp} {ps : List Addr} {v : Vc} (h : Prx H ps v) (e : Same H H') : Prx H' ps v := paired_imp (fun _ _ q => e _ _ q) h
theorem Prx.prs {K : PySem.W.Frag} {H : Hp} {ps : List Addr} {v : Vc} (h : Prx H ps v) : Prs K H ps v := paired_imp (fun _ _ q => SqT.of q) h
theorem row9_at (f : Nat → Int) {i : Nat} (h : i < 9) {j : Int} (hj : j = i) : atI ((row9 f).map V.int) j = some (.int (f i)) :=
  at_of (j := i) hj (by rw [List.getElem?_map, row9, List.getElem?_map, List.getElem?_range h]; rfl)
theorem row9_set (f : Nat → Int) {i : Nat} (h : i < 9) (n : Int) : (row9 f).set i n = row9 fun k => if k = i then n else f k := by
  refine List.ext_getElem? fun k => ?_
  rw [List.getElem?_set]
  unfold row9
  by_cases hk : k < 9
  · have r1 : ((List.range 9).map fun k => if k = i then n else f k)[k]? = some (if k = i then n else f k) := by rw [List.getElem?_map, List.getElem?_range hk]; rfl
    have r2 : ((List.range 9).map f)[k]? = some (f k) := by rw [List.getElem?_map, List.getElem?_range hk]; rfl
    rw [r1, r2]
    by_cases e : i = k
    · rw [if_pos e, if_pos (by simp; omega), if_pos e.symm]
    · rw [if_neg e, if_neg fun q => e q.symm]
  · rw [List.getElem?_eq_none (l := (List.range 9).map fun k => if k = i then n else f k) (by simp; omega)]
    by_cases e : i = k
    · omega
    · rw [if_neg e, List.getElem?_eq_none (by simp; omega)]
theorem row9_inj {f g : Nat → Int} (h : ∀ k, k < 9 → f k = g k) : row9 f = row9 g := List.map_congr_left fun k hk => h k (List.mem_range.mp hk)
theorem row9_len (f : Nat → Int) : ((row9 f).map V.int).length = 9 := by unfold row9; simp
theorem p2 (n : Int) {i : Nat} (h : i < 9) : CDivW n (1 * 2 ^ (1 + (i : Int)).toNat) := by
  have e : (1 + (i : Int)).toNat = i + 1 := by omega
  rw [e]
  have : i = 0 ∨ i = 1 ∨ i = 2 ∨ i = 3 ∨ i = 4 ∨ i = 5 ∨ i = 6 ∨ i = 7 ∨ i = 8 := by omega
  rcases this with h | h | h | h | h | h | h | h | h <;> rw [h] <;> exact ⟨by decide, by decide⟩
theorem lc_filt {K : PySem.W.Frag} {g : TG} {tt : TT} {te : TE} {vs : List Nat} {σ : L2.St} {Da : Addr} {H0 : Hp} {Q : VK} {lo : Int} {n : Nat} (hD : H0 Da = none) (hn : n ≤ 1000000) (p : Nat → Bool) (f : Nat → V)
    (hs : ∀ (i : Nat) (H2 : Hp) (C : VK) (E : Hp → Prop), i < n → Same H0 H2 → (p i = true → ∀ H3, Same H2 H3 → C (f i) H3) → (p i = false → ∀ H3, Same H2 H3 → E H3) →
      g (.int (lo + (i : Nat))) (wipe σ vs) H2 fun σ2 H2 => wipe σ2 vs = wipe σ vs ∧ tt σ2 H2 fun b H3 => if b = true then te σ2 H3 C else E H3)
    (hd : ∀ (H : Hp), Same H0 H → H Da = some (.lst (((List.range n).filter p).map f)) → Q (.ref Da) H) : LcB (Itr lo n) g tt te vs σ Da H0 Q := by
  refine lc_rng (fun i H2 => Same H0 H2 ∧ H2 Da = some (.lst (((List.range i).filter p).map f))) ⟨same_new hD, upd_same⟩ (fun i H2 hi q => ?_) (fun H2 q => hd H2 q.1 q.2)
  obtain ⟨s4, e4⟩ := q
  refine hs i H2 _ _ hi s4 (fun hp H3 s5 => ?_) (fun hp H3 s5 => ?_)
  · refine ⟨_, s5 _ _ e4, Nat.lt_of_le_of_lt (Nat.le_trans (by rw [List.length_map]; exact List.length_filter_le ..) (by rw [List.length_range]; omega : _ ≤ 1000000)) (by decide), Same.mut (s4.trans s5) hD, ?_⟩
    rw [upd_same, List.range_succ, List.filter_append, List.filter_cons_of_pos hp, List.map_append]
    rfl
  · refine ⟨s4.trans s5, ?_⟩
    rw [s5 _ _ e4, List.range_succ, List.filter_append, List.filter_cons_of_neg (by rw [hp]; exact Bool.false_ne_true), List.filter_nil, List.append_nil]
theorem nil_less (f g : Nat → Int) (h : Nat → Int) : decide ((((List.range 9).filter fun k => decide (f k < g k)).map h) = []) = !lessF 9 f g := by
  unfold lessF
  cases e : (List.range 9).any fun k => decide (f k < g k) with
  | true =>
    obtain ⟨k, hk, q⟩ := List.any_eq_true.mp e
    refine decide_eq_false fun z => ?_
    have : (List.range 9).filter (fun k => decide (f k < g k)) = [] := List.map_eq_nil_iff.mp z
    have m : k ∈ (List.range 9).filter (fun k => decide (f k < g k)) := List.mem_filter.mpr ⟨hk, q⟩
    rw [this] at m
    cases m
  | false =>
    refine decide_eq_true ?_
    rw [List.filter_eq_nil_iff.mpr fun k hk => by
      have := List.any_eq_false.mp e k hk
      exact this]
    rfl
/-! vectors as data -/
abbrev Dv (v : Vc) : List PyData := v.map fun c => .tuple [.int c.1, .int c.2]
theorem dv_all {K : PySem.W.Frag} {H : Hp} : ∀ {ps : List Addr} {v : Vc}, Prs K H ps v → DpAll K H (ps.map V.ref) (Dv v)
  | _, _, .nil => .nil
  | _, _, .cons (b := c) a b => .cons (.tup (xs := [.int c.1, .int c.2]) a (.cons (.int _) (.cons (.int _) .nil))) (dv_all b)
theorem dv_eqv : ∀ v w : Vc, PyData.eqvAll (Dv v) (Dv w) = decide (v = w)
  | [], [] => by
    simp [PyData.eqvAll]
  | [], _ :: _ => by
    simp [PyData.eqvAll]
  | _ :: _, [] => by
    simp [PyData.eqvAll]
  | c :: v, d :: w => by
    have ih := dv_eqv v w
    show (PyData.eqvAll (Di [c.1, c.2]) (Di [d.1, d.2]) && PyData.eqvAll (Dv v) (Dv w)) = _
    rw [ih, eqvAll_ints]
    obtain ⟨c1, c2⟩ := c
    obtain ⟨d1, d2⟩ := d
    by_cases h1 : c1 = d1 <;> by_cases h2 : c2 = d2 <;> by_cases h3 : v = w <;> simp [h1, h2, h3]
theorem dv_can : ∀ v : Vc, PyData.canLayAll0 (Dv v) = true
  | [] => rfl
  | c :: v => by
    show (PyData.canLayAll0 (Di [c.1, c.2]) && PyData.canLayAll0 (Dv v)) = true
    rw [dv_can v, canAll_ints]; rfl
theorem dv_depth : ∀ v : Vc, PyData.depthAll (Dv v) ≤ 1
  | [] => by
    show 0 ≤ 1
    omega
  | c :: v => by
    have ih := dv_depth v
    show max (PyData.depthAll (Di [c.1, c.2]) + 1) (PyData.depthAll (Dv v)) ≤ 1
    rw [Vf.depthAll_ints]
    omega
theorem e_neVV {K : PySem.W.Frag} {H : Hp} {Q : VK} {a b : Addr} {v w : Vc} (h1 : Vec K H a v) (h2 : Vec K H b w) (q : Q (.bl (!decide (v = w))) H) : rNeD K (.ref a) (.ref b) H Q := by
  obtain ⟨ps, s1, p1⟩ := h1
  obtain ⟨qs, s2, p2⟩ := h2
  refine ⟨_, _, .tup s1 (dv_all p1), .tup s2 (dv_all p2), shaped_tuple (dv_can v) (Nat.le_trans (dv_depth v) (by decide)), shaped_tuple (dv_can w) (Nat.le_trans (dv_depth w) (by decide)), ?_⟩
  rw [show PyData.eqv (.tuple (Dv v)) (.tuple (Dv w)) = PyData.eqvAll (Dv v) (Dv w) from rfl, dv_eqv]
  exact q
theorem e_tFld {K : PySem.W.Frag} {ta : TE} {f : Str} {σ : L2.St} {H : Hp} {Q : VK} (q : ta σ H fun x H1 => ∃ a C dx fs v, x = .ref a ∧ H1 a = some (.ins C dx fs) ∧ Cls K C ∧ NoAttr K C f ∧ fs.lookup f = some v ∧ Q v H1) : tFld K ta f σ H Q := q
theorem e_sFld {K : PySem.W.Frag} {ta tv : TE} {f : Str} {D : Ends} {σ : L2.St} {H : Hp} (q : tv σ H fun y H1 => ta σ H1 fun x H2 => ∃ a C dx fs, x = .ref a ∧ H2 a = some (.ins C dx fs) ∧ Cls K C ∧ NoAttr K C f ∧ fs.length < 1000 ∧ D.nx σ (upd H2 a (.ins C dx (putF f y fs)))) : sFld K ta tv f D σ H := q
theorem e_maxF {K : PySem.W.Frag} {sp : Sp} {ta : TA} {σ : L2.St} {H : Hp} {Q : VK} (q : ta σ H fun vs H1 => rMaxF K sp vs H1 Q) : tMaxF K sp ta σ H Q := q
theorem e_js {t : TE} {ts : List TE} {acc : Str} {σ : L2.St} {H : Hp} {Q : Str → Hp → Prop} (q : t σ H fun x H1 => ∃ y : Str, x = .str y ∧ (acc ++ y).length ≤ sizeLine ∧ tJs ts (acc ++ y) σ H1 Q) : tJs (t :: ts) acc σ H Q := q
theorem e_js0 {acc : Str} {σ : L2.St} {H : Hp} {Q : Str → Hp → Prop} (q : Q acc H) : tJs [] acc σ H Q := q
theorem e_fmt {te : TE} {σ : L2.St} {H : Hp} {Q : VK} (q : te σ H fun x H1 => (∃ y : Str, x = .str y ∧ y.length ≤ sizeLine ∧ Q (.str y) H1) ∨ ∃ i : Int, x = .int i ∧ i.natAbs.log2 < 1920 ∧ Q (.str (toString i)) H1) : tFmt te σ H Q := q
/-! entries -/
abbrev cEnt (K : PySem.W.Frag) : Addr := He.ga K "Entry"
structure ET (K : PySem.W.Frag) : Prop where
  cl : Cls K (cEnt K)
  n1 : NoAttr K (cEnt K) "name"
  n2 : NoAttr K (cEnt K) "vector"
  n3 : NoAttr K (cEnt K) "height"
  n4 : NoAttr K (cEnt K) "maker"
  n5 : NoAttr K (cEnt K) "deleted"
  n6 : NoAttr K (cEnt K) "time"
  n7 : NoAttr K (cEnt K) "blocks"
structure En where
  nm : Str
  vc : Vc
  ht : Int
  mr : Int × Int
  dl : Bool
  tm : Int
  bl : List Int
def fs7 (n v h m d t b : V) : List (Str × V) := putF "blocks" b (putF "time" t (putF "deleted" d (putF "maker" m (putF "height" h (putF "vector" v (putF "name" n []))))))
def VecB (p : Bool) (K : PySem.W.Frag) (H : Hp) (v : Addr) (w : Vc) : Prop := Vec K H v w ∧ (p = true → PVec K H v w)
theorem VecB.same {p : Bool} {K : PySem.W.Frag} {H H' : Hp} {v : Addr} {w : Vc} (h : VecB p K H v w) (e : Same H H') : VecB p K H' v w := ⟨h.1.same e, fun z => (h.2 z).same e⟩
theorem VecB.of {p : Bool} {K : PySem.W.Frag} {H : Hp} {v : Addr} {w : Vc} (h : PVec K H v w) : VecB p K H v w := ⟨h.vec, fun _ => h⟩
def Ent (K : PySem.W.Frag) (H : Hp) (p : Bool) (a : Addr) (e : En) : Prop := ∃ (dx v m b : Addr) (fs : List (Str × V)), H a = some (.ins (cEnt K) dx fs) ∧
  (fs.lookup ("name" : Str) = some (.str e.nm) ∧ fs.lookup ("vector" : Str) = some (.ref v) ∧ fs.lookup ("height" : Str) = some (.int e.ht) ∧ fs.lookup ("maker" : Str) = some (.ref m) ∧ fs.lookup ("deleted" : Str) = some (.bl e.dl) ∧ fs.lookup ("time" : Str) = some (.int e.tm) ∧ fs.lookup ("blocks" : Str) = some (.ref b)) ∧
  VecB p K H v (e.vc) ∧ SqT K H m [.int e.mr.1, .int e.mr.2] ∧ SqT K H b (e.bl.map V.int)
theorem Ent.same {K : PySem.W.Frag} {H H' : Hp} {p : Bool} {a : Addr} {e : En} (h : Ent K H p a e) (s : Same H H') : Ent K H' p a e := by
  obtain ⟨dx, v, m, b, fs, h1, h2, h3, h4, h5⟩ := h
  exact ⟨dx, v, m, b, fs, s _ _ h1, h2, h3.same s, same_tup s h4, same_tup s h5⟩
theorem Ent.weak {K : PySem.W.Frag} {H : Hp} {p : Bool} {a : Addr} {e : En} (h : Ent K H p a e) : Ent K H false a e := by
  obtain ⟨dx, v, m, b, fs, h1, h2, h3, h4, h5⟩ := h
  exact ⟨dx, v, m, b, fs, h1, h2, ⟨h3.1, fun z => nomatch z⟩, h4, h5⟩
theorem sq_updE {K : PySem.W.Frag} {H : Hp} {p E : Addr} {xs l : List V} {o : HO} (h : SqT K H p xs) (e : H E = some (.lst l)) : SqT K (upd H E o) p xs := by
  rcases h with (h | ⟨c9, h⟩) | h
  · exact .inl (.inl (by rw [upd_ne (fun z => by rw [z, e] at h; cases h)]; exact h))
  · exact .inl (.inr ⟨c9, by rw [upd_ne (fun z => by rw [z, e] at h; cases h)]; exact h⟩)
  · exact .inr h
theorem pl_updE {H : Hp} {p E : Addr} {xs l : List V} {o : HO} (h : PlT H p xs) (e : H E = some (.lst l)) : PlT (upd H E o) p xs := by
  obtain ⟨c9, hd, h⟩ := h
  exact ⟨c9, hd, by rw [upd_ne (fun z => by rw [z, e] at h; cases h)]; exact h⟩
theorem prs_updE {K : PySem.W.Frag} {H : Hp} {E : Addr} {l : List V} {o : HO} {ps : List Addr} {v : Vc} (h : Prs K H ps v) (e : H E = some (.lst l)) : Prs K (upd H E o) ps v := paired_imp (fun _ _ q => sq_updE q e) h
theorem Ent.updE {K : PySem.W.Frag} {H : Hp} {p : Bool} {a E : Addr} {e : En} {l : List V} {o : HO} (h : Ent K H p a e) (he : H E = some (.lst l)) : Ent K (upd H E o) p a e := by
  obtain ⟨dx, v, m, b, fs, h1, h2, ⟨⟨ps, q1, q2⟩, h3⟩, h4, h5⟩ := h
  refine ⟨dx, v, m, b, fs, by rw [upd_ne (fun z => by rw [z, he] at h1; cases h1)]; exact h1, h2, ⟨⟨ps, sq_updE q1 he, prs_updE q2 he⟩, fun z => ?_⟩, sq_updE h4 he, sq_updE h5 he⟩
  obtain ⟨qs, r1, r2⟩ := h3 z
  exact ⟨qs, pl_updE r1 he, prs_updE r2 he⟩
section
variable {K : PySem.W.Frag} {H : Hp} {p : Bool} {a : Addr} {e : En} {P : V → Prop}
theorem f_name (t : ET K) (h : Ent K H p a e) (q : P (.str e.nm)) : ∃ a' C dx fs v, V.ref a = .ref a' ∧ H a' = some (.ins C dx fs) ∧ Cls K C ∧ NoAttr K C "name" ∧ fs.lookup ("name" : Str) = some v ∧ P v := by
  obtain ⟨dx, v, m, b, fs, h1, h2, h3, h4, h5⟩ := h
  exact ⟨a, _, dx, fs, _, rfl, h1, t.cl, t.n1, h2.1, q⟩
theorem f_vector (t : ET K) (h : Ent K H p a e) (q : ∀ v, VecB p K H v (e.vc) → P (.ref v)) : ∃ a' C dx fs v, V.ref a = .ref a' ∧ H a' = some (.ins C dx fs) ∧ Cls K C ∧ NoAttr K C "vector" ∧ fs.lookup ("vector" : Str) = some v ∧ P v := by
  obtain ⟨dx, v, m, b, fs, h1, h2, h3, h4, h5⟩ := h
  exact ⟨a, _, dx, fs, _, rfl, h1, t.cl, t.n2, h2.2.1, q v h3⟩
theorem f_height (t : ET K) (h : Ent K H p a e) (q : P (.int e.ht)) : ∃ a' C dx fs v, V.ref a = .ref a' ∧ H a' = some (.ins C dx fs) ∧ Cls K C ∧ NoAttr K C "height" ∧ fs.lookup ("height" : Str) = some v ∧ P v := by
  obtain ⟨dx, v, m, b, fs, h1, h2, h3, h4, h5⟩ := h
  exact ⟨a, _, dx, fs, _, rfl, h1, t.cl, t.n3, h2.2.2.1, q⟩
theorem f_maker (t : ET K) (h : Ent K H p a e) (q : ∀ m, SqT K H m [.int e.mr.1, .int e.mr.2] → P (.ref m)) : ∃ a' C dx fs v, V.ref a = .ref a' ∧ H a' = some (.ins C dx fs) ∧ Cls K C ∧ NoAttr K C "maker" ∧ fs.lookup ("maker" : Str) = some v ∧ P v := by
  obtain ⟨dx, v, m, b, fs, h1, h2, h3, h4, h5⟩ := h
  exact ⟨a, _, dx, fs, _, rfl, h1, t.cl, t.n4, h2.2.2.2.1, q m h4⟩
theorem f_deleted (t : ET K) (h : Ent K H p a e) (q : P (.bl e.dl)) : ∃ a' C dx fs v, V.ref a = .ref a' ∧ H a' = some (.ins C dx fs) ∧ Cls K C ∧ NoAttr K C "deleted" ∧ fs.lookup ("deleted" : Str) = some v ∧ P v := by
  obtain ⟨dx, v, m, b, fs, h1, h2, h3, h4, h5⟩ := h
  exact ⟨a, _, dx, fs, _, rfl, h1, t.cl, t.n5, h2.2.2.2.2.1, q⟩
theorem f_time (t : ET K) (h : Ent K H p a e) (q : P (.int e.tm)) : ∃ a' C dx fs v, V.ref a = .ref a' ∧ H a' = some (.ins C dx fs) ∧ Cls K C ∧ NoAttr K C "time" ∧ fs.lookup ("time" : Str) = some v ∧ P v := by
  obtain ⟨dx, v, m, b, fs, h1, h2, h3, h4, h5⟩ := h
  exact ⟨a, _, dx, fs, _, rfl, h1, t.cl, t.n6, h2.2.2.2.2.2.1, q⟩
theorem f_blocks (t : ET K) (h : Ent K H p a e) (q : ∀ b, SqT K H b (e.bl.map V.int) → P (.ref b)) : ∃ a' C dx fs v, V.ref a = .ref a' ∧ H a' = some (.ins C dx fs) ∧ Cls K C ∧ NoAttr K C "blocks" ∧ fs.lookup ("blocks" : Str) = some v ∧ P v := by
  obtain ⟨dx, v, m, b, fs, h1, h2, h3, h4, h5⟩ := h
  exact ⟨a, _, dx, fs, _, rfl, h1, t.cl, t.n7, h2.2.2.2.2.2.2, q b h5⟩
end
theorem fs7_ok (n v h m d t b : V) : (fs7 n v h m d t b).lookup ("name" : Str) = some n ∧ (fs7 n v h m d t b).lookup ("vector" : Str) = some v ∧ (fs7 n v h m d t b).lookup ("height" : Str) = some h ∧ (fs7 n v h m d t b).lookup ("maker" : Str) = some m ∧
    (fs7 n v h m d t b).lookup ("deleted" : Str) = some d ∧ (fs7 n v h m d t b).lookup ("time" : Str) = some t ∧ (fs7 n v h m d t b).lookup ("blocks" : Str) = some b := by
  unfold fs7
  refine ⟨?_, ?_, ?_, ?_, ?_, ?_, ?_⟩ <;> (repeat (rw [lookup_putF]; first | rw [if_pos rfl] | rw [if_neg (by decide)]))
/-- a new entry -/
theorem ent_made {K : PySem.W.Frag} {H : Hp} {p : Bool} {a v m b dx : Addr} (e : En) (h : H a = some (.ins (cEnt K) dx (fs7 (.str e.nm) (.ref v) (.int e.ht) (.ref m) (.bl e.dl) (.int e.tm) (.ref b)))) (hv : VecB p K H v (e.vc)) (hm : SqT K H m [.int e.mr.1, .int e.mr.2]) (hb : SqT K H b (e.bl.map V.int)) : Ent K H p a e :=
  ⟨dx, v, m, b, _, h, fs7_ok .., hv, hm, hb⟩
def sp_Entry___init__ (K : PySem.W.Frag) : Sp := fun vs H Q _ => ∃ x n v h m d t b, vs = [x, n, v, h, m, d, t, b] ∧ ∃ a dx, x = .ref a ∧ H a = some (.ins (cEnt K) dx []) ∧ Q .non (upd H a (.ins (cEnt K) dx (fs7 n v h m d t b)))
theorem e_mkE {K : PySem.W.Frag} {H1 : Hp} {P : Addr → Hp → Prop} {n v h m d t b : V} (q : ∀ a H' dx, H1 a = none → Same H1 H' → H' a = some (.ins (cEnt K) dx (fs7 n v h m d t b)) → P a H') :
    ∀ x dx, H1 x = none → H1 dx = none → dx ≠ x → sp_Entry___init__ K (.ref x :: ([n, v, h, m, d, t, b] ++ [])) (upd (upd H1 dx (.own x)) x (.ins (cEnt K) dx [])) (fun u H2 => u = .non ∧ P x H2) E0 := by
  intro x dx hx hdx ne
  refine ⟨_, _, _, _, _, _, _, _, rfl, x, dx, rfl, upd_same, rfl, ?_⟩
  rw [upd_upd]
  exact q x _ dx hx (Same.mut (same_new hdx) hx) upd_same
def enEq (e g : En) : Bool := decide (e.nm = g.nm) && (decide (e.vc = g.vc) && (decide (e.ht = g.ht) && (decide (e.mr = g.mr) && ((e.dl == g.dl) && (decide (e.tm = g.tm) && decide (e.bl = g.bl))))))
def sp_Entry___eq__ (K : PySem.W.Frag) : Sp := sp2 fun x y H Q => ∃ (a : Addr) (p : Bool) (e : En), x = .ref a ∧ Ent K H p a e ∧
  ((∃ (b : Addr) (p2 : Bool) (g : En), y = .ref b ∧ Ent K H p2 b g ∧ Q (.bl (enEq e g)) H) ∨ (∃ (t : Addr) (ys : List V), y = .ref t ∧ H t = some (.lst ys) ∧ Q (.bl false) H))
/-- two entries compared -/
theorem e_eqEE {K : PySem.W.Frag} {H : Hp} {Q : VK} {a b : Addr} {p p2 : Bool} {e g : En} (h1 : Ent K H p a e) (h2 : Ent K H p2 b g) (q : Q (.bl (enEq e g)) H) : rEqOL K (cEnt K) (sp_Entry___eq__ K) E0 (.ref a) (.ref b) H Q := by
  obtain ⟨dx, v, m, bb, fs, k1, _⟩ := id h1
  obtain ⟨dy, v2, m2, bb2, gs, k2, _⟩ := id h2
  exact ⟨a, b, dx, fs, rfl, rfl, k1, .inl ⟨dy, gs, k2⟩, _, _, rfl, a, p, e, rfl, h1, .inl ⟨b, p2, g, rfl, h2, _, rfl, q⟩⟩
theorem enEq_self (e : En) : enEq e e = true := by
  unfold enEq
  simp
theorem len_put {f : Str} {v : V} : ∀ {fs : List (Str × V)} {n : Nat}, fs.length ≤ n → (putF f v fs).length ≤ n + 1
  | [], n, h => by show 1 ≤ n + 1; omega
  | (g, x) :: r, n, h => by
    show (if g = f then (g, v) :: r else (g, x) :: putF f v r).length ≤ n + 1
    rw [List.length_cons] at h
    by_cases e : g = f
    · rw [if_pos e, List.length_cons]; omega
    · rw [if_neg e, List.length_cons]
      have := len_put (f := f) (v := v) (fs := r) (n := n - 1) (by omega)
      omega
theorem lt_put {fs : List (Str × V)} (h : fs.length ≤ 8) : fs.length < 1000 := Nat.lt_of_le_of_lt h (by decide)
/-! entries within lists and tuples: == by the own __eq__ -/
def RE (K : PySem.W.Frag) (a b : Addr) (H : Hp) : Prop := ∃ p q e, Ent K H p a e ∧ Ent K H q b e
theorem mon_RE {K : PySem.W.Frag} : ∀ a b H H', L2.Ext H H' → RE K a b H → RE K a b H' := fun a b H H' s h => by
  obtain ⟨p, q, e, h1, h2⟩ := h
  exact ⟨p, q, e, h1.same s, h2.same s⟩
/-- plain, or entries -/
def DEl (K : PySem.W.Frag) : L2.Eqv := fun x y H => L2.DFlat x y H ∨ L2.DIns (cEnt K) (RE K) x y H
theorem mon_DEl {K : PySem.W.Frag} : L2.Mon (DEl K) := L2.Mon.or L2.mon_flat (L2.mon_ins mon_RE)
theorem op_eqN {X : Cx} {k j : Nat} (c : EqC X.prog X.w X.K X.mg X.base k "Entry" (sp_Entry___eq__ X.K)) (hr : Room j X.A) (hk : k + 2 ≤ j) : OpR X (compareOp .Eq) (L2.rEqG (L2.DList (L2.DTup X.K (DEl X.K)))) := by
  obtain ⟨f, fd, ps, F, hs, hf, hb⟩ := c.ex
  have F2 : FnOk X.prog X.w X.K X.mg X.base CX0 k f fd ps (L2.spEq (RE X.K)) := F.imp fun vs H Q E h => by
    obtain ⟨a, b, rfl, ⟨p, q, e, h1, h2⟩, hQ⟩ := h
    exact ⟨_, _, rfl, a, p, e, rfl, h1, .inl ⟨b, q, e, rfl, h2, by rw [enEq_self]; exact hQ H (fun _ _ z => z)⟩⟩
  have g1 : L2.EqG X k (DEl X.K) := L2.EqG.or (L2.eqG_flat.mono (Nat.zero_le _)) (L2.eqG_ins F2 hs hf hb pass0)
  exact L2.op_eqG (L2.rcG_list (L2.mon_tup mon_DEl) (L2.eqG_tup mon_DEl g1)) (hr.mono hk)
/-! ### what stands but at some places -/
def Fr (S : List Addr) (H H' : Hp) : Prop := ∀ x o, x ∉ S → H x = some o → H' x = some o
theorem Fr.of {S : List Addr} {H H' : Hp} (h : Same H H') : Fr S H H' := fun x o _ e => h x o e
theorem Fr.refl (S : List Addr) (H : Hp) : Fr S H H := fun _ _ _ e => e
theorem Fr.trans {S : List Addr} {H H1 H2 : Hp} (h : Fr S H H1) (g : Fr S H1 H2) : Fr S H H2 := fun x o n e => g x o n (h x o n e)
theorem Fr.same {S : List Addr} {H H1 H2 : Hp} (h : Fr S H H1) (g : Same H1 H2) : Fr S H H2 := fun x o n e => g x o (h x o n e)
theorem Fr.put {S : List Addr} {H H1 : Hp} {a : Addr} {o : HO} (h : Fr S H H1) (m : a ∈ S) : Fr S H (upd H1 a o) := fun x o' n e => by
  rw [upd_ne fun z => n (by rw [z]; exact m)]
  exact h x o' n e
theorem Fr.mono {S S' : List Addr} {H H1 : Hp} (h : Fr S H H1) (m : ∀ x ∈ S, x ∈ S') : Fr S' H H1 := fun x o n e => h x o (fun z => n (m x z)) e
theorem Fr.mut {S : List Addr} {H H1 : Hp} {a : Addr} {o : HO} (h : Fr S H H1) (m : H a = none) : Fr S H (upd H1 a o) := fun x o' n e => by
  rw [upd_ne (ne_of_none e m)]
  exact h x o' n e
theorem Fr.put2 {S : List Addr} {H H1 : Hp} {a : Addr} {o : HO} (h : Fr S H H1) (m : a ∈ S ∨ H a = none) : Fr S H (upd H1 a o) := m.elim (fun m => h.put m) fun m => h.mut m
/-! ### the heap without some places -/
def hid (D : List Addr) (H : Hp) : Hp := fun b => if b ∈ D then none else H b
theorem hid_at {D : List Addr} {H : Hp} {b : Addr} (n : b ∉ D) : hid D H b = H b := by unfold hid; rw [if_neg n]
theorem hid_in {D : List Addr} {H : Hp} {b : Addr} (m : b ∈ D) : hid D H b = none := by unfold hid; rw [if_pos m]
theorem hid_some {D : List Addr} {H : Hp} {b : Addr} {o : HO} (h : hid D H b = some o) : b ∉ D ∧ H b = some o := by
  by_cases m : b ∈ D
  · rw [hid_in m] at h; cases h
  · rw [hid_at m] at h; exact ⟨m, h⟩
theorem hid_upd {D : List Addr} {H : Hp} {p : Addr} {o : HO} (n : p ∉ D) : hid D (upd H p o) = upd (hid D H) p o := by
  funext b
  by_cases e : b = p
  · rw [e, hid_at n, upd_same, upd_same]
  · rw [upd_ne e]
    by_cases m : b ∈ D
    · rw [hid_in m, hid_in m]
    · rw [hid_at m, hid_at m, upd_ne e]
theorem hid_upd_in {D : List Addr} {H : Hp} {p : Addr} {o : HO} (m : p ∈ D) : hid D (upd H p o) = hid D H := by
  funext b
  by_cases m2 : b ∈ D
  · rw [hid_in m2, hid_in m2]
  · rw [hid_at m2, hid_at m2, upd_ne fun e => m2 (by rw [e]; exact m)]
theorem hid_fr {D : List Addr} {H H' : Hp} (f : Fr D H H') : Same (hid D H) (hid D H') := fun b o h => by
  obtain ⟨n, e⟩ := hid_some h
  rw [hid_at n]
  exact f b o n e
theorem hid_same {D : List Addr} {H H' : Hp} (s : Same H H') : Same (hid D H) (hid D H') := hid_fr (Fr.of s)
theorem hid_sub {D : List Addr} {H : Hp} : Same (hid D H) H := fun b o h => (hid_some h).2
theorem hid_nil {H : Hp} : hid [] H = H := by funext b; exact hid_at (by simp)
theorem hid_none {D : List Addr} {H : Hp} {b : Addr} (h : H b = none) : hid D H b = none := by
  by_cases m : b ∈ D
  · exact hid_in m
  · rw [hid_at m]; exact h
theorem hid_new {H : Hp} {D p : Addr} {o o' : HO} (hD : H D = some o') (hp : H p = none) : hid [D] (upd H p o) = upd (hid [D] H) p o := hid_upd (by
  intro m
  rw [List.mem_singleton.mp m, hD] at hp
  cases hp)
/-- a list made by a comprehension whose elements stand in a relation to their places -/
theorem lc_rel {J : It} {n : Nat} {G : Hp → Prop} {Y : Nat → Hp → V → Hp → Prop} (w : Walk J n G Y) {g : TG} {te : TE} {vs : List Nat} {σ : L2.St} {Da : Addr} {H0 : Hp} {Q : VK} (hD : H0 Da = none) (hn : n ≤ 1000000)
    (hG : ∀ H, Same H0 H → G H) (R : Nat → V → Hp → Prop) (mono : ∀ i v H H', R i v H → Same H H' → R i v H')
    (hs : ∀ (i : Nat) (x : V) (H H' : Hp) (C : VK) (E : Hp → Prop) (acc : List V), i < n → Same H0 H → H Da = some (.lst acc) → Y i H x H' → (∀ v H3, Same H H3 → R i v (hid [Da] H3) → C v H3) →
      g x (wipe σ vs) H' fun σ2 H2 => wipe σ2 vs = wipe σ vs ∧ tYes σ2 H2 fun b H3 => if b = true then te σ2 H3 C else E H3)
    (hd : ∀ (H : Hp) (us : List V), Same H0 H → H Da = some (.lst us) → us.length = n → (∀ i v, us[i]? = some v → R i v (hid [Da] H)) → Q (.ref Da) H) : LcB J g tYes te vs σ Da H0 Q := by
  refine lc_it w (fun i H => Same H0 H ∧ ∃ us, H Da = some (.lst us) ∧ us.length = i ∧ ∀ j v, us[j]? = some v → R j v (hid [Da] H)) ⟨same_new hD, [], upd_same, rfl, fun j v h => by simp at h⟩ (fun i H _ p => hG H p.1) (fun i x H H' hi p y => ?_) (fun H p => ?_)
  · obtain ⟨s1, us, e1, l1, r1⟩ := p
    refine hs i x H H' _ _ _ hi s1 e1 y fun v H3 s3 r3 => ?_
    refine ⟨us, s3 _ _ e1, Nat.lt_of_le_of_lt (by omega : _ ≤ 1000000) (by decide), Same.mut (s1.trans s3) hD, us ++ [v], upd_same, by simp [l1], fun j u hj => ?_⟩
    rw [hid_upd_in (List.mem_singleton.mpr rfl)]
    by_cases hl : j < us.length
    · rw [List.getElem?_append_left hl] at hj
      exact mono _ _ _ _ (r1 j u hj) (hid_same s3)
    · rw [List.getElem?_append_right (by omega)] at hj
      have hj2 := (List.getElem?_eq_some_iff.mp hj).1
      have z : j = i := by simp at hj2; omega
      subst z
      rw [l1, Nat.sub_self] at hj
      cases hj
      exact r3
  · obtain ⟨s1, us, e1, l1, r1⟩ := p
    exact hd H us s1 e1 l1 r1
theorem kp_fr {st : Addr} {H H' : Hp} (k : Kp st H H') : Fr [st] H H' := fun x o n e => k x o (fun z => n (List.mem_singleton.mpr z)) e
theorem kp_same {st : Addr} {H H' : Hp} (k : Kp st H H') : Same (hid [st] H) (hid [st] H') := hid_fr (kp_fr k)
theorem hid_le {D E : List Addr} {H : Hp} (h : ∀ x ∈ D, x ∈ E) : Same (hid E H) (hid D H) := fun b o e => by
  obtain ⟨n, e⟩ := hid_some e
  rw [hid_at fun m => n (h b m)]
  exact e
theorem prd_mk {α β : Type} {F : α → β → Prop} : ∀ {l : List α} {m : List β}, l.length = m.length → (∀ (i : Nat) (a : α) (b : β), l[i]? = some a → m[i]? = some b → F a b) → Paired F l m
  | [], [], _, _ => .nil
  | a :: l, b :: m, e, h => .cons (h 0 a b rfl rfl) (prd_mk (by simpa using e) fun i x y h1 h2 => h (i + 1) x y h1 h2)
def NT (H : Hp) (d : Addr) : Prop := (∀ xs, H d ≠ some (.tup xs)) ∧ ∀ c xs, H d ≠ some (.frz c (.tup xs))
theorem sqT_hid {K : PySem.W.Frag} {D : List Addr} {H : Hp} {p : Addr} {xs : List V} (h : SqT K H p xs) (n : ∀ d ∈ D, NT H d) : SqT K (hid D H) p xs := by
  rcases h with (h | ⟨c9, h⟩) | h
  · exact .inl (.inl (by rw [hid_at fun m => (n p m).1 _ h]; exact h))
  · exact .inl (.inr ⟨c9, by rw [hid_at fun m => (n p m).2 _ _ h]; exact h⟩)
  · exact .inr h
theorem vec_hid {K : PySem.W.Frag} {D : List Addr} {H : Hp} {a : Addr} {v : Vc} (h : Vec K H a v) (n : ∀ d ∈ D, NT H d) : Vec K (hid D H) a v := by
  obtain ⟨ps, h1, h2⟩ := h
  exact ⟨ps, sqT_hid h1 n, paired_imp (fun _ _ q => sqT_hid q n) h2⟩
theorem nt_lst {H : Hp} {d : Addr} {xs : List V} (h : H d = some (.lst xs)) : NT H d := ⟨fun _ z => (by rw [h] at z; cases z), fun _ _ z => (by rw [h] at z; cases z)⟩
theorem e_cat {H : Hp} {Q : VK} {a b : Addr} {xs ys : List V} (h1 : H a = some (.lst xs)) (h2 : H b = some (.lst ys)) (hn : xs.length + ys.length ≤ 100000) (q : ∀ p, H p = none → Q (.ref p) (upd H p (.lst (xs ++ ys)))) : rCat (.ref a) (.ref b) H Q :=
  ⟨a, b, xs, ys, rfl, rfl, h1, h2, Nat.le_trans hn (by decide), q⟩
theorem e_slA {K : PySem.W.Frag} {H : Hp} {Q : VK} {p : Addr} {xs : List V} {lo hi : Option Int} (h : SqT K H p xs) (q : ∀ r H', Same H H' → SqT K H' r (cutV xs lo hi) → Q (.ref r) H') : rSlA K (.ref p) lo hi H Q := by
  refine ⟨p, xs, rfl, h, fun w => q p H (Same.refl H) ?_, fun _ r hr => q r _ (same_new hr) (SqT.of upd_same)⟩
  have e : cutV xs lo hi = xs := by
    unfold cutV
    rw [w.1, w.2, List.drop_zero, Nat.sub_zero, List.take_length]
  rw [e]; exact h
theorem cut_toV (xs : List V) (c : Nat) : cutV xs none (some (c : Int)) = xs.take c := by
  unfold cutV
  rw [HT.sIx_nat, show HT.sIx xs.length 0 none = 0 from rfl, List.drop_zero, Nat.sub_zero]
  by_cases h : c ≤ xs.length
  · rw [Nat.min_eq_left h]
  · rw [Nat.min_eq_right (by omega), List.take_of_length_le (Nat.le_refl _), List.take_of_length_le (by omega)]
theorem cut_fromV (xs : List V) (c : Nat) : cutV xs (some (c : Int)) none = xs.drop c := by
  unfold cutV
  rw [HT.sIx_nat, show HT.sIx xs.length xs.length none = xs.length from rfl]
  by_cases h : c ≤ xs.length
  · rw [Nat.min_eq_left h, List.take_of_length_le (by simp)]
  · rw [Nat.min_eq_right (by omega), List.drop_eq_nil_of_le (Nat.le_refl _), List.drop_eq_nil_of_le (by omega)]
    simp
theorem cut_last (xs : List V) : cutV xs none (some (-1)) = xs.dropLast := by
  unfold cutV
  have e : HT.sIx xs.length xs.length (some (-1)) = xs.length - 1 := by
    show (if (-1 : Int) < 0 then ((-1 : Int) + (xs.length : Int)).toNat else min (-1 : Int).toNat xs.length) = _
    rw [if_pos (by decide)]
    omega
  rw [e, HT.sIx_none, List.drop_zero, Nat.sub_zero, List.dropLast_eq_take]
/-! ### numbers as bytes -/
def wd (n : Int) (w : Nat) : List Int := (List.range w).map fun k => n / 256 ^ (w - 1 - k) % 256
theorem byte4 {n : Int} {i : Nat} (h : i < 4) : n / 2 ^ (8 * (0 + (((4 : Int) - 0).toNat : Int) - 1 + (i : Int) * -1)).toNat % 2 ^ 8 = n / 256 ^ (4 - 1 - i) % 256 := by
  have e : (8 * (0 + (((4 : Int) - 0).toNat : Int) - 1 + (i : Int) * -1)).toNat = 8 * (4 - 1 - i) := by
    show (8 * (0 + (4 : Int) - 1 + (i : Int) * -1)).toNat = _
    omega
  rw [e, Int.pow_mul]
  rfl
theorem wd_len (n : Int) (w : Nat) : (wd n w).length = w := by unfold wd; rw [List.length_map, List.length_range]
theorem wd4 (n : Int) : wd n 4 = [n / 16777216 % 256, n / 65536 % 256, n / 256 % 256, n / 1 % 256] := rfl
theorem wd_mapV (n : Int) (w : Nat) : (wd n w).map V.int = (List.range w).map fun k => V.int (n / 256 ^ (w - 1 - k) % 256) := by unfold wd; rw [List.map_map]; rfl
theorem pow256 (m : Nat) : (2 : Int) ^ (8 * m) = 256 ^ m := by rw [Int.pow_mul]; rfl
def nmB (z : Str) : List Int := (z.length : Int) :: z.cps.toList.map fun c : Nat => (c : Int)
def vcB (v : Vc) : List Int := (v.length : Int) :: v.flatMap fun c => c.1 :: wd c.2 4
def bkB (bl : List Int) : List Int := (bl.length : Int) :: bl.flatMap fun b => ((bbytes b).length : Int) :: bbytes b
def enB (e : En) (n : Int) : List Int := wd n 4 ++ nmB e.nm ++ vcB e.vc ++ (wd e.ht 4 ++ [e.mr.1] ++ wd e.mr.2 4) ++ ([if e.dl = true then 1 else 0] ++ wd e.tm 4 ++ [(e.bl.length : Int)]) ++ e.bl.flatMap fun b => ((bbytes b).length : Int) :: bbytes b
def chk (xs : List Int) : Int × Int := xs.foldl (fun s b => ((s.1 + b) % 251, (s.2 + (s.1 + b) % 251) % 251)) (1, 0)
theorem chk_snoc (pre : List Int) (x : Int) : chk (pre ++ [x]) = (((chk pre).1 + x) % 251, ((chk pre).2 + ((chk pre).1 + x) % 251) % 251) := by
  unfold chk
  rw [List.foldl_append]
  rfl
def hd2 (body : List Int) : List Int := [(body.length : Int) / 256, (body.length : Int) % 256] ++ body
def frm (body : List Int) : List Int := hd2 body ++ [(chk (hd2 body)).1, (chk (hd2 body)).2]
/-- what the blocks of an entry are -/
def OkB (bl : List Int) : Prop := bl.length ≤ 255 ∧ ∀ b ∈ bl, 0 < bsize b
abbrev LstI (H : Hp) (p : Addr) (xs : List Int) : Prop := H p = some (.lst (xs.map V.int))
theorem if_tC {b : Bool} {x y : Int} {σ : L2.St} {H : Hp} {Q : VK} (q : Q (.int (if b = true then x else y)) H) : if b = true then tC (.int x) σ H Q else tC (.int y) σ H Q := by cases b <;> exact q
theorem same_fr {H0 H H' : Hp} {l : Addr} (s : Same H0 H) (h : H0 l = none) (f : Fr [l] H H') : Same H0 H' := fun b o e => f b o (fun m => by rw [List.mem_singleton.mp m, h] at e; cases e) (s b o e)
theorem e_catI {H : Hp} {Q : VK} {a b : Addr} {xs ys : List Int} (h1 : LstI H a xs) (h2 : LstI H b ys) (hn : xs.length + ys.length ≤ 100000) (q : ∀ p H', H p = none → Same H H' → LstI H' p (xs ++ ys) → Q (.ref p) H') : rCat (.ref a) (.ref b) H Q :=
  e_cat h1 h2 (by rw [List.length_map, List.length_map]; exact hn) fun p hp => q p _ hp (same_new hp) (by unfold LstI; rw [upd_same, List.map_append])
theorem e_extI {H : Hp} {Q : VK} {l b : Addr} {xs ys : List Int} (h : LstI H l xs) (hb : LstI H b ys) (hn : xs.length + ys.length ≤ 100000) (q : ∀ H', Fr [l] H H' → LstI H' l (xs ++ ys) → Q .non H') : rExtend (.ref l) [.ref b] H Q :=
  e_ext h hb (by rw [List.length_map, List.length_map]; exact Nat.le_trans hn (by decide)) (q _ ((Fr.refl _ _).put (List.mem_cons_self ..)) (by unfold LstI; rw [upd_same, List.map_append]))
theorem e_appI {H : Hp} {Q : VK} {l : Addr} {xs : List Int} {y : Int} (h : LstI H l xs) (hn : xs.length ≤ 100000) (q : ∀ H', Fr [l] H H' → LstI H' l (xs ++ [y]) → Q .non H') : rAppend (.ref l) [.int y] H Q :=
  e_app h (by rw [List.length_map]; exact Nat.lt_of_le_of_lt hn (by decide)) (q _ ((Fr.refl _ _).put (List.mem_cons_self ..)) (by unfold LstI; rw [upd_same, List.map_append]; rfl))
theorem LstI.fr {H H' : Hp} {l a : Addr} {xs : List Int} (h : LstI H a xs) (n : a ≠ l) (f : Fr [l] H H') : LstI H' a xs := f _ _ (fun m => n (List.mem_singleton.mp m)) h
theorem sqT_fr' {K : PySem.W.Frag} {H H1 : Hp} {l p : Addr} {v : List V} {ys : List Int} (h : SqT K H p v) (f : Fr [l] H H1) (hl : LstI H l ys) : SqT K H1 p v := by
  rcases h with (h | ⟨c9, h⟩) | h
  · exact .inl (.inl (f _ _ (fun m => by rw [List.mem_singleton.mp m] at h; unfold LstI at hl; rw [hl] at h; cases h) h))
  · exact .inl (.inr ⟨c9, f _ _ (fun m => by rw [List.mem_singleton.mp m] at h; unfold LstI at hl; rw [hl] at h; cases h) h⟩)
  · exact .inr h
def sp_number_bytes (K : PySem.W.Frag) : Sp := sp1 fun x H Q => ∃ n : Int, x = .int n ∧ ∀ p H', H p = none → Same H H' → LstI H' p (wd n 4) → Q (.ref p) H'
def sp_name_bytes (K : PySem.W.Frag) : Sp := sp1 fun x H Q => ∃ z : Str, x = .str z ∧ z.length ≤ 1000 ∧ ∀ p H', H p = none → Same H H' → LstI H' p (nmB z) → Q (.ref p) H'
def sp_row_bytes (K : PySem.W.Frag) : Sp := sp1 fun x H Q => ∃ (a : Addr) (xs : List Int), x = .ref a ∧ (SqL K H a (xs.map V.int) ∨ SqT K H a (xs.map V.int)) ∧ xs.length ≤ 1000 ∧ ∀ p H', H p = none → Same H H' → LstI H' p ((xs.length : Int) :: xs) → Q (.ref p) H'
def sp_vector_bytes (K : PySem.W.Frag) : Sp := sp1 fun x H Q => ∃ (a : Addr) (v : Vc), x = .ref a ∧ Vec K H a v ∧ v.length ≤ 9 ∧ ∀ p H', H p = none → Same H H' → LstI H' p (vcB v) → Q (.ref p) H'
def sp_entry_bytes (K : PySem.W.Frag) : Sp := sp2 fun x y H Q => ∃ (a : Addr) (q : Bool) (e : En) (n : Int), x = .ref a ∧ y = .int n ∧ Ent K H q a e ∧ e.nm.length ≤ 40 ∧ e.vc.length ≤ 9 ∧ OkB e.bl ∧ ∀ p H', H p = none → Same H H' → LstI H' p (enB e n) → Q (.ref p) H'
def sp_check_of (K : PySem.W.Frag) : Sp := sp1 fun x H Q => ∃ (a : Addr) (xs : List Int), x = .ref a ∧ LstI H a xs ∧ ∀ p H', H p = none → Same H H' → LstI H' p [(chk xs).1, (chk xs).2] → Q (.ref p) H'
def sp_framed (K : PySem.W.Frag) : Sp := sp1 fun x H Q => ∃ (a : Addr) (xs : List Int), x = .ref a ∧ LstI H a xs ∧ xs.length ≤ 5000 ∧ ∀ p H', H p = none → Same H H' → LstI H' p (frm xs) → Q (.ref p) H'
def spRec (K : PySem.W.Frag) (kd : Int) : Sp := sp2 fun x y H Q => ∃ (a : Addr) (q : Bool) (e : En) (n : Int), x = .ref a ∧ y = .int n ∧ Ent K H q a e ∧ e.nm.length ≤ 40 ∧ e.vc.length ≤ 9 ∧ OkB e.bl ∧ ∀ p H', H p = none → Same H H' → LstI H' p (frm (kd :: enB e n)) → Q (.ref p) H'
def sp_record_of (K : PySem.W.Frag) : Sp := spRec K 0
def sp_intent_record (K : PySem.W.Frag) : Sp := spRec K 3
def sp_peer_record (K : PySem.W.Frag) : Sp := sp3 fun z x y H Q => ∃ (a : Addr) (q : Bool) (e : En) (n d : Int), z = .int d ∧ x = .ref a ∧ y = .int n ∧ Ent K H q a e ∧ e.nm.length ≤ 40 ∧ e.vc.length ≤ 9 ∧ OkB e.bl ∧ ∀ p H', H p = none → Same H H' → LstI H' p (frm (1 :: d :: enB e n)) → Q (.ref p) H'
def sp_upto_record (K : PySem.W.Frag) : Sp := sp2 fun z y H Q => ∃ (n d : Int), z = .int d ∧ y = .int n ∧ ∀ p H', H p = none → Same H H' → LstI H' p (frm (2 :: d :: wd n 4)) → Q (.ref p) H'
theorem sz4 (bl : List Int) (h : ∀ b ∈ bl, (bbytes b).length ≤ 4) : (bl.flatMap fun b => ((bbytes b).length : Int) :: bbytes b).length ≤ 5 * bl.length := by
  induction bl with
  | nil => simp
  | cons b bl ih =>
    have h1 := h b (List.mem_cons_self ..)
    have h2 := ih fun x m => h x (List.mem_cons_of_mem _ m)
    rw [List.flatMap_cons, List.length_append, List.length_cons, List.length_cons]
    omega
theorem vc_len (v : Vc) : (vcB v).length = 1 + 5 * v.length := by
  unfold vcB
  rw [List.length_cons]
  induction v with
  | nil => rfl
  | cons c v ih =>
    rw [List.flatMap_cons, List.length_append, List.length_cons, wd_len]
    rw [List.length_cons]
    omega
theorem enB_len {e : En} {n : Int} (h1 : e.nm.length ≤ 40) (h2 : e.vc.length ≤ 9) (h3 : OkB e.bl) : (enB e n).length ≤ 2000 := by
  have h4 := sz4 e.bl fun b _ => bbytes_len b
  have h5 := vc_len e.vc
  have h6 : (nmB e.nm).length = 1 + e.nm.length := by unfold nmB; rw [List.length_cons, List.length_map]; simp [Str.length]; omega
  have h7 := h3.1
  unfold enB
  simp only [List.length_append, wd_len, List.length_cons, List.length_nil]
  omega
theorem e_sFldAug {K : PySem.W.Frag} {ta tv : TE} {rd : V → V → Hp → VK → Prop} {f : Str} {D : Ends} {σ : L2.St} {H : Hp} (q : ta σ H fun x H1 => ∃ a C dx fs v, x = .ref a ∧ H1 a = some (.ins C dx fs) ∧ Cls K C ∧ NoAttr K C f ∧ fs.lookup f = some v ∧
  tv σ H1 fun y H2 => rd v y H2 fun z H3 => ∃ dx' fs', H3 a = some (.ins C dx' fs') ∧ fs'.length < 1000 ∧ D.nx σ (upd H3 a (.ins C dx' (putF f z fs')))) : sFldAug K ta tv rd f D σ H := q
theorem e_tMeth {C : Addr} {m : Str} {sp : Sp} {dvs : List V} {E : XK} {ta : TE} {t : TA} {σ : L2.St} {H : Hp} {Q : VK} (q : ta σ H fun x H1 => ∃ a dx fs, x = .ref a ∧ H1 a = some (.ins C dx fs) ∧ fs.lookup m = none ∧ t σ H1 fun vs H2 => sp (x :: (vs ++ dvs)) H2 Q E) : tMeth C m sp dvs E ta t σ H Q := q
/-! ### a reader -/
abbrev cRd (K : PySem.W.Frag) : Addr := He.ga K "Reader"
structure RDT (K : PySem.W.Frag) : Prop where
  cl : Cls K (cRd K)
  n1 : NoAttr K (cRd K) "_data"
  n2 : NoAttr K (cRd K) "at"
structure RdX (K : PySem.W.Frag) (H : Hp) (a : Addr) (d : List Int) (p : Nat) (dx dl : Addr) (fs : List (Str × V)) : Prop where
  ins : H a = some (.ins (cRd K) dx fs)
  len : fs.length ≤ 3
  l1 : fs.lookup ("_data" : Str) = some (.ref dl)
  l2 : fs.lookup ("at" : Str) = some (.int (p : Nat))
  l0 : ∀ m : Str, m ∉ (["_data", "at"] : List Str) → fs.lookup m = none
  g : LstI H dl d
def Rd (K : PySem.W.Frag) (H : Hp) (a dl : Addr) (d : List Int) (p : Nat) : Prop := ∃ dx fs, RdX K H a d p dx dl fs
theorem Rd.same {K : PySem.W.Frag} {H H' : Hp} {a dl : Addr} {d : List Int} {p : Nat} (h : Rd K H a dl d p) (s : Same H H') : Rd K H' a dl d p := by
  obtain ⟨dx, fs, x⟩ := h
  exact ⟨dx, fs, s _ _ x.ins, x.len, x.l1, x.l2, x.l0, s _ _ x.g⟩
theorem Rd.ins {K : PySem.W.Frag} {H : Hp} {a dl : Addr} {d : List Int} {p : Nat} (h : Rd K H a dl d p) : ∃ dx fs, H a = some (.ins (cRd K) dx fs) := let ⟨dx, fs, x⟩ := h; ⟨dx, fs, x.ins⟩
theorem Rd.free {K : PySem.W.Frag} {H : Hp} {a dl D : Addr} {d : List Int} {p : Nat} (h : Rd K H a dl d p) (n : H D = none) : D ≠ a ∧ D ≠ dl := by
  obtain ⟨dx, fs, x⟩ := h
  have g := x.g
  unfold LstI at g
  exact ⟨fun z => (by rw [z, x.ins] at n; cases n), fun z => (by rw [z, g] at n; cases n)⟩
theorem Rd.mut {K : PySem.W.Frag} {H : Hp} {a dl D : Addr} {d : List Int} {p : Nat} {o : HO} (h : Rd K H a dl d p) (n : D ≠ a ∧ D ≠ dl) : Rd K (upd H D o) a dl d p := by
  obtain ⟨dx, fs, x⟩ := h
  exact ⟨dx, fs, by rw [upd_ne (Ne.symm n.1)]; exact x.ins, x.len, x.l1, x.l2, x.l0, by unfold LstI; rw [upd_ne (Ne.symm n.2)]; exact x.g⟩
theorem put_len {f : Str} {v u : V} : ∀ {fs : List (Str × V)}, fs.lookup f = some v → (putF f u fs).length = fs.length
  | (g, x) :: r, h => by
    show (if g = f then (g, u) :: r else (g, x) :: putF f u r).length = _
    by_cases e : g = f
    · rw [if_pos e]; rfl
    · rw [if_neg e, List.length_cons, List.length_cons, put_len (by
        have hb : (f == g) = false := by
          rw [beq_eq_false_iff_ne]
          exact fun z => e z.symm
        simpa [List.lookup, hb] using h)]
theorem RdX.go {K : PySem.W.Frag} {H : Hp} {a dx dl : Addr} {d : List Int} {p : Nat} {fs : List (Str × V)} (x : RdX K H a d p dx dl fs) (q : Nat) : RdX K (upd H a (.ins (cRd K) dx (putF "at" (.int (q : Nat)) fs))) a d q dx dl (putF "at" (.int (q : Nat)) fs) := by
  have n : dl ≠ a := fun z => by have := x.g; unfold LstI at this; rw [z, x.ins] at this; cases this
  refine ⟨upd_same, by rw [put_len x.l2]; exact x.len, by rw [lookup_putF, if_neg (by decide)]; exact x.l1, by rw [lookup_putF, if_pos rfl], fun m hm => ?_, by unfold LstI; rw [upd_ne n]; exact x.g⟩
  rw [lookup_putF, if_neg (fun e => hm (by rw [e]; decide))]
  exact x.l0 m hm
section
variable {K : PySem.W.Frag} {H : Hp} {a dx dl : Addr} {d : List Int} {p : Nat} {fs : List (Str × V)} {P : V → Prop}
theorem r_data (t : RDT K) (x : RdX K H a d p dx dl fs) (q : P (.ref dl)) : ∃ a' C dx fs v, V.ref a = .ref a' ∧ H a' = some (.ins C dx fs) ∧ Cls K C ∧ NoAttr K C "_data" ∧ fs.lookup ("_data" : Str) = some v ∧ P v := ⟨a, _, dx, fs, _, rfl, x.ins, t.cl, t.n1, x.l1, q⟩
theorem r_at (t : RDT K) (x : RdX K H a d p dx dl fs) (q : P (.int (p : Nat))) : ∃ a' C dx fs v, V.ref a = .ref a' ∧ H a' = some (.ins C dx fs) ∧ Cls K C ∧ NoAttr K C "at" ∧ fs.lookup ("at" : Str) = some v ∧ P v := ⟨a, _, dx, fs, _, rfl, x.ins, t.cl, t.n2, x.l2, q⟩
theorem r_meth {m : Str} {R : Prop} (x : Rd K H a dl d p) (hm : m ∉ (["_data", "at"] : List Str)) (q : R) : ∃ a' dx fs, V.ref a = .ref a' ∧ H a' = some (.ins (cRd K) dx fs) ∧ fs.lookup m = none ∧ R := by
  obtain ⟨dx, fs, x⟩ := x
  exact ⟨a, dx, fs, rfl, x.ins, x.l0 m hm, q⟩
end
theorem sqT_fr {K : PySem.W.Frag} {D : List Addr} {H H1 : Hp} {a : Addr} {v : List V} (h : SqT K H a v) (f : Fr D H H1) (n : ∀ d ∈ D, NT H d) : SqT K H1 a v := same_tup hid_sub (same_tup (hid_fr f) (sqT_hid h n))
theorem vec_fr {K : PySem.W.Frag} {D : List Addr} {H H1 : Hp} {a : Addr} {v : Vc} (h : Vec K H a v) (f : Fr D H H1) (n : ∀ d ∈ D, NT H d) : Vec K H1 a v := ((vec_hid h n).same (hid_fr f)).same hid_sub
theorem nt_ins {H : Hp} {d C dx : Addr} {fs : List (Str × V)} (h : H d = some (.ins C dx fs)) : NT H d := ⟨fun _ z => (by rw [h] at z; cases z), fun _ _ z => (by rw [h] at z; cases z)⟩
theorem Rd.nt {K : PySem.W.Frag} {H : Hp} {a dl : Addr} {d : List Int} {p : Nat} (h : Rd K H a dl d p) : ∀ b ∈ [a], NT H b := fun b m => by
  obtain ⟨dx, fs, e⟩ := h.ins
  rw [List.mem_singleton.mp m]; exact nt_ins e
theorem Rd.lst {K : PySem.W.Frag} {H H' : Hp} {a l dl : Addr} {d : List Int} {p : Nat} {xs : List V} (h : Rd K H a dl d p) (f : Fr [a] H H') (e : H l = some (.lst xs)) : H' l = some (.lst xs) := f _ _ (fun m => by
  obtain ⟨dx, fs, z⟩ := h.ins
  rw [List.mem_singleton.mp m, z] at e; cases e) e
theorem fr_noneR {K : PySem.W.Frag} {H H' : Hp} {a dl q : Addr} {d : List Int} {p : Nat} (f : Fr [a] H H') (h : Rd K H' a dl d p) (n : H' q = none) : H q = none := by
  cases e : H q with
  | none => rfl
  | some o =>
    rw [f q o (fun m => (h.free n).1 (List.mem_singleton.mp m)) e] at n
    cases n
/-! what stands next -/
def At (d : List Int) (p : Nat) (w : List Int) : Prop := ∃ r, d.drop p = w ++ r
theorem At.one {d : List Int} {p : Nat} {b : Int} {w : List Int} (h : At d p (b :: w)) : d[p]? = some b ∧ At d (p + 1) w := by
  obtain ⟨r, e⟩ := h
  refine ⟨?_, r, ?_⟩
  · have : (d.drop p)[0]? = some b := by rw [e]; rfl
    rw [List.getElem?_drop] at this
    simpa using this
  · rw [← List.drop_drop, e]; rfl
theorem At.get {d : List Int} {p i : Nat} {b : Int} {w : List Int} (h : At d p w) (e : w[i]? = some b) : d[p + i]? = some b := by
  obtain ⟨r, q⟩ := h
  have : (d.drop p)[i]? = some b := by rw [q, List.getElem?_append_left (List.getElem?_eq_some_iff.mp e).1]; exact e
  rwa [List.getElem?_drop] at this
theorem At.app {d : List Int} {p : Nat} {u w : List Int} (h : At d p (u ++ w)) : At d p u ∧ At d (p + u.length) w := by
  obtain ⟨r, e⟩ := h
  refine ⟨⟨w ++ r, by rw [e, List.append_assoc]⟩, r, ?_⟩
  rw [← List.drop_drop, e, List.append_assoc, List.drop_left]
theorem At.fm {α : Type} (f : α → List Int) {d : List Int} {v : List α} {i p : Nat} {c : α} (h : At d p (v.flatMap f)) (e : v[i]? = some c) : At d (p + ((v.take i).flatMap f).length) (f c) := by
  have e1 : v = v.take i ++ c :: v.drop (i + 1) := by
    have e2 := (List.getElem?_eq_some_iff.mp e).2
    rw [← e2, List.getElem_cons_drop, List.take_append_drop]
  rw [e1, List.flatMap_append, List.flatMap_cons] at h
  exact (At.app (At.app h).2).1
def okv : Int → Vc → Prop
  | _, [] => True
  | d, c :: v => d + 1 ≤ c.1 ∧ c.1 + (v.length : Int) ≤ 9 ∧ 1 ≤ c.2 ∧ c.2 < 4294967296 ∧ okv c.1 v
def dev (d : Int) (v : Vc) : Int := v.foldl (fun _ c => c.1) d
theorem okv_get : ∀ {d : Int} {v : Vc}, okv d v → ∀ (i : Nat) (c : Int × Int), v[i]? = some c → dev d (v.take i) + 1 ≤ c.1 ∧ c.1 + ((v.length : Int) - 1 - i) ≤ 9 ∧ 1 ≤ c.2 ∧ c.2 < 4294967296
  | d, c :: v, h, 0, x, e => by
    cases e
    obtain ⟨h1, h2, h3, h4, _⟩ := h
    refine ⟨h1, ?_, h3, h4⟩
    rw [List.length_cons]
    omega
  | d, c :: v, h, i + 1, x, e => by
    obtain ⟨_, _, _, _, h5⟩ := h
    have := okv_get h5 i x (by simpa using e)
    refine ⟨this.1, ?_, this.2.2⟩
    have h6 := this.2.1
    rw [List.length_cons]
    omega
theorem dev_snoc {d : Int} {v : Vc} {i : Nat} {c : Int × Int} (e : v[i]? = some c) : dev d (v.take (i + 1)) = c.1 := by
  unfold dev
  rw [List.take_add_one, e, List.foldl_append]
  rfl
theorem wd_get (n : Int) {w i : Nat} (h : i < w) : (wd n w)[i]? = some (n / 256 ^ (w - 1 - i) % 256) := by
  unfold wd
  rw [List.getElem?_map, List.getElem?_range h]
  rfl
theorem up256 (n : Int) (i : Nat) : n / 256 ^ (i + 1) * 256 + n / 256 ^ i % 256 = n / 256 ^ i := by
  have e : n / 256 ^ (i + 1) = n / 256 ^ i / 256 := by
    rw [Int.pow_succ, ← Int.ediv_ediv_of_nonneg (Int.pow_nonneg (by decide))]
  rw [e]
  omega
abbrev CH : List Nat := ("-./0123456789ABCDEFGHIJKLMNOPQRSTUVWXYZ_abcdefghijklmnopqrstuvwxyz~" : Str).cps.toList
def sp_character_of (K : PySem.W.Frag) : Sp := sp1 fun x H Q => ∃ c : Nat, x = .int (c : Nat) ∧ (c ∈ CH → Q (.str ⟨#[c]⟩) H) ∧ (c ∉ CH → Q .non H)
def OkN (z : Str) : Prop := 1 ≤ z.length ∧ z.length ≤ 40 ∧ ∀ c ∈ z.cps.toList, c ∈ CH
theorem joinL_nil : ∀ l : List (List Nat), TL.joinL [] l = l.flatten
  | [] => rfl
  | [p] => by simp [TL.joinL]
  | p :: q :: r => by
    show p ++ ([] ++ TL.joinL [] (q :: r)) = _
    rw [joinL_nil (q :: r)]
    rfl
theorem joinC (z : Str) : Txt.join (Str.ofString "") (z.cps.toList.map fun c => (⟨#[c]⟩ : Str)) = z := by
  refine TL.ext_tl ?_
  have ey : TL.tl (Str.ofString "") = [] := by decide +kernel
  rw [TL.join_eq, TL.tl_join, ey, joinL_nil, List.map_map]
  show (z.cps.toList.map fun c => [c]).flatten = z.cps.toList
  generalize z.cps.toList = l
  induction l with
  | nil => rfl
  | cons d ds ih => exact congrArg (d :: ·) ih
def OkV (v : Vc) : Prop := 1 ≤ v.length ∧ v.length ≤ 9 ∧ okv 0 v
structure OkC (cs : List (List Int)) : Prop where
  p : ∀ c ∈ cs, Piece c
  l : cs.length ≤ 255
  w : ∀ i c, cs[i]? = some c → i + 1 < cs.length → c.length = 4
def bcB (cs : List (List Int)) : List Int := (cs.length : Int) :: cs.flatMap fun c => (c.length : Int) :: c
theorem bk_cs : ∀ {cs : List (List Int)}, (∀ c ∈ cs, Piece c) → ((cs.map bnum).flatMap fun b => ((bbytes b).length : Int) :: bbytes b) = cs.flatMap fun c => (c.length : Int) :: c
  | [], _ => rfl
  | c :: cs, h => by
    rw [List.map_cons, List.flatMap_cons, List.flatMap_cons, bk_cs fun x m => h x (List.mem_cons_of_mem _ m), bbytes_bnum (h c (List.mem_cons_self ..))]
structure OkE (e : En) (n : Int) (cs : List (List Int)) : Prop where
  nm : OkN e.nm
  vc : OkV e.vc
  ht : 1 ≤ e.ht ∧ e.ht < 4294967296
  mr : 1 ≤ e.mr.1 ∧ e.mr.1 ≤ 9 ∧ 1 ≤ e.mr.2 ∧ e.mr.2 < 4294967296
  dl : e.dl = true → cs = []
  tm : 0 ≤ e.tm ∧ e.tm < 4294967296
  bl : e.bl = cs.map bnum
  cs : OkC cs
  n : 1 ≤ n ∧ n < 4294967296
theorem enB_eq {e : En} {n : Int} {cs : List (List Int)} (h : OkE e n cs) : enB e n = wd n 4 ++ (nmB e.nm ++ (vcB e.vc ++ (wd e.ht 4 ++ ([e.mr.1] ++ (wd e.mr.2 4 ++ ([if e.dl = true then 1 else 0] ++ (wd e.tm 4 ++ bcB cs))))))) := by
  unfold enB bcB
  rw [h.bl, bk_cs h.cs.p, List.length_map]
  simp only [List.append_assoc, List.cons_append, List.nil_append]
theorem e_mkE2 {K : PySem.W.Frag} {H1 : Hp} {P : Addr → Hp → Prop} {n v h m d t b : V} (q : ∀ a H' dx, H1 a = none → Same H1 H' → H' a = some (.ins (cEnt K) dx (fs7 n v h m d t b)) → P a H') :
    ∀ x dx, H1 x = none → H1 dx = none → dx ≠ x → sp_Entry___init__ K (.ref x :: ([n, v, h, m, d, t, b] ++ [])) (upd (upd H1 dx (.own x)) x (.ins (cEnt K) dx [])) (fun u H2 => u = .non ∧ P x H2) E0 := e_mkE q
theorem e_raiseErr {C : Addr} {W : WX} {ta : TA} {D : Ends} {σ : L2.St} {H : Hp} (q : ta σ H fun vs H1 => ∃ v, vs = [v] ∧ ∀ d, H1 d = none → W (.ref C) (some d) σ (upd H1 d (.xd [(("place" : Str), v)]))) : tRaiseErr C W ta D σ H := q
theorem e_callS {sp : Sp} {E : L2.St → XK} {t : TA} {σ : L2.St} {H : Hp} {Q : VK} (q : t σ H fun vs H1 => sp vs H1 Q (E σ)) : tCallS sp E t σ H Q := q
theorem e_plcErr {C a : Addr} {cls : Value} {d : Option Addr} {te : TE} {σ : L2.St} {H : Hp} {Q : VK} (q : te σ H fun x H1 => x = .ref a ∧ cls = .ref C ∧ ∃ (dd : Addr) (v : V), d = some dd ∧ H1 dd = some (.xd [(("place" : Str), v)]) ∧ Q v H1) : tPlcErr C a cls d te σ H Q := q
theorem e_tMethX {C : Addr} {m : Str} {sp : Sp} {EE : L2.St → XK} {ta : TE} {t : TA} {σ : L2.St} {H : Hp} {Q : VK} (q : ta σ H fun x H1 => ∃ a dx fs, x = .ref a ∧ H1 a = some (.ins C dx fs) ∧ fs.lookup m = none ∧ t σ H1 fun vs H2 => sp (x :: vs) H2 Q (EE σ)) : tMethX C m sp EE ta t σ H Q := q
theorem e_tMethXD {C : Addr} {m : Str} {sp : Sp} {dvs : List V} {EE : L2.St → XK} {ta : TE} {t : TA} {σ : L2.St} {H : Hp} {Q : VK} (q : ta σ H fun x H1 => ∃ a dx fs, x = .ref a ∧ H1 a = some (.ins C dx fs) ∧ fs.lookup m = none ∧ t σ H1 fun vs H2 => sp (x :: (vs ++ dvs)) H2 Q (EE σ)) : tMethXD C m sp dvs EE ta t σ H Q := q
theorem e_tLcX {wi : TI} {g : TG} {te : XK → TE} {vs : List Nat} {EE : L2.St → XK} {σ : L2.St} {H : Hp} {Q : VK} (q : tLc wi g tYes (te (EE σ)) vs σ H Q) : tLcX wi g te vs EE σ H Q := q
/-! ### the reader as a function: a value and where it ends, or the place of what is wrong -/
abbrev cIB (K : PySem.W.Frag) : Addr := He.ga K "InvalidBytes"
def InvB (K : PySem.W.Frag) (n : Nat) (H : Hp) (E : XK) : Prop := ∀ d : Addr, H d = none → E (.ref (cIB K)) (some d) (upd H d (.xd [(("place" : Str), .int (n : Nat))]))
abbrev PR (α : Type) := List Int → Nat → Except Nat (α × Nat)
def thenP {α β : Type} (f : PR α) (g : α → PR β) : PR β := fun d p => match f d p with
  | .error n => .error n
  | .ok (v, q) => g v d q
def retP {α : Type} (x : α) : PR α := fun _ p => .ok (x, p)
theorem then_err {α β : Type} {f : PR α} {g : α → PR β} {d : List Int} {p n : Nat} (h : f d p = .error n) : thenP f g d p = .error n := by unfold thenP; rw [h]
theorem then_ok {α β : Type} {f : PR α} {g : α → PR β} {d : List Int} {p q : Nat} {v : α} (h : f d p = .ok (v, q)) : thenP f g d p = g v d q := by unfold thenP; rw [h]
theorem then_of {α β : Type} {f : PR α} {g : α → PR β} {d : List Int} {p q : Nat} {y : β} (h : thenP f g d p = .ok (y, q)) : ∃ v r, f d p = .ok (v, r) ∧ g v d r = .ok (y, q) := by
  unfold thenP at h
  cases e : f d p with
  | error n => rw [e] at h; cases h
  | ok x => obtain ⟨v, r⟩ := x; rw [e] at h; exact ⟨v, r, rfl, h⟩
def pByte (l h : Int) : PR Int := fun d p => match d[p]? with
  | none => .error d.length
  | some v => if v < l ∨ h < v then .error p else .ok (v, p + 1)
def pNumL (l : Int) : Nat → Int → PR Int
  | 0, v => retP v
  | k + 1, v => thenP (pByte (if k = 0 ∧ v = 0 then l else 0) 255) fun b => pNumL l k (v * 256 + b)
def pNum (l : Int) : PR Int := pNumL l 4 0
def pDev : PR Int := pByte 1 9
def pChr : PR Nat := fun d p => match pByte 0 255 d p with
  | .error n => .error n
  | .ok (b, q) => if b.toNat ∈ CH then .ok (b.toNat, q) else .error p
def pMany {α : Type} (f : PR α) : Nat → PR (List α)
  | 0 => retP []
  | n + 1 => thenP f fun x => thenP (pMany f n) fun xs => retP (x :: xs)
def pName : PR Str := thenP (pByte 1 40) fun n => thenP (pMany pChr n.toNat) fun cs => retP ⟨cs.toArray⟩
def pVecL : Nat → Int → PR Vc
  | 0, _ => retP []
  | k + 1, dv => thenP (pByte (dv + 1) (9 - (k : Int))) fun c => thenP (pNum 1) fun n => thenP (pVecL k c) fun v => retP ((c, n) :: v)
def pVec : PR Vc := thenP (pByte 1 9) fun n => pVecL n.toNat 0
def pRow (l : Int) : PR (List Int) := thenP (pByte l 4) fun n => pMany (pByte 0 255) n.toNat
def pBlkL : Nat → PR (List (List Int))
  | 0 => retP []
  | k + 1 => thenP (pRow (if 0 < k then 4 else 1)) fun c => thenP (pBlkL k) fun cs => retP (c :: cs)
def pBlocks (m : Int) : PR (List (List Int)) := thenP (pByte 0 m) fun n => pBlkL n.toNat
def pEntry : PR (En × Int × List (List Int)) :=
  thenP (pNum 1) fun n => thenP pName fun nm => thenP pVec fun vc => thenP (pNum 1) fun ht => thenP pDev fun dv => thenP (pNum 1) fun mn => thenP (pByte 0 1) fun dl => thenP (pNum 0) fun tm =>
    thenP (pBlocks (if dl = 1 then 0 else 255)) fun cs => retP (⟨nm, vc, ht, (dv, mn), decide (dl = 1), tm, cs.map bnum⟩, n, cs)
theorem byte_ok {l h v : Int} {d : List Int} {p q : Nat} (e : pByte l h d p = .ok (v, q)) : l ≤ v ∧ v ≤ h ∧ q = p + 1 ∧ d[p]? = some v := by
  unfold pByte at e
  cases g : d[p]? with
  | none => rw [g] at e; cases e
  | some w =>
    rw [g] at e
    have e : (if w < l ∨ h < w then (Except.error p : Except Nat (Int × Nat)) else .ok (w, p + 1)) = .ok (v, q) := e
    by_cases c : w < l ∨ h < w
    · rw [if_pos c] at e
      cases e
    · rw [if_neg c] at e
      cases e
      exact ⟨by omega, by omega, rfl, rfl⟩
def mapP {α β : Type} (g : α → β) : Except Nat (α × Nat) → Except Nat (β × Nat)
  | .error n => .error n
  | .ok (x, q) => .ok (g x, q)
theorem many_err {α : Type} {f : PR α} {N i n q : Nat} {xs : List α} {d : List Int} {R : Except Nat (List α × Nat)} (hi : i < N) (e : f d q = .error n) (h : R = mapP (xs ++ ·) (pMany f (N - i) d q)) : R = .error n := by
  rw [h, show N - i = (N - (i + 1)) + 1 by omega, pMany, then_err e]
  rfl
theorem many_ok {α : Type} {f : PR α} {N i q r : Nat} {x : α} {xs : List α} {d : List Int} {R : Except Nat (List α × Nat)} (hi : i < N) (e : f d q = .ok (x, r)) (h : R = mapP (xs ++ ·) (pMany f (N - i) d q)) : R = mapP ((xs ++ [x]) ++ ·) (pMany f (N - (i + 1)) d r) := by
  rw [h, show N - i = (N - (i + 1)) + 1 by omega, pMany, then_ok e]
  cases g : pMany f (N - (i + 1)) d r with
  | error n => rw [then_err g]; rfl
  | ok y => obtain ⟨ys, r2⟩ := y; rw [then_ok g]; show Except.ok (xs ++ x :: ys, r2) = .ok ((xs ++ [x]) ++ ys, r2); rw [List.append_assoc]; rfl
theorem many_start {α : Type} (f : PR α) (N : Nat) (d : List Int) (q : Nat) : pMany f N d q = mapP (([] : List α) ++ ·) (pMany f (N - 0) d q) := by
  rw [Nat.sub_zero]
  cases pMany f N d q with
  | error n => rfl
  | ok x => rfl
theorem many_end {α : Type} {f : PR α} {N q : Nat} {xs : List α} {d : List Int} {R : Except Nat (List α × Nat)} (h : R = mapP (xs ++ ·) (pMany f (N - N) d q)) : R = .ok (xs, q) := by
  rw [h, Nat.sub_self]
  show Except.ok (xs ++ [], q) = _
  rw [List.append_nil]
theorem vec_start (N : Nat) (dv : Int) (d : List Int) (q : Nat) : pVecL N dv d q = mapP (([] : Vc) ++ ·) (pVecL (N - 0) dv d q) := by
  rw [Nat.sub_zero]
  cases pVecL N dv d q with
  | error n => rfl
  | ok x => rfl
theorem vec_end {N q : Nat} {dv : Int} {xs : Vc} {d : List Int} {R : Except Nat (Vc × Nat)} (h : R = mapP (xs ++ ·) (pVecL (N - N) dv d q)) : R = .ok (xs, q) := by
  rw [h, Nat.sub_self]
  show Except.ok (xs ++ [], q) = _
  rw [List.append_nil]
section
variable {N i n q r r3 : Nat} {dv c m : Int} {xs : Vc} {d : List Int} {R : Except Nat (Vc × Nat)}
theorem vec_err1 (hi : i < N) (e : pByte (dv + 1) (9 - ((N - (i + 1) : Nat) : Int)) d q = .error n) (h : R = mapP (xs ++ ·) (pVecL (N - i) dv d q)) : R = .error n := by
  rw [h, show N - i = (N - (i + 1)) + 1 by omega, pVecL, then_err e]
  rfl
theorem vec_err2 (hi : i < N) (e : pByte (dv + 1) (9 - ((N - (i + 1) : Nat) : Int)) d q = .ok (c, r)) (e2 : pNum 1 d r = .error n) (h : R = mapP (xs ++ ·) (pVecL (N - i) dv d q)) : R = .error n := by
  rw [h, show N - i = (N - (i + 1)) + 1 by omega, pVecL, then_ok e, then_err e2]
  rfl
theorem vec_ok (hi : i < N) (e : pByte (dv + 1) (9 - ((N - (i + 1) : Nat) : Int)) d q = .ok (c, r)) (e2 : pNum 1 d r = .ok (m, r3)) (h : R = mapP (xs ++ ·) (pVecL (N - i) dv d q)) : R = mapP ((xs ++ [(c, m)]) ++ ·) (pVecL (N - (i + 1)) c d r3) := by
  rw [h, show N - i = (N - (i + 1)) + 1 by omega, pVecL, then_ok e, then_ok e2]
  cases g : pVecL (N - (i + 1)) c d r3 with
  | error n => rw [then_err g]; rfl
  | ok y => obtain ⟨ys, r2⟩ := y; rw [then_ok g]; show Except.ok (xs ++ (c, m) :: ys, r2) = .ok ((xs ++ [(c, m)]) ++ ys, r2); rw [List.append_assoc]; rfl
end
theorem chr_sum : ∀ cs : List Nat, (cs.map ((fun x : Str => x.length) ∘ fun c => (⟨#[c]⟩ : Str))).sum = cs.length
  | [] => rfl
  | c :: l => by rw [List.map_cons, List.sum_cons, chr_sum l, List.length_cons]; show 1 + l.length = _; omega
theorem blk_start (N : Nat) (d : List Int) (q : Nat) : pBlkL N d q = mapP (([] : List (List Int)) ++ ·) (pBlkL (N - 0) d q) := by
  rw [Nat.sub_zero]
  cases pBlkL N d q with
  | error n => rfl
  | ok x => rfl
theorem blk_end {N q : Nat} {xs : List (List Int)} {d : List Int} {R : Except Nat (List (List Int) × Nat)} (h : R = mapP (xs ++ ·) (pBlkL (N - N) d q)) : R = .ok (xs, q) := by
  rw [h, Nat.sub_self]
  show Except.ok (xs ++ [], q) = _
  rw [List.append_nil]
section
variable {N i n q r : Nat} {c : List Int} {xs : List (List Int)} {d : List Int} {R : Except Nat (List (List Int) × Nat)}
theorem blk_err (hi : i < N) (e : pRow (if 0 < N - (i + 1) then 4 else 1) d q = .error n) (h : R = mapP (xs ++ ·) (pBlkL (N - i) d q)) : R = .error n := by
  rw [h, show N - i = (N - (i + 1)) + 1 by omega, pBlkL, then_err e]
  rfl
theorem blk_ok (hi : i < N) (e : pRow (if 0 < N - (i + 1) then 4 else 1) d q = .ok (c, r)) (h : R = mapP (xs ++ ·) (pBlkL (N - i) d q)) : R = mapP ((xs ++ [c]) ++ ·) (pBlkL (N - (i + 1)) d r) := by
  rw [h, show N - i = (N - (i + 1)) + 1 by omega, pBlkL, then_ok e]
  cases g : pBlkL (N - (i + 1)) d r with
  | error n => rw [then_err g]; rfl
  | ok y => obtain ⟨ys, r2⟩ := y; rw [then_ok g]; show Except.ok (xs ++ c :: ys, r2) = .ok ((xs ++ [c]) ++ ys, r2); rw [List.append_assoc]; rfl
end
/-- a value is read, or the bytes are refused -/
def spP {α : Type} (K : PySem.W.Frag) (x : V) (H : Hp) (Q : VK) (E : XK) (f : PR α) (R : α → V → Hp → Prop) : Prop := ∃ (a dl : Addr) (d : List Int) (p : Nat), x = .ref a ∧ Rd K H a dl d p ∧
  (∀ v q, f d p = .ok (v, q) → ∀ r H', Fr [a] H H' → Rd K H' a dl d q → R v r H' → Q r H') ∧ (∀ n, f d p = .error n → ∀ H', Fr [a] H H' → (∃ q, Rd K H' a dl d q) → InvB K n H' E)
abbrev sp2X (R : V → V → Hp → VK → XK → Prop) : Sp := fun vs H Q E => ∃ a b, vs = [a, b] ∧ R a b H Q E
abbrev sp3X (R : V → V → V → Hp → VK → XK → Prop) : Sp := fun vs H Q E => ∃ a b c, vs = [a, b, c] ∧ R a b c H Q E
def sp_Reader___init__ (K : PySem.W.Frag) : Sp := sp3 fun x y z H Q => ∃ (a d0 dx : Addr) (xs : List Int) (p : Nat), x = .ref a ∧ y = .ref d0 ∧ z = .int (p : Nat) ∧ H a = some (.ins (cRd K) dx []) ∧ LstI H d0 xs ∧ ∀ dl H', Fr [a] H H' → Rd K H' a dl xs p → Q .non H'
def sp_Reader_byte (K : PySem.W.Frag) : Sp := sp3X fun x y z H Q E => ∃ l h : Int, y = .int l ∧ z = .int h ∧ spP K x H Q E (pByte l h) fun v r _ => r = .int v
def sp_Reader_number (K : PySem.W.Frag) : Sp := sp2X fun x y H Q E => ∃ l : Int, y = .int l ∧ 0 ≤ l ∧ spP K x H Q E (pNum l) fun v r _ => r = .int v
def sp_Reader_device (K : PySem.W.Frag) : Sp := sp1X fun x H Q E => spP K x H Q E pDev fun v r _ => r = .int v
def sp_Reader__character (K : PySem.W.Frag) : Sp := sp1X fun x H Q E => spP K x H Q E pChr fun v r _ => r = .str ⟨#[v]⟩
def sp_Reader_name (K : PySem.W.Frag) : Sp := sp1X fun x H Q E => spP K x H Q E pName fun v r _ => r = .str v
def sp_Reader_vector (K : PySem.W.Frag) : Sp := sp1X fun x H Q E => spP K x H Q E pVec fun v r H' => ∃ q, r = .ref q ∧ Vec K H' q v
def sp_Reader_row (K : PySem.W.Frag) : Sp := sp2X fun x y H Q E => ∃ l : Int, y = .int l ∧ 0 ≤ l ∧ spP K x H Q E (pRow l) fun v r H' => ∃ q, r = .ref q ∧ LstI H' q v
def sp_Reader_block (K : PySem.W.Frag) : Sp := sp1X fun x H Q E => spP K x H Q E (pRow 1) fun v r _ => r = .int (bnum v)
def sp_Reader__blocks (K : PySem.W.Frag) : Sp := sp2X fun x y H Q E => ∃ m : Int, y = .int m ∧ m ≤ 255 ∧ spP K x H Q E (pBlocks m) fun v r H' => ∃ q, r = .ref q ∧ SqT K H' q ((v.map bnum).map V.int)
def sp_Reader_entry (K : PySem.W.Frag) : Sp := sp1X fun x H Q E => spP K x H Q E pEntry fun v r H' => ∃ q ea, r = .ref q ∧ SqT K H' q [.ref ea, .int v.2.1] ∧ Ent K H' false ea v.1 ∧ H ea = none
theorem dv_plain : ∀ v : Vc, PyData.plainAll (Dv v) = true
  | [] => by simp [PyData.plainAll]
  | c :: v => by
    show PyData.plainAll (.tuple (Di [c.1, c.2]) :: Dv v) = true
    rw [PyData.plainAll, dv_plain v, PyData.plain, plain_ints]
    rfl
theorem dp_vec {K : PySem.W.Frag} {H : Hp} {a : Addr} {v : Vc} (h : Vec K H a v) : Dp K H (.ref a) (.tuple (Dv v)) := by
  obtain ⟨ps, s1, p1⟩ := h
  exact .tup s1 (dv_all p1)
theorem e_eqPVV {K : PySem.W.Frag} {H : Hp} {Q : VK} {a b : Addr} {v w : Vc} (h1 : Vec K H a v) (h2 : Vec K H b w) (q : Q (.bl (decide (v = w))) H) : rEqP K (.ref a) (.ref b) H Q :=
  e_eqPV (dp_vec h1) (dp_vec h2) (by simp [PyData.plain, dv_plain]) (by simp [PyData.plain, dv_plain]) (by
    show PyData.depthAll (Dv v) + 1 ≤ 60
    have := dv_depth v
    omega) (by show PyData.eqvAll (Dv v) (Dv w) = _; exact dv_eqv v w) q
theorem dp_li {K : PySem.W.Frag} {H : Hp} {a : Addr} {xs : List Int} (h : SqL K H a (xs.map V.int)) : Dp K H (.ref a) (.list (Di xs)) := .lst h (dpAll_ints xs)
theorem e_eqPL {K : PySem.W.Frag} {H : Hp} {Q : VK} {a b : Addr} {xs ys : List Int} (h1 : SqL K H a (xs.map V.int)) (h2 : SqL K H b (ys.map V.int)) (q : Q (.bl (decide (xs = ys))) H) : rEqP K (.ref a) (.ref b) H Q :=
  e_eqPV (dp_li h1) (dp_li h2) (by simp [PyData.plain, plain_ints]) (by simp [PyData.plain, plain_ints]) (by
    show PyData.depthAll (Di xs) + 1 ≤ 60
    rw [Vf.depthAll_ints]; decide) (eqvAll_ints xs ys) q
theorem e_nePL {K : PySem.W.Frag} {H : Hp} {Q : VK} {a b : Addr} {xs ys : List Int} (h1 : SqL K H a (xs.map V.int)) (h2 : SqL K H b (ys.map V.int)) (q : Q (.bl (!decide (xs = ys))) H) : rNeP K (.ref a) (.ref b) H Q :=
  e_nePV (dp_li h1) (dp_li h2) (by simp [PyData.plain, plain_ints]) (by simp [PyData.plain, plain_ints]) (by
    show PyData.depthAll (Di xs) + 1 ≤ 60
    rw [Vf.depthAll_ints]; decide) (eqvAll_ints xs ys) q
theorem cut_mid (xs : List Int) (i n : Nat) : cutV (xs.map V.int) (some (i : Int)) (some ((i : Int) + (n : Int))) = ((xs.drop i).take n).map V.int := by
  unfold cutV
  rw [show ((i : Int) + (n : Int)) = ((i + n : Nat) : Int) by omega, HT.sIx_nat, HT.sIx_nat, List.length_map, List.map_take, List.map_drop]
  by_cases h : i ≤ xs.length
  · rw [Nat.min_eq_left h]
    by_cases h2 : i + n ≤ xs.length
    · rw [Nat.min_eq_left h2, show i + n - i = n by omega]
    · rw [Nat.min_eq_right (by omega), List.take_of_length_le (by simp), List.take_of_length_le (by simp; omega)]
  · rw [Nat.min_eq_right (by omega), Nat.min_eq_right (by omega), List.drop_eq_nil_of_le (by simp), List.drop_eq_nil_of_le (by simp; omega)]
    simp
theorem cut_to (xs : List Int) (c : Nat) : cutV (xs.map V.int) none (some (c : Int)) = (xs.take c).map V.int := by
  have h := cut_mid xs 0 c
  rw [show ((0 : Nat) : Int) + (c : Int) = (c : Int) by omega, List.drop_zero] at h
  rw [← h]
  unfold cutV
  rw [HT.sIx_nat, HT.sIx_nat, show HT.sIx (xs.map V.int).length 0 none = 0 from rfl]
  simp
theorem cut_from (xs : List Int) (c : Nat) : cutV (xs.map V.int) (some (c : Int)) none = (xs.drop c).map V.int := by
  have h := cut_mid xs c xs.length
  rw [List.take_of_length_le (by simp)] at h
  rw [← h]
  unfold cutV
  rw [show ((c : Int) + (xs.length : Int)) = ((c + xs.length : Nat) : Int) by omega, HT.sIx_nat, HT.sIx_nat, List.length_map, Nat.min_eq_right (by omega : xs.length ≤ c + xs.length), show HT.sIx xs.length xs.length none = xs.length from rfl]
theorem nums_at {xs : List Int} {i : Nat} (h : i < (xs.length + 3) / 4) : (nums xs)[i]? = some (bnum ((xs.drop (4 * i)).take 4)) := by
  rw [nums, List.getElem?_map, chunks_get xs i h]; rfl
def names6 : List Str := ["a", "b", "a/b", "Z9", "c", "longer/names/are/here/abcdefghijklmnopqr"]
theorem bnum_snoc (d : List Int) (x : Int) : bnum (d ++ [x]) = bnum d * 256 + x := by
  unfold bnum
  rw [List.foldl_append]
  rfl
theorem snoc_cases (l : List Int) : l = [] ∨ ∃ d x, l = d ++ [x] := by
  cases e : l.reverse with
  | nil => exact .inl (List.reverse_eq_nil_iff.mp e)
  | cons x r =>
    refine .inr ⟨r.reverse, x, ?_⟩
    have := congrArg List.reverse e
    rw [List.reverse_reverse, List.reverse_cons] at this
    exact this
theorem bnum_ge : ∀ (n : Nat) (c : List Int), c.length = n → isB c → 1 ≤ bnum c
  | 0, c, h, _ => by
    rw [List.length_eq_zero_iff.mp h]
    decide
  | n + 1, c, h, hb => by
    rcases snoc_cases c with rfl | ⟨d, x, rfl⟩
    · cases h
    · have h1 := bnum_ge n d (by rw [List.length_append] at h; simpa using h) fun b m => hb b (List.mem_append_left _ m)
      have h2 := hb x (by simp)
      rw [bnum_snoc]
      omega
theorem dr_nt {K : PySem.W.Frag} {st sc : Addr} {ns : List Int} {H : Hp} (d : Dr K st sc ns H) : ∀ a ∈ [st], NT H a := fun a m => by
  obtain ⟨x, y, _, _, e⟩ := d.s
  rw [List.mem_singleton.mp m]
  exact nt_lst e
theorem sqT_kp {K : PySem.W.Frag} {st sc p : Addr} {ns : List Int} {xs : List V} {H H' : Hp} (h : SqT K H p xs) (d : Dr K st sc ns H) (k : Kp st H H') : SqT K H' p xs := sqT_fr h (kp_fr k) (dr_nt d)
theorem dr_free {K : PySem.W.Frag} {st sc p : Addr} {ns : List Int} {H H' : Hp} (d : Dr K st sc ns H') (k : Kp st H H') (h : H' p = none) : H p = none := by
  obtain ⟨x, y, _, _, e⟩ := d.s
  exact k.free ⟨_, e⟩ h
theorem ints_of : ∀ (us : List V), (∀ u ∈ us, ∃ n, u = .int n) → ∃ qs : List Int, us = qs.map V.int
  | [], _ => ⟨[], rfl⟩
  | u :: us, h => by
    obtain ⟨q, e⟩ := h u (List.mem_cons_self ..)
    obtain ⟨qs, e2⟩ := ints_of us fun x m => h x (List.mem_cons_of_mem _ m)
    exact ⟨q :: qs, by rw [e, e2]; rfl⟩
theorem flat4 : ∀ (l : List (List Int)), (∀ c ∈ l, c.length ≤ 4) → l.flatten.length ≤ 4 * l.length
  | [], _ => Nat.le_refl _
  | c :: l, h => by
    have h1 := flat4 l fun x m => h x (List.mem_cons_of_mem _ m)
    have h2 := h c (List.mem_cons_self ..)
    rw [List.flatten_cons, List.length_append, List.length_cons]
    omega
theorem okE_b {e : En} {n : Int} {cs : List (List Int)} (h : OkE e n cs) : OkB e.bl := by
  refine ⟨by rw [h.bl, List.length_map]; exact h.cs.l, fun b hb => ?_⟩
  rw [h.bl] at hb
  obtain ⟨c, hc, rfl⟩ := List.mem_map.mp hb
  have q := h.cs.p c hc
  have := q.h1
  rw [bsize_bnum q]
  omega
theorem okE_len {e : En} {n : Int} {cs : List (List Int)} (h : OkE e n cs) : (enB e n).length ≤ 2000 := enB_len h.nm.2.1 h.vc.2.1 (okE_b h)
theorem wd2 {n : Int} (h0 : 0 ≤ n) (h1 : n < 65536) : wd n 2 = [n / 256, n % 256] := by
  show [n / 256 ^ 1 % 256, n / 256 ^ 0 % 256] = _
  rw [show (256 : Int) ^ 1 = 256 from rfl, show (256 : Int) ^ 0 = 1 from rfl, Int.ediv_one, Int.emod_eq_of_lt (a := n / 256) (by omega) (by omega)]
theorem wd_bnum {c : List Int} (h : Piece c) : wd (bnum c) c.length = c := by
  refine h.cases (P := fun c => wd (bnum c) c.length = c) (fun a ha => ?_) (fun a b ha hb => ?_) (fun a b d ha hb hd => ?_) (fun a b d e ha hb hd he => ?_)
  · rw [bnum1]
    show [(256 + a) / 1 % 256] = _
    congr 1; omega
  · rw [bnum2]
    show [(65536 + a * 256 + b) / 256 % 256, (65536 + a * 256 + b) / 1 % 256] = _
    have e1 : (65536 + a * 256 + b) / 256 % 256 = a := by omega
    have e2 : (65536 + a * 256 + b) / 1 % 256 = b := by omega
    rw [e1, e2]
  · rw [bnum3]
    show [(16777216 + a * 65536 + b * 256 + d) / 65536 % 256, (16777216 + a * 65536 + b * 256 + d) / 256 % 256, (16777216 + a * 65536 + b * 256 + d) / 1 % 256] = _
    have e1 : (16777216 + a * 65536 + b * 256 + d) / 65536 % 256 = a := by omega
    have e2 : (16777216 + a * 65536 + b * 256 + d) / 256 % 256 = b := by omega
    have e3 : (16777216 + a * 65536 + b * 256 + d) / 1 % 256 = d := by omega
    rw [e1, e2, e3]
  · rw [bnum4]
    show wd _ 4 = _
    rw [wd4]
    have e1 : (4294967296 + a * 16777216 + b * 65536 + d * 256 + e) / 16777216 % 256 = a := by omega
    have e2 : (4294967296 + a * 16777216 + b * 65536 + d * 256 + e) / 65536 % 256 = b := by omega
    have e3 : (4294967296 + a * 16777216 + b * 65536 + d * 256 + e) / 256 % 256 = d := by omega
    have e4 : (4294967296 + a * 16777216 + b * 65536 + d * 256 + e) / 1 % 256 = e := by omega
    rw [e1, e2, e3, e4]
theorem e_mkRd {K : PySem.W.Frag} {H1 : Hp} {P : Addr → Hp → Prop} {l : Addr} {xs : List Int} (hl : LstI H1 l xs) (q : ∀ a dl H', Same H1 H' → H1 a = none → Rd K H' a dl xs 0 → P a H') :
    ∀ x dx, H1 x = none → H1 dx = none → dx ≠ x → sp_Reader___init__ K [.ref x, .ref l, .int 0] (upd (upd H1 dx (.own x)) x (.ins (cRd K) dx [])) (fun u H2 => u = .non ∧ P x H2) E0 := by
  intro x dx hx hdx ne
  have s0 : Same H1 (upd (upd H1 dx (.own x)) x (.ins (cRd K) dx [])) := Same.mut (same_new hdx) hx
  refine ⟨_, _, _, rfl, x, l, dx, xs, 0, rfl, rfl, rfl, upd_same, s0 _ _ hl, fun dl H' f hR => ⟨rfl, q x dl H' (same_fr s0 hx f) hx hR⟩⟩
theorem e_ix3 {K : PySem.W.Frag} {H : Hp} {Q : VK} {p : Addr} {a b c v : Int} (h : SqL K H p [.int a, .int b, .int c]) (h0 : 0 ≤ v) (h1 : v < 3) (q : ∀ x : Int, x = a ∨ x = b ∨ x = c → Q (.int x) H) : rIxL K (.ref p) (.int v) H Q := by
  have h6 : v = 0 ∨ v = 1 ∨ v = 2 := by omega
  rcases h6 with rfl | rfl | rfl
  · exact e_ixL h rfl (q a (.inl rfl))
  · exact e_ixL h rfl (q b (.inr (.inl rfl)))
  · exact e_ixL h rfl (q c (.inr (.inr rfl)))
theorem sqT_kpD {K : PySem.W.Frag} {st sc p : Addr} {ns : List Int} {xs : List V} {H H' : Hp} (d : Dr K st sc ns H) (k : Kp st H H') (h : SqT K H p xs) : SqT K H' p xs := sqT_kp h d k
def VI (i : Int) (v : Vc) : Prop := v.Pairwise (fun a b => a.1 < b.1) ∧ ∀ c ∈ v, 1 ≤ c.1 ∧ c.1 ≤ i ∧ 1 ≤ c.2 ∧ c.2 < 4294967296
theorem VI.snoc {i x : Int} {v : Vc} (h : VI i v) (h0 : 0 ≤ i) (h1 : 1 ≤ x) (h2 : x < 4294967296) : VI (1 + i) (v ++ [(1 + i, x)]) := by
  refine ⟨List.pairwise_append.mpr ⟨h.1, by simp, fun a ha b hb => ?_⟩, fun c hc => ?_⟩
  · have := h.2 a ha
    rw [List.mem_singleton.mp hb]
    show a.1 < 1 + i
    omega
  · rcases List.mem_append.mp hc with hc | hc
    · have := h.2 c hc
      exact ⟨this.1, by omega, this.2.2⟩
    · rw [List.mem_singleton.mp hc]
      exact ⟨by show 1 ≤ 1 + i; omega, Int.le_refl _, h1, h2⟩
theorem VI.up {i : Int} {v : Vc} (h : VI i v) : VI (1 + i) v := ⟨h.1, fun c hc => by
  have := h.2 c hc
  exact ⟨this.1, by omega, this.2.2⟩⟩
theorem vi_len : ∀ {d : Int} {v : Vc}, d ≤ 9 → v.Pairwise (fun a b => a.1 < b.1) → (∀ c ∈ v, d < c.1 ∧ c.1 ≤ 9) → d + (v.length : Int) ≤ 9
  | d, [], h, _, _ => by rw [List.length_nil]; omega
  | d, c :: v, h, h1, h2 => by
    have q := h2 c (List.mem_cons_self ..)
    have := vi_len (d := c.1) (v := v) q.2 (List.pairwise_cons.mp h1).2 fun x hx => ⟨(List.pairwise_cons.mp h1).1 x hx, (h2 x (List.mem_cons_of_mem _ hx)).2⟩
    rw [List.length_cons]
    omega
theorem okv_of : ∀ {d : Int} {v : Vc}, v.Pairwise (fun a b => a.1 < b.1) → (∀ c ∈ v, d < c.1 ∧ c.1 ≤ 9 ∧ 1 ≤ c.2 ∧ c.2 < 4294967296) → okv d v
  | d, [], _, _ => trivial
  | d, c :: v, h1, h2 => by
    have q := h2 c (List.mem_cons_self ..)
    have p1 := List.pairwise_cons.mp h1
    exact ⟨by omega, vi_len q.2.1 p1.2 fun x hx => ⟨p1.1 x hx, (h2 x (List.mem_cons_of_mem _ hx)).2.1⟩, q.2.2.1, q.2.2.2, okv_of p1.2 fun x hx => ⟨p1.1 x hx, (h2 x (List.mem_cons_of_mem _ hx)).2⟩⟩
theorem VI.ok {v : Vc} (h : VI 9 v) (hl : v.length ≠ 0) : OkV v := by
  have := vi_len (d := 0) (v := v) (by decide) h.1 fun c hc => ⟨(h.2 c hc).1, (h.2 c hc).2.1⟩
  exact ⟨by omega, by omega, okv_of h.1 fun c hc => h.2 c hc⟩
theorem okC_chunks {xs : List Int} (hb : isB xs) (hl : xs.length ≤ 1000) : OkC (chunks xs) where
  p := chunks_piece xs hb
  l := by rw [chunks_len]; omega
  w i c h hi := by
    rw [chunks_len] at hi
    rw [chunks_get xs i (by omega)] at h
    cases h
    rw [List.length_take, List.length_drop]
    omega
theorem fm_len (v : Vc) : (v.flatMap fun c => c.1 :: wd c.2 4).length = 5 * v.length := by
  induction v with
  | nil => rfl
  | cons c v ih => rw [List.flatMap_cons, List.length_append, List.length_cons, wd_len, ih, List.length_cons]; omega
theorem ent_kp {K : PySem.W.Frag} {st sc a : Addr} {ns : List Int} {e : En} {H H' : Hp} (d : Dr K st sc ns H) (k : Kp st H H') (h : Ent K H false a e) : Ent K H' false a e := by
  obtain ⟨dx, v, m, b, fs, h1, h2, ⟨⟨ps, q1, q2⟩, h3⟩, h4, h5⟩ := h
  exact ⟨dx, v, m, b, fs, k _ _ (fun z => by obtain ⟨x, y, _, _, e⟩ := d.s; rw [z, e] at h1; cases h1) h1, h2, ⟨⟨ps, sqT_kpD d k q1, paired_imp (fun _ _ q => sqT_kpD d k q) q2⟩, fun z => nomatch z⟩, sqT_kpD d k h4, sqT_kpD d k h5⟩
/-! ### numbers, read -/
def num (xs : List Int) : Int := xs.foldl (fun n b => n * 256 + b) 0
theorem num_snoc (xs : List Int) (b : Int) : num (xs ++ [b]) = num xs * 256 + b := by unfold num; rw [List.foldl_append]; rfl
theorem byte_yes {l h v : Int} {d : List Int} {q : Nat} (g : d[q]? = some v) (h1 : l ≤ v) (h2 : v ≤ h) : pByte l h d q = .ok (v, q + 1) := by
  unfold pByte
  rw [g]
  exact if_neg (by omega)
theorem byte_no {l h : Int} {d : List Int} {q : Nat} (g : ∀ v, d[q]? = some v → ¬ (l ≤ v ∧ v ≤ h)) : ∃ n, pByte l h d q = .error n := by
  unfold pByte
  cases e : d[q]? with
  | none => exact ⟨_, rfl⟩
  | some v => exact ⟨q, if_pos (by have := g v e; omega)⟩
theorem bs4 {d : List Int} {q : Nat} (h : q + 4 ≤ d.length) : ∃ a b c e, d[q]? = some a ∧ d[q + 1]? = some b ∧ d[q + 2]? = some c ∧ d[q + 3]? = some e ∧ (d.drop q).take 4 = [a, b, c, e] := by
  have g0 := List.getElem?_eq_getElem (l := d) (i := q) (by omega)
  have g1 := List.getElem?_eq_getElem (l := d) (i := q + 1) (by omega)
  have g2 := List.getElem?_eq_getElem (l := d) (i := q + 2) (by omega)
  have g3 := List.getElem?_eq_getElem (l := d) (i := q + 3) (by omega)
  refine ⟨_, _, _, _, g0, g1, g2, g3, ?_⟩
  rw [List.drop_eq_getElem_cons (by omega), List.drop_eq_getElem_cons (i := q + 1) (by omega), List.drop_eq_getElem_cons (i := q + 1 + 1) (by omega), List.drop_eq_getElem_cons (i := q + 1 + 1 + 1) (by omega)]
  rfl
theorem num4 (a b c e : Int) : num [a, b, c, e] = ((a * 256 + b) * 256 + c) * 256 + e := by
  show (((0 * 256 + a) * 256 + b) * 256 + c) * 256 + e = _
  rw [Int.zero_mul, Int.zero_add]
section
variable {d : List Int} {q : Nat} {l : Int}
theorem pnum_steps {a b c e : Int} (ga : d[q]? = some a) (gb : d[q + 1]? = some b) (gc : d[q + 2]? = some c) (ge : d[q + 3]? = some e) (hB : isB d) (hl : 0 ≤ l) :
    pNum l d q = thenP (pByte (if 0 = 0 ∧ ((a * 256 + b) * 256 + c) = 0 then l else 0) 255) (fun x => retP (((a * 256 + b) * 256 + c) * 256 + x)) d (q + 3) := by
  have ha := hB a (List.mem_of_getElem? ga)
  have hb := hB b (List.mem_of_getElem? gb)
  have hc := hB c (List.mem_of_getElem? gc)
  unfold pNum
  rw [pNumL, then_ok (v := a) (q := q + 1) (byte_yes ga (by rw [if_neg (by omega)]; omega) (by omega)), pNumL, then_ok (v := b) (q := q + 2) (byte_yes gb (by rw [if_neg (by omega)]; omega) (by omega)), pNumL, then_ok (v := c) (q := q + 3) (byte_yes gc (by rw [if_neg (by omega)]; omega) (by omega)), pNumL]
  rw [show (0 * 256 + a) = a by omega]
  rfl
theorem num_yes (hB : isB d) (hl : 0 ≤ l) (h : q + 4 ≤ d.length) (h2 : l ≤ num ((d.drop q).take 4)) (hl1 : l ≤ 1) : pNum l d q = .ok (num ((d.drop q).take 4), q + 4) := by
  obtain ⟨a, b, c, e, ga, gb, gc, ge, gt⟩ := bs4 h
  have ha := hB a (List.mem_of_getElem? ga)
  have hb := hB b (List.mem_of_getElem? gb)
  have hc := hB c (List.mem_of_getElem? gc)
  have he := hB e (List.mem_of_getElem? ge)
  rw [gt, num4] at h2
  rw [pnum_steps ga gb gc ge hB hl, gt, num4, then_ok (v := e) (q := q + 4) (byte_yes ge (by split <;> omega) (by omega))]
  rfl
theorem num_no (hB : isB d) (hl : 0 ≤ l) (hl1 : l ≤ 1) (h : ¬ (q + 4 ≤ d.length ∧ l ≤ num ((d.drop q).take 4))) : ∃ n, pNum l d q = .error n := by
  by_cases h4 : q + 4 ≤ d.length
  · obtain ⟨a, b, c, e, ga, gb, gc, ge, gt⟩ := bs4 h4
    have ha := hB a (List.mem_of_getElem? ga)
    have hb := hB b (List.mem_of_getElem? gb)
    have hc := hB c (List.mem_of_getElem? gc)
    have he := hB e (List.mem_of_getElem? ge)
    rw [gt, num4] at h
    rw [pnum_steps ga gb gc ge hB hl]
    obtain ⟨n, q1⟩ := byte_no (l := if 0 = 0 ∧ ((a * 256 + b) * 256 + c) = 0 then l else 0) (h := 255) (d := d) (q := q + 3) fun v gv z => by
      rw [ge] at gv
      cases gv
      rw [if_pos ⟨rfl, by omega⟩] at z
      omega
    exact ⟨n, then_err q1⟩
  · have gn : d[q + 3]? = none := List.getElem?_eq_none (by omega)
    cases e : pNum l d q with
    | error n => exact ⟨n, rfl⟩
    | ok x =>
      exfalso
      obtain ⟨w, r⟩ := x
      unfold pNum at e
      rw [pNumL] at e
      obtain ⟨a, r1, e1, e⟩ := then_of e
      rw [pNumL] at e
      obtain ⟨b, r2, e2, e⟩ := then_of e
      rw [pNumL] at e
      obtain ⟨c, r3, e3, e⟩ := then_of e
      rw [pNumL] at e
      obtain ⟨f, r4, e4, e⟩ := then_of e
      have b1 := byte_ok e1
      have b2 := byte_ok e2
      have b3 := byte_ok e3
      have b4 := byte_ok e4
      rw [b3.2.2.1, b2.2.2.1, b1.2.2.1] at b4
      rw [show q + 1 + 1 + 1 = q + 3 by omega, gn] at b4
      cases b4.2.2.2
end
theorem num_nn {xs : List Int} (h : isB xs) : 0 ≤ num xs := by
  have : ∀ (ys : List Int) (a : Int), 0 ≤ a → isB ys → 0 ≤ ys.foldl (fun n b => n * 256 + b) a := fun ys => by
    induction ys with
    | nil => intro a ha _; exact ha
    | cons y ys ih => intro a ha hy; exact ih _ (by have := hy y (List.mem_cons_self ..); show 0 ≤ a * 256 + y; omega) fun b m => hy b (List.mem_cons_of_mem _ m)
  exact this xs 0 (Int.le_refl _) h
theorem isB_sl {d : List Int} {q w : Nat} (h : isB d) : isB ((d.drop q).take w) := fun x hx => h x (List.mem_of_mem_drop (List.mem_of_mem_take hx))
theorem num_of {d : List Int} {q r : Nat} {l v : Int} (hB : isB d) (hl : 0 ≤ l) (hl1 : l ≤ 1) (e : pNum l d q = .ok (v, r)) : q + 4 ≤ d.length ∧ l ≤ v ∧ v = num ((d.drop q).take 4) ∧ r = q + 4 := by
  by_cases c : q + 4 ≤ d.length ∧ l ≤ num ((d.drop q).take 4)
  · rw [num_yes hB hl c.1 c.2 hl1] at e
    cases e
    exact ⟨c.1, c.2, rfl, rfl⟩
  · obtain ⟨n, e2⟩ := num_no hB hl hl1 c
    rw [e2] at e; cases e
theorem chr_yes {d : List Int} {q : Nat} {v : Int} (hB : isB d) (g : d[q]? = some v) (h : v.toNat ∈ CH) : pChr d q = .ok (v.toNat, q + 1) := by
  have hv := hB v (List.mem_of_getElem? g)
  unfold pChr
  rw [byte_yes g hv.1 (by omega)]
  exact if_pos h
theorem chr_of {d : List Int} {q r c : Nat} (e : pChr d q = .ok (c, r)) : ∃ v : Int, d[q]? = some v ∧ v.toNat = c ∧ c ∈ CH ∧ r = q + 1 := by
  unfold pChr at e
  split at e
  · cases e
  · rename_i b q2 e2
    have hb := byte_ok e2
    split at e
    · rename_i h
      cases e
      exact ⟨b, hb.2.2.2, rfl, h, hb.2.2.1⟩
    · cases e
abbrev ET2 : Type := En × Int × List (List Int)
theorem isB_app {xs ys : List Int} (h : isB xs) (g : isB ys) : isB (xs ++ ys) := fun b m => (List.mem_append.mp m).elim (h b) (g b)
theorem isB_wd (n : Int) (w : Nat) : isB (wd n w) := fun b hb => by
  unfold wd at hb
  obtain ⟨k, _, rfl⟩ := List.mem_map.mp hb
  exact ⟨Int.emod_nonneg _ (by decide), Int.emod_lt_of_pos _ (by decide)⟩
theorem isB_one {v : Int} (h : 0 ≤ v ∧ v < 256) : isB [v] := fun b m => by rw [List.mem_singleton.mp m]; exact h
theorem isB_cons {v : Int} {xs : List Int} (h : 0 ≤ v ∧ v < 256) (g : isB xs) : isB (v :: xs) := fun b m => by
  rcases List.mem_cons.mp m with z | z
  · rw [z]; exact h
  · exact g b z
theorem isB_flat {α : Type} {f : α → List Int} {l : List α} (h : ∀ x ∈ l, isB (f x)) : isB (l.flatMap f) := fun b m => by
  obtain ⟨x, hx, hb⟩ := List.mem_flatMap.mp m
  exact h x hx b hb
theorem isB_nm {z : Str} (h : OkN z) : isB (nmB z) := by
  have hc : ∀ c ∈ CH, c < 256 := by decide +kernel
  refine isB_cons (by have := h.2.1; omega) fun b m => ?_
  obtain ⟨c, hcm, rfl⟩ := List.mem_map.mp m
  have := hc c (h.2.2 c hcm)
  omega
theorem okv_rg : ∀ {d : Int} {v : Vc}, 0 ≤ d → okv d v → ∀ c ∈ v, 0 ≤ c.1 ∧ c.1 < 256
  | d, c :: v, hd, h, x, hx => by
    obtain ⟨h1, h2, _, _, h5⟩ := h
    rcases List.mem_cons.mp hx with z | z
    · rw [z]; omega
    · exact okv_rg (by omega) h5 x z
theorem isB_vc {v : Vc} (h : OkV v) : isB (vcB v) := isB_cons (by have := h.2.1; omega) (isB_flat fun c hc => isB_cons (okv_rg (by decide) h.2.2 c hc) (isB_wd _ _))
theorem isB_bc {cs : List (List Int)} (h : OkC cs) : isB (bcB cs) := isB_cons (by have := h.l; omega) (isB_flat fun c hc => isB_cons (by have := (h.p c hc).h4; omega) (h.p c hc).b)
theorem isB_en {e : En} {n : Int} {cs : List (List Int)} (h : OkE e n cs) : isB (enB e n) := by
  rw [enB_eq h]
  have hm := h.mr
  exact isB_app (isB_wd _ _) (isB_app (isB_nm h.nm) (isB_app (isB_vc h.vc) (isB_app (isB_wd _ _) (isB_app (isB_one (by omega)) (isB_app (isB_wd _ _) (isB_app (isB_one (by split <;> decide)) (isB_app (isB_wd _ _) (isB_bc h.cs))))))))
mutual
theorem eqv_self : ∀ d : PyData, d.plain = true → PyData.eqv d d = true
  | .none, _ => by simp [PyData.eqv]
  | .bool b, _ => by simp [PyData.eqv]
  | .int i, _ => by simp [PyData.eqv]
  | .str x, _ => by simp [PyData.eqv]
  | .list ds, h => by
    show PyData.eqvAll ds ds = true
    exact eqvAll_self ds h
  | .tuple ds, h => by
    show PyData.eqvAll ds ds = true
    exact eqvAll_self ds h
  | .dict ds, h => by cases h
theorem eqvAll_self : ∀ ds : List PyData, PyData.plainAll ds = true → PyData.eqvAll ds ds = true
  | [], _ => by simp [PyData.eqvAll]
  | d :: ds, h => by
    rw [PyData.plainAll, Bool.and_eq_true] at h
    rw [PyData.eqvAll, eqv_self d h.1, eqvAll_self ds h.2]
    rfl
end
mutual
theorem dp_same {K : PySem.W.Frag} {H H' : Hp} (e : Same H H') : ∀ {v : V} {d : PyData}, Dp K H v d → Dp K H' v d
  | _, _, .non => .non
  | _, _, .bl b => .bl b
  | _, _, .int i => .int i
  | _, _, .str x => .str x
  | _, _, .lst h a => .lst (e.seq h) (dpa_same e a)
  | _, _, .tup h a => .tup (same_tup e h) (dpa_same e a)
theorem dpa_same {K : PySem.W.Frag} {H H' : Hp} (e : Same H H') : ∀ {v : List V} {d : List PyData}, DpAll K H v d → DpAll K H' v d
  | _, _, .nil => .nil
  | _, _, .cons a b => .cons (dp_same e a) (dpa_same e b)
end
/-! ### what is read is what was written -/
def Seg (d : List Int) (q r : Nat) (w : List Int) : Prop := d.drop q = w ++ d.drop r ∧ r = q + w.length
theorem Seg.nil (d : List Int) (q : Nat) : Seg d q q [] := ⟨rfl, rfl⟩
theorem Seg.app {d : List Int} {q r s : Nat} {w u : List Int} (h : Seg d q r w) (g : Seg d r s u) : Seg d q s (w ++ u) :=
  ⟨by rw [h.1, g.1, List.append_assoc], by rw [g.2, h.2, List.length_append]; omega⟩
theorem Seg.all {d w : List Int} (h : Seg d 0 d.length w) : d = w := by
  have := h.1
  rw [List.drop_zero, List.drop_length, List.append_nil] at this
  exact this
theorem seg_byte {l h v : Int} {d : List Int} {q r : Nat} (e : pByte l h d q = .ok (v, r)) : Seg d q r [v] := by
  obtain ⟨_, _, rfl, g⟩ := byte_ok e
  have hl := (List.getElem?_eq_some_iff.mp g).1
  refine ⟨?_, rfl⟩
  rw [List.drop_eq_getElem_cons hl, (List.getElem?_eq_some_iff.mp g).2]
  rfl
theorem seg_num {l v : Int} {d : List Int} {q r : Nat} (hB : isB d) (hl : 0 ≤ l) (hl1 : l ≤ 1) (e : pNum l d q = .ok (v, r)) : Seg d q r (wd v 4) ∧ l ≤ v ∧ v < 4294967296 := by
  obtain ⟨h4, h1, rfl, rfl⟩ := num_of hB hl hl1 e
  obtain ⟨a, b, c, f, ga, gb, gc, gf, gt⟩ := bs4 h4
  have ha := hB a (List.mem_of_getElem? ga)
  have hb := hB b (List.mem_of_getElem? gb)
  have hc := hB c (List.mem_of_getElem? gc)
  have hf := hB f (List.mem_of_getElem? gf)
  have hw : wd (num ((d.drop q).take 4)) 4 = (d.drop q).take 4 := by
    rw [gt, num4, wd4]
    have e1 : (((a * 256 + b) * 256 + c) * 256 + f) / 16777216 % 256 = a := by omega
    have e2 : (((a * 256 + b) * 256 + c) * 256 + f) / 65536 % 256 = b := by omega
    have e3 : (((a * 256 + b) * 256 + c) * 256 + f) / 256 % 256 = c := by omega
    have e4 : (((a * 256 + b) * 256 + c) * 256 + f) / 1 % 256 = f := by omega
    rw [e1, e2, e3, e4]
  refine ⟨⟨?_, by rw [wd_len]⟩, h1, ?_⟩
  · rw [hw, ← List.drop_drop, List.take_append_drop]
  · rw [gt, num4]; omega
theorem seg_chr {d : List Int} {q r c : Nat} (hB : isB d) (e : pChr d q = .ok (c, r)) : Seg d q r [(c : Int)] ∧ c ∈ CH := by
  obtain ⟨v, g, hv, hc, rfl⟩ := chr_of e
  have b := hB v (List.mem_of_getElem? g)
  have hl := (List.getElem?_eq_some_iff.mp g).1
  refine ⟨⟨?_, rfl⟩, hc⟩
  rw [List.drop_eq_getElem_cons hl, (List.getElem?_eq_some_iff.mp g).2, show v = (c : Int) by omega]
  rfl
theorem seg_chrs {d : List Int} (hB : isB d) : ∀ {n q r : Nat} {cs : List Nat}, pMany pChr n d q = .ok (cs, r) → Seg d q r (cs.map fun c : Nat => (c : Int)) ∧ cs.length = n ∧ ∀ c ∈ cs, c ∈ CH
  | 0, q, r, cs, e => by
    cases e
    exact ⟨Seg.nil _ _, rfl, fun c h => by cases h⟩
  | n + 1, q, r, cs, e => by
    obtain ⟨c, r1, e1, e⟩ := then_of e
    obtain ⟨xs, r2, e2, e⟩ := then_of e
    cases e
    obtain ⟨s1, h1⟩ := seg_chr hB e1
    obtain ⟨s2, h2, h3⟩ := seg_chrs hB e2
    refine ⟨s1.app s2, by rw [List.length_cons, h2], fun x hx => ?_⟩
    rcases List.mem_cons.mp hx with z | z
    · rw [z]; exact h1
    · exact h3 x z
theorem seg_bytes {d : List Int} : ∀ {n q r : Nat} {cs : List Int}, pMany (pByte 0 255) n d q = .ok (cs, r) → Seg d q r cs ∧ cs.length = n ∧ isB cs
  | 0, q, r, cs, e => by
    cases e
    exact ⟨Seg.nil _ _, rfl, fun c h => by cases h⟩
  | n + 1, q, r, cs, e => by
    obtain ⟨c, r1, e1, e⟩ := then_of e
    obtain ⟨xs, r2, e2, e⟩ := then_of e
    cases e
    have b := byte_ok e1
    obtain ⟨s2, h2, h3⟩ := seg_bytes e2
    refine ⟨(seg_byte e1).app s2, by rw [List.length_cons, h2], fun x hx => ?_⟩
    rcases List.mem_cons.mp hx with z | z
    · rw [z]; omega
    · exact h3 x z
theorem seg_name {d : List Int} {q r : Nat} {z : Str} (hB : isB d) (e : pName d q = .ok (z, r)) : Seg d q r (nmB z) ∧ OkN z := by
  obtain ⟨n, r1, e1, e⟩ := then_of e
  obtain ⟨cs, r2, e2, e⟩ := then_of e
  cases e
  have b := byte_ok e1
  obtain ⟨s2, h2, h3⟩ := seg_chrs hB e2
  have hz : (⟨cs.toArray⟩ : Str).length = cs.length := by simp [Str.length]
  have hn : n = ((⟨cs.toArray⟩ : Str).length : Int) := by rw [hz, h2]; omega
  refine ⟨?_, by rw [hz]; omega, by rw [hz]; omega, h3⟩
  unfold nmB
  rw [← hn]
  exact (seg_byte e1).app s2
theorem seg_vecL {d : List Int} (hB : isB d) : ∀ {n q r : Nat} {dv : Int} {v : Vc}, pVecL n dv d q = .ok (v, r) → Seg d q r (v.flatMap fun c => c.1 :: wd c.2 4) ∧ v.length = n ∧ okv dv v
  | 0, q, r, dv, v, e => by
    cases e
    exact ⟨Seg.nil _ _, rfl, trivial⟩
  | n + 1, q, r, dv, v, e => by
    obtain ⟨c, r1, e1, e⟩ := then_of e
    obtain ⟨m, r2, e2, e⟩ := then_of e
    obtain ⟨xs, r3, e3, e⟩ := then_of e
    cases e
    have b := byte_ok e1
    obtain ⟨s2, m1, m2⟩ := seg_num hB (by decide) (by decide) e2
    obtain ⟨s3, h3, h4⟩ := seg_vecL hB e3
    refine ⟨?_, by rw [List.length_cons, h3], b.1, by rw [h3]; omega, m1, m2, h4⟩
    exact ((seg_byte e1).app s2).app s3
theorem seg_vec {d : List Int} {q r : Nat} {v : Vc} (hB : isB d) (e : pVec d q = .ok (v, r)) : Seg d q r (vcB v) ∧ OkV v := by
  obtain ⟨n, r1, e1, e⟩ := then_of e
  have b := byte_ok e1
  obtain ⟨s2, h2, h3⟩ := seg_vecL hB e
  have hn : n = (v.length : Int) := by rw [h2]; omega
  refine ⟨?_, by omega, by omega, h3⟩
  unfold vcB
  rw [← hn]
  exact (seg_byte e1).app s2
theorem seg_row {d c : List Int} {q r : Nat} {l : Int} (hl : 1 ≤ l) (e : pRow l d q = .ok (c, r)) : Seg d q r ((c.length : Int) :: c) ∧ Piece c ∧ l ≤ (c.length : Int) := by
  obtain ⟨n, r1, e1, e⟩ := then_of e
  have b := byte_ok e1
  obtain ⟨s2, h2, h3⟩ := seg_bytes e
  have hn : n = (c.length : Int) := by rw [h2]; omega
  refine ⟨?_, ⟨h3, by omega, by omega⟩, by omega⟩
  rw [← hn]
  exact (seg_byte e1).app s2
theorem seg_blkL {d : List Int} : ∀ {n q r : Nat} {cs : List (List Int)}, pBlkL n d q = .ok (cs, r) → Seg d q r (cs.flatMap fun c => (c.length : Int) :: c) ∧ cs.length = n ∧ (∀ c ∈ cs, Piece c) ∧ ∀ i c, cs[i]? = some c → i + 1 < cs.length → c.length = 4
  | 0, q, r, cs, e => by
    cases e
    exact ⟨Seg.nil _ _, rfl, (fun c h => (by cases h)), fun i c h => (by cases h)⟩
  | n + 1, q, r, cs, e => by
    obtain ⟨c, r1, e1, e⟩ := then_of e
    obtain ⟨xs, r2, e2, e⟩ := then_of e
    cases e
    obtain ⟨s1, p1, l1⟩ := seg_row (by split <;> decide) e1
    obtain ⟨s2, h2, h3, h4⟩ := seg_blkL e2
    refine ⟨s1.app s2, by rw [List.length_cons, h2], fun x hx => ?_, fun i x hx hi => ?_⟩
    · rcases List.mem_cons.mp hx with z | z
      · rw [z]; exact p1
      · exact h3 x z
    · rw [List.length_cons] at hi
      cases i with
      | zero =>
        cases hx
        rw [if_pos (by omega)] at l1
        have := p1.h4
        omega
      | succ i => exact h4 i x hx (by omega)
theorem seg_entry {d : List Int} {q r : Nat} {x : ET2} (hB : isB d) (h : pEntry d q = .ok (x, r)) : Seg d q r (enB x.1 x.2.1) ∧ OkE x.1 x.2.1 x.2.2 := by
  obtain ⟨n, r1, e1, h⟩ := then_of h
  obtain ⟨nm, r2, e2, h⟩ := then_of h
  obtain ⟨vc, r3, e3, h⟩ := then_of h
  obtain ⟨ht, r4, e4, h⟩ := then_of h
  obtain ⟨dv, r5, e5, h⟩ := then_of h
  obtain ⟨mn, r6, e6, h⟩ := then_of h
  obtain ⟨dl, r7, e7, h⟩ := then_of h
  obtain ⟨tm, r8, e8, h⟩ := then_of h
  obtain ⟨cs, r9, e9, h⟩ := then_of h
  cases h
  obtain ⟨m, r10, e10, e11⟩ := then_of e9
  obtain ⟨s1, n1, n2⟩ := seg_num hB (by decide) (by decide) e1
  obtain ⟨s2, o2⟩ := seg_name hB e2
  obtain ⟨s3, o3⟩ := seg_vec hB e3
  obtain ⟨s4, t1, t2⟩ := seg_num hB (by decide) (by decide) e4
  have b5 := byte_ok e5
  obtain ⟨s6, k1, k2⟩ := seg_num hB (by decide) (by decide) e6
  have b7 := byte_ok e7
  obtain ⟨s8, u1, u2⟩ := seg_num hB (by decide) (by decide) e8
  have b10 := byte_ok e10
  obtain ⟨s11, l1, p1, w1⟩ := seg_blkL e11
  have hm : m = (cs.length : Int) := by rw [l1]; omega
  have hm2 : m ≤ 255 := Int.le_trans b10.2.1 (by split <;> decide)
  have hO : OkE ⟨nm, vc, ht, (dv, mn), decide (dl = 1), tm, cs.map bnum⟩ n cs := ⟨o2, o3, ⟨t1, t2⟩, ⟨b5.1, b5.2.1, k1, k2⟩, fun z => by
    have z : decide (dl = 1) = true := z
    have hb := b10.2.1
    rw [if_pos (of_decide_eq_true z)] at hb
    exact List.eq_nil_of_length_eq_zero (by omega), ⟨u1, u2⟩, rfl, ⟨p1, by omega, w1⟩, ⟨n1, n2⟩⟩
  refine ⟨?_, hO⟩
  rw [enB_eq hO]
  have hd : (if decide (dl = 1) = true then (1 : Int) else 0) = dl := by
    by_cases c : dl = 1
    · rw [if_pos (by rw [decide_eq_true_eq]; exact c), c]
    · rw [if_neg (by rw [decide_eq_true_eq]; exact c)]; omega
  have sB : Seg d r8 r (bcB cs) := by
    unfold bcB
    rw [← hm]
    exact (seg_byte e10).app s11
  exact s1.app (s2.app (s3.app (s4.app ((seg_byte e5).app (s6.app ((by rw [hd]; exact seg_byte e7 : Seg d r6 r7 [if decide (dl = 1) = true then (1 : Int) else 0]).app (s8.app sB)))))))
theorem ixN_nat {n i : Nat} (h : i < n) : ixN n (i : Int) = some i := by
  unfold ixN
  rw [if_pos (by omega), if_pos (by omega)]
  rfl
/-! ### fields of an entry, told -/
def Fl (K : PySem.W.Frag) (H : Hp) (r : Addr) (e : En) : Prop := ∃ v m b, SqT K H r [.str e.nm, .ref v, .int e.ht, .ref m, .bl e.dl, .int e.tm, .ref b] ∧ Vec K H v e.vc ∧ SqT K H m [.int e.mr.1, .int e.mr.2] ∧ SqT K H b (e.bl.map V.int)
section
variable {K : PySem.W.Frag} {H H' : Hp} {r st sc : Addr} {ns : List Int} {e : En} {n : Int}
theorem Fl.same (h : Fl K H r e) (s : Same H H') : Fl K H' r e := by
  obtain ⟨v, m, b, h1, h2, h3, h4⟩ := h
  exact ⟨v, m, b, same_tup s h1, h2.same s, same_tup s h3, same_tup s h4⟩
theorem vec_kp {a : Addr} {v : Vc} (d : Dr K st sc ns H) (k : Kp st H H') (h : Vec K H a v) : Vec K H' a v := by
  obtain ⟨ps, h1, h2⟩ := h
  exact ⟨ps, sqT_kp h1 d k, paired_imp (fun _ _ q => sqT_kp q d k) h2⟩
theorem Fl.kp (d : Dr K st sc ns H) (k : Kp st H H') (h : Fl K H r e) : Fl K H' r e := by
  obtain ⟨v, m, b, h1, h2, h3, h4⟩ := h
  exact ⟨v, m, b, sqT_kp h1 d k, vec_kp d k h2, sqT_kp h3 d k, sqT_kp h4 d k⟩
def FlN (K : PySem.W.Frag) (H : Hp) (r : Addr) (e : En) (n : Int) : Prop := ∃ f, SqT K H r [.ref f, .int n] ∧ Fl K H f e
theorem FlN.same (h : FlN K H r e n) (s : Same H H') : FlN K H' r e n := by
  obtain ⟨f, h1, h2⟩ := h
  exact ⟨f, same_tup s h1, h2.same s⟩
theorem FlN.kp (d : Dr K st sc ns H) (k : Kp st H H') (h : FlN K H r e n) : FlN K H' r e n := by
  obtain ⟨f, h1, h2⟩ := h
  exact ⟨f, sqT_kp h1 d k, h2.kp d k⟩
def flD (e : En) : PyData := .tuple [.str e.nm, .tuple (Dv e.vc), .int e.ht, .tuple [.int e.mr.1, .int e.mr.2], .bool e.dl, .int e.tm, .tuple (Di e.bl)]
def fnD (e : En) (n : Int) : PyData := .tuple [flD e, .int n]
theorem Fl.dp (h : Fl K H r e) : Dp K H (.ref r) (flD e) := by
  obtain ⟨v, m, b, h1, h2, h3, h4⟩ := h
  exact .tup h1 (.cons (.str _) (.cons (dp_vec h2) (.cons (.int _) (.cons (.tup h3 (.cons (.int _) (.cons (.int _) .nil))) (.cons (.bl _) (.cons (.int _) (.cons (.tup h4 (dpAll_ints _)) .nil)))))))
theorem FlN.dp (h : FlN K H r e n) : Dp K H (.ref r) (fnD e n) := by
  obtain ⟨f, h1, h2⟩ := h
  exact .tup h1 (.cons h2.dp (.cons (.int _) .nil))
theorem flD_plain (e : En) : (flD e).plain = true := by simp [flD, PyData.plain, PyData.plainAll, dv_plain, plain_ints]
theorem flD_depth (e : En) : (flD e).depth ≤ 4 := by
  have h1 := dv_depth e.vc
  have h2 := Vf.depthAll_ints e.bl
  simp only [flD, PyData.depth, PyData.depthAll]
  omega
theorem fnD_plain (e : En) (n : Int) : (fnD e n).plain = true := by simp [fnD, PyData.plain, PyData.plainAll, flD_plain]
theorem fnD_depth (e : En) (n : Int) : (fnD e n).depth ≤ 5 := by
  have h1 := flD_depth e
  simp only [fnD, PyData.depth, PyData.depthAll]
  omega
end
theorem e_ixM {K : PySem.W.Frag} {H : Hp} {Q : VK} {p : Addr} {v : Int} (xs : List Int) (h : SqL K H p (xs.map V.int)) (h0 : 0 ≤ v) (h1 : v < xs.length) (q : ∀ x ∈ xs, Q (.int x) H) : rIxL K (.ref p) (.int v) H Q := by
  have g := List.getElem?_eq_getElem (l := xs) (i := v.toNat) (by omega)
  exact e_ixL h (at_of (j := v.toNat) (by omega) (by rw [List.getElem?_map, g]; rfl)) (q _ (List.mem_of_getElem? g))
/-! ### a reader beside a box: where it stands, and the place of what is wrong -/
abbrev BS := Nat × Option Nat
def Nx {α : Type} (f : PR α) (d : List Int) (s s' : BS) : Option α → Prop
  | some v => s.2 = none ∧ s'.2 = none ∧ f d s.1 = .ok (v, s'.1)
  | none => ∃ n, s'.2 = some n ∧ (s = s' ∨ (s.2 = none ∧ f d s.1 = .error n))
structure BxS (H : Hp) (l b : Addr) (d : List Int) (s : BS) : Prop where
  da : LstI H l d
  ne : l ≠ b
  B : isB d
  le : s.1 ≤ d.length
  bx : LstI H b [(s.1 : Int), s.2.elim (-1) fun n => (n : Int)]
theorem BxS.same {H H' : Hp} {l b : Addr} {d : List Int} {s : BS} (h : BxS H l b d s) (k : Same H H') : BxS H' l b d s := ⟨k _ _ h.da, h.ne, h.B, h.le, k _ _ h.bx⟩
theorem BxS.upd {H : Hp} {l b p : Addr} {d : List Int} {s : BS} {o : HO} (h : BxS H l b d s) (n : p ≠ l ∧ p ≠ b) : BxS (upd H p o) l b d s :=
  ⟨by unfold LstI; rw [upd_ne (Ne.symm n.1)]; exact h.da, h.ne, h.B, h.le, by unfold LstI; rw [upd_ne (Ne.symm n.2)]; exact h.bx⟩
theorem BxS.free {H : Hp} {l b p : Addr} {d : List Int} {s : BS} (h : BxS H l b d s) (n : H p = none) : p ≠ l ∧ p ≠ b := by
  have h1 := h.da
  have h2 := h.bx
  unfold LstI at h1 h2
  constructor
  · intro z
    rw [z, h1] at n; cases n
  · intro z
    rw [z, h2] at n; cases n
theorem BxS.nt {H : Hp} {l b : Addr} {d : List Int} {s : BS} (h : BxS H l b d s) : ∀ x ∈ [b], NT H x := fun x m => by rw [List.mem_singleton.mp m]; exact nt_lst h.bx
theorem fr1_lst {H H' : Hp} {b a : Addr} {xs : List V} (n : a ≠ b) (f : Fr [b] H H') (e : H a = some (.lst xs)) : H' a = some (.lst xs) := f _ _ (fun m => n (List.mem_singleton.mp m)) e
def spL {α : Type} (x y : V) (H : Hp) (Q : VK) (f : PR α) (R : Option α → V → Hp → Prop) : Prop := ∃ (l b : Addr) (d : List Int) (s : BS), x = .ref l ∧ y = .ref b ∧ BxS H l b d s ∧ ∀ s' o r H', Nx f d s s' o → Fr [b] H H' → BxS H' l b d s' → R o r H' → Q r H'
section
variable {α β : Type} {f : PR α} {g : α → PR β} {d : List Int} {s s1 s2 : BS}
theorem Nx.dd {o : Option α} (h : Nx f d s s1 o) {n : Nat} (e : s.2 = some n) : s1 = s ∧ o = none := by
  cases o with
  | some v => obtain ⟨h1, _⟩ := h; rw [e] at h1; cases h1
  | none =>
    obtain ⟨m, h1, h2 | h2⟩ := h
    · exact ⟨h2.symm, rfl⟩
    · rw [e] at h2; cases h2.1
theorem Nx.dead (h : Nx f d s s1 none) : ∃ n, s1.2 = some n := by obtain ⟨n, h1, _⟩ := h; exact ⟨n, h1⟩
theorem Nx.live {v : α} (h : Nx f d s s1 (some v)) : s1.2 = none := h.2.1
theorem Nx.bind {o1 : Option α} {o2 : Option β} (h1 : Nx f d s s1 o1) (h2 : ∀ v, o1 = some v → Nx (g v) d s1 s2 o2) (h3 : o1 = none → s2 = s1 ∧ o2 = none) : Nx (thenP f g) d s s2 o2 := by
  cases o1 with
  | none =>
    obtain ⟨rfl, rfl⟩ := h3 rfl
    obtain ⟨n, a, b⟩ := h1
    refine ⟨n, a, b.imp id fun c => ⟨c.1, then_err c.2⟩⟩
  | some v =>
    have h2 := h2 v rfl
    obtain ⟨a1, a2, a3⟩ := h1
    cases o2 with
    | none =>
      obtain ⟨n, b1, b2⟩ := h2
      refine ⟨n, b1, .inr ⟨a1, ?_⟩⟩
      rcases b2 with b2 | b2
      · rw [← b2, a2] at b1; cases b1
      · rw [then_ok a3]; exact b2.2
    | some w => exact ⟨a1, h2.2.1, by rw [then_ok a3]; exact h2.2.2⟩
theorem Nx.ret {x : α} (h : s.2 = none) : Nx (retP x) d s s (some x) := ⟨h, h, rfl⟩
theorem Nx.eq {o : Option α} {f' : PR α} (e : ∀ p, f d p = f' d p) (h : Nx f d s s1 o) : Nx f' d s s1 o := by
  cases o with
  | none => obtain ⟨n, a, b⟩ := h; exact ⟨n, a, b.imp id fun c => ⟨c.1, (e _).symm.trans c.2⟩⟩
  | some v => exact ⟨h.1, h.2.1, (e _).symm.trans h.2.2⟩
end
def Dn (s s' : BS) : Prop := s.2 ≠ none → s' = s
theorem Dn.trans {a b c : BS} (h : Dn a b) (g : Dn b c) : Dn a c := fun n => by
  have e := h n
  rw [← e] at n
  rw [g n, e]
theorem Nx.dn {α : Type} {f : PR α} {d : List Int} {s s1 : BS} {o : Option α} (h : Nx f d s s1 o) : Dn s s1 := fun n => by
  cases e : s.2 with
  | none => exact absurd e n
  | some m => exact (h.dd e).1
theorem Nx.seq {α β : Type} {f : PR α} {g : α → PR β} {d : List Int} {s s1 s2 : BS} {V : β → Prop} {o1 : Option α} (h1 : Nx f d s s1 o1) (hd : Dn s1 s2) (h2 : ∀ v, o1 = some v → ∃ o, Nx (g v) d s1 s2 o ∧ ∀ x, o = some x → V x) : ∃ o, Nx (thenP f g) d s s2 o ∧ ∀ x, o = some x → V x := by
  cases o1 with
  | none =>
    have e := hd (by obtain ⟨n, a, _⟩ := h1; rw [a]; exact fun z => by cases z)
    exact ⟨none, h1.bind (fun v e => by cases e) fun _ => ⟨e, rfl⟩, fun x e => by cases e⟩
  | some v =>
    obtain ⟨o, h3, h4⟩ := h2 v rfl
    exact ⟨o, h1.bind (fun w e => by cases e; exact h3) (fun e => by cases e), h4⟩
/-- under way: all well so far, with what is left, or refused -/
def Go {β : Type} (R : Except Nat (β × Nat)) (C : Nat → Except Nat (β × Nat)) (s0 s : BS) : Prop := (s.2 = none ∧ s0.2 = none ∧ R = C s.1) ∨ ∃ n, s.2 = some n ∧ (s0 = s ∨ (s0.2 = none ∧ R = .error n))
theorem Go.dead {β : Type} {R : Except Nat (β × Nat)} {C C' : Nat → Except Nat (β × Nat)} {s0 s : BS} {n : Nat} (h : Go R C s0 s) (e : s.2 = some n) : Go R C' s0 s := by
  rcases h with h | h
  · rw [e] at h; cases h.1
  · exact .inr h
theorem Go.start {β : Type} {C : Nat → Except Nat (β × Nat)} {s : BS} {R : Except Nat (β × Nat)} (h : R = C s.1) : Go R C s s := by
  cases e : s.2 with
  | none => exact .inl ⟨e, e, h⟩
  | some n => exact .inr ⟨n, e, .inl rfl⟩
theorem Go.step {α β : Type} {f : PR α} {d : List Int} {o : Option α} {R : Except Nat (β × Nat)} {C C' : Nat → Except Nat (β × Nat)} {s0 s1 s2 : BS} (h : Go R C s0 s1) (n : Nx f d s1 s2 o) (he : ∀ m, f d s1.1 = .error m → C s1.1 = .error m)
    (hk : ∀ v, o = some v → f d s1.1 = .ok (v, s2.1) → C s1.1 = C' s2.1) : Go R C' s0 s2 := by
  rcases h with ⟨h1, h2, h3⟩ | ⟨m, h1, h2⟩
  · cases o with
    | some v => exact .inl ⟨n.2.1, h2, h3.trans (hk v rfl n.2.2)⟩
    | none =>
      obtain ⟨m, a, b | b⟩ := n
      · rw [← b, h1] at a; cases a
      · exact .inr ⟨m, a, .inr ⟨h2, h3.trans (he m b.2)⟩⟩
  · obtain ⟨rfl, _⟩ := n.dd h1
    exact .inr ⟨m, h1, h2⟩
theorem Go.nx {β : Type} {f : PR β} {d : List Int} {v : β} {C : Nat → Except Nat (β × Nat)} {s0 s : BS} (h : Go (f d s0.1) C s0 s) (hc : C s.1 = .ok (v, s.1)) : ∃ o, Nx f d s0 s o ∧ ∀ w, o = some w → w = v := by
  rcases h with ⟨h1, h2, h3⟩ | ⟨m, h1, h2⟩
  · exact ⟨some v, ⟨h2, h1, h3.trans hc⟩, fun w e => by cases e; rfl⟩
  · exact ⟨none, ⟨m, h1, h2⟩, fun w e => by cases e⟩
theorem Go.conv {β : Type} {R : Except Nat (β × Nat)} {C C' : Nat → Except Nat (β × Nat)} {s0 s : BS} (h : Go R C s0 s) (e : ∀ q, C q = C' q) : Go R C' s0 s := h.imp (fun z => ⟨z.1, z.2.1, z.2.2.trans (e _)⟩) id
theorem fr_none {b D : Addr} {H H1 : Hp} (f : Fr [b] H H1) (n : D ≠ b) (h : H1 D = none) : H D = none := by
  cases e : H D with
  | none => rfl
  | some o =>
    rw [f D o (fun m => n (List.mem_singleton.mp m)) e] at h
    cases h
def mkS (cs : List Nat) : Str := ⟨cs.toArray⟩
theorem mkS_tl (z : Str) : mkS z.cps.toList = z := by cases z; rfl
theorem chr_flt : ∀ n, n < 127 → CH.filter (fun c => decide (c = n)) = if n ∈ CH then [n] else [] := by decide +kernel
theorem chr_rg : ∀ c ∈ CH, 45 ≤ c ∧ c ≤ 126 := by decide +kernel
theorem chr_bad {d : List Int} {p n : Nat} (hB : isB d) (e : pByte 45 126 d p = .error n) : pChr d p = .error n := by
  unfold pByte at e
  unfold pChr pByte
  cases g : d[p]? with
  | none => rw [g] at e; cases e; rfl
  | some v =>
    rw [g] at e
    have hv := hB v (List.mem_of_getElem? g)
    have e : (if v < 45 ∨ 126 < v then (Except.error p : Except Nat (Int × Nat)) else .ok (v, p + 1)) = .error n := e
    by_cases c : v < 45 ∨ 126 < v
    · rw [if_pos c] at e
      cases e
      show (match (if v < 0 ∨ 255 < v then (Except.error p : Except Nat (Int × Nat)) else .ok (v, p + 1)) with | .error n => (Except.error n : Except Nat (Nat × Nat)) | .ok (b, q) => if b.toNat ∈ CH then .ok (b.toNat, q) else .error p) = _
      rw [if_neg (by omega)]
      exact if_neg fun m => by have := chr_rg _ m; omega
    · rw [if_neg c] at e; cases e
theorem chr_good {d : List Int} {p q : Nat} {v : Int} (e : pByte 45 126 d p = .ok (v, q)) : pChr d p = if v.toNat ∈ CH then .ok (v.toNat, q) else .error p := by
  have hb := byte_ok e
  unfold pChr
  rw [byte_yes hb.2.2.2 (by omega) (by omega), hb.2.2.1]
/-! ### forward: what is written is read -/
theorem At.take {d : List Int} {p : Nat} {u w : List Int} (h : At d p (u ++ w)) : At d p u := (At.app h).1
section
variable {d : List Int} {p : Nat}
theorem pb_at {v l h : Int} {w : List Int} (a : At d p (v :: w)) (h1 : l ≤ v) (h2 : v ≤ h) : pByte l h d p = .ok (v, p + 1) := byte_yes a.one.1 h1 h2
theorem num_at {n l : Int} (a : At d p (wd n 4)) (h0 : 0 ≤ l) (hl : l ≤ 1) (h1 : l ≤ n) (h2 : n < 4294967296) : pNum l d p = .ok (n, p + 4) := by
  rw [wd4] at a
  have a1 := a.one
  have a2 := a1.2.one
  have a3 := a2.2.one
  have a4 := a3.2.one
  unfold pNum
  rw [pNumL, then_ok (v := n / 16777216 % 256) (q := p + 1) (byte_yes a1.1 (by rw [if_neg (by omega)]; omega) (by omega)), pNumL, then_ok (v := n / 65536 % 256) (q := p + 2) (byte_yes a2.1 (by rw [if_neg (by omega)]; omega) (by omega)), pNumL, then_ok (v := n / 256 % 256) (q := p + 3) (byte_yes a3.1 (by rw [if_neg (by omega)]; omega) (by omega)), pNumL]
  rw [then_ok (v := n / 1 % 256) (q := p + 4) (byte_yes a4.1 (by split <;> omega) (by omega))]
  show Except.ok ((((0 * 256 + n / 16777216 % 256) * 256 + n / 65536 % 256) * 256 + n / 256 % 256) * 256 + n / 1 % 256, p + 4) = _
  congr 2
  omega
theorem many_at {α : Type} {f : PR α} (k : α → Int) : ∀ {xs : List α} {p : Nat}, At d p (xs.map k) → (∀ x ∈ xs, ∀ q, d[q]? = some (k x) → f d q = .ok (x, q + 1)) → pMany f xs.length d p = .ok (xs, p + xs.length)
  | [], p, _, _ => rfl
  | x :: xs, p, a, h => by
    have a1 := At.one a
    have h1 := h x (List.mem_cons_self ..) p a1.1
    have h2 := many_at k (xs := xs) (p := p + 1) a1.2 fun y m => h y (List.mem_cons_of_mem _ m)
    rw [List.length_cons, pMany, then_ok h1, then_ok h2, show p + 1 + xs.length = p + (xs.length + 1) by omega]
    rfl
theorem len_tl (z : Str) : z.cps.toList.length = z.length := by simp [Str.length]
theorem chr_lt : ∀ c ∈ CH, c < 256 := by decide +kernel
theorem name_at {z : Str} (a : At d p (nmB z)) (h : OkN z) : pName d p = .ok (z, p + (nmB z).length) := by
  have lz := len_tl z
  unfold nmB at a ⊢
  have hb := pb_at (l := 1) (h := 40) a (by have := h.1; omega) (by have := h.2.1; omega)
  have hm := many_at (f := pChr) (fun c : Nat => (c : Int)) (xs := z.cps.toList) a.one.2 fun c hc q g => by
    have := chr_lt c (h.2.2 c hc)
    unfold pChr
    rw [byte_yes g (by omega) (by omega)]
    show (if (c : Int).toNat ∈ CH then (Except.ok ((c : Int).toNat, q + 1) : Except Nat (Nat × Nat)) else .error q) = _
    rw [Int.toNat_natCast, if_pos (h.2.2 c hc)]
  unfold pName
  rw [then_ok hb, Int.toNat_natCast, ← lz, then_ok hm]
  show Except.ok ((⟨z.cps.toList.toArray⟩ : Str), _) = _
  rw [List.length_cons, List.length_map, show p + 1 + z.cps.toList.length = p + (z.cps.toList.length + 1) by omega, show (⟨z.cps.toList.toArray⟩ : Str) = z by cases z; rfl]
theorem vec_at : ∀ {v : Vc} {dv : Int} {p : Nat}, At d p (v.flatMap fun c => c.1 :: wd c.2 4) → okv dv v → pVecL v.length dv d p = .ok (v, p + 5 * v.length)
  | [], dv, p, _, _ => rfl
  | c :: v, dv, p, a, h => by
    obtain ⟨h1, h2, h3, h4, h5⟩ := h
    rw [List.flatMap_cons, List.cons_append] at a
    have b1 := pb_at (l := dv + 1) (h := 9 - (v.length : Int)) a h1 (by omega)
    have a2 := At.app a.one.2
    have b2 := num_at (l := 1) a2.1 (by decide) (by decide) h3 h4
    rw [wd_len] at a2
    have b3 := vec_at (v := v) (dv := c.1) a2.2 h5
    rw [List.length_cons, pVecL, then_ok b1, then_ok b2, then_ok b3, show p + 1 + 4 + 5 * v.length = p + 5 * (v.length + 1) by omega]
    rfl
theorem vecB_at {v : Vc} (a : At d p (vcB v)) (h : OkV v) : pVec d p = .ok (v, p + (vcB v).length) := by
  have lv := vc_len v
  unfold vcB at a
  have hb := pb_at (l := 1) (h := 9) a (by have := h.1; omega) (by have := h.2.1; omega)
  have hv := vec_at (dv := 0) a.one.2 h.2.2
  unfold pVec
  rw [then_ok hb, Int.toNat_natCast, hv, lv, show p + 1 + 5 * v.length = p + (1 + 5 * v.length) by omega]
theorem row_at {c : List Int} {l : Int} (a : At d p ((c.length : Int) :: c)) (hc : Piece c) (h : l ≤ c.length) : pRow l d p = .ok (c, p + (c.length + 1)) := by
  have hb := pb_at (l := l) (h := 4) a h (by have := hc.h4; omega)
  have hm := many_at (f := pByte 0 255) (fun c : Int => c) (xs := c) (by rw [List.map_id']; exact a.one.2) fun x hx q g => byte_yes g (hc.b x hx).1 (by have := (hc.b x hx).2; omega)
  unfold pRow
  rw [then_ok hb, Int.toNat_natCast, hm, show p + 1 + c.length = p + (c.length + 1) by omega]
theorem blk_at : ∀ {cs : List (List Int)} {p : Nat}, At d p (cs.flatMap fun c => (c.length : Int) :: c) → (∀ c ∈ cs, Piece c) → (∀ i c, cs[i]? = some c → i + 1 < cs.length → c.length = 4) → pBlkL cs.length d p = .ok (cs, p + (cs.flatMap fun c => (c.length : Int) :: c).length)
  | [], p, _, _, _ => rfl
  | c :: cs, p, a, h, hw => by
    rw [List.flatMap_cons] at a
    have a2 := At.app a
    have b1 := row_at (l := if 0 < cs.length then 4 else 1) a2.1 (h c (List.mem_cons_self ..)) (by
      split
      · have := hw 0 c rfl (by rw [List.length_cons]; omega)
        omega
      · have := (h c (List.mem_cons_self ..)).h1
        omega)
    have b2 := blk_at (cs := cs) a2.2 (fun x m => h x (List.mem_cons_of_mem _ m)) fun i x e hi => hw (i + 1) x (by simpa using e) (by rw [List.length_cons]; omega)
    rw [List.length_cons] at b2
    rw [List.length_cons, pBlkL, then_ok b1, then_ok b2, List.flatMap_cons, List.length_append, List.length_cons, show ∀ n : Nat, p + (c.length + 1) + n = p + (c.length + 1 + n) from fun n => by omega]
    rfl
theorem entry_at {e : En} {n : Int} {cs : List (List Int)} (a : At d p (enB e n)) (h : OkE e n cs) : pEntry d p = .ok ((e, n, cs), p + (enB e n).length) := by
  have he := enB_eq h
  rw [he] at a
  have a1 := At.app a
  have a2 := At.app a1.2
  have a3 := At.app a2.2
  have a4 := At.app a3.2
  have a5 := At.app a4.2
  have a6 := At.app a5.2
  have a7 := At.app a6.2
  have a8 := At.app a7.2
  have b1 := num_at (l := 1) a1.1 (by decide) (by decide) h.n.1 h.n.2
  have b2 := name_at a2.1 h.nm
  have b3 := vecB_at a3.1 h.vc
  have b4 := num_at (l := 1) a4.1 (by decide) (by decide) h.ht.1 h.ht.2
  have b5 := pb_at (l := 1) (h := 9) a5.1 h.mr.1 h.mr.2.1
  have b6 := num_at (l := 1) a6.1 (by decide) (by decide) h.mr.2.2.1 h.mr.2.2.2
  have b7 := pb_at (l := 0) (h := 1) a7.1 (by split <;> decide) (by split <;> decide)
  have b8 := num_at (l := 0) a8.1 (by decide) (by decide) h.tm.1 h.tm.2
  have a9 := a8.2
  unfold bcB at a9
  have hlen : (cs.length : Int) ≤ if (if e.dl = true then (1 : Int) else 0) = 1 then 0 else 255 := by
    cases hd : e.dl with
    | true => rw [h.dl hd]; decide
    | false => have := h.cs.l; show (cs.length : Int) ≤ 255; omega
  have b9 := pb_at (l := 0) a9 (by omega) hlen
  have b10 := blk_at a9.one.2 h.cs.p h.cs.w
  have hb : pBlocks (if (if e.dl = true then (1 : Int) else 0) = 1 then 0 else 255) d (p + (wd n 4).length + (nmB e.nm).length + (vcB e.vc).length + (wd e.ht 4).length + [e.mr.1].length + (wd e.mr.2 4).length + [if e.dl = true then (1 : Int) else 0].length + (wd e.tm 4).length) = .ok (cs, _) := (then_ok b9).trans (by rw [Int.toNat_natCast]; exact b10)
  simp only [wd_len, List.length_singleton] at b1 b2 b3 b4 b5 b6 b7 b8 hb
  unfold pEntry
  rw [then_ok b1, then_ok b2, then_ok b3, then_ok b4]
  unfold pDev
  rw [then_ok b5, then_ok b6, then_ok b7, then_ok b8, then_ok hb]
  have hd : decide ((if e.dl = true then (1 : Int) else 0) = 1) = e.dl := by cases e.dl <;> rfl
  show Except.ok ((_, n, cs), _) = _
  rw [hd, ← h.bl, he]
  unfold bcB
  simp only [List.length_append, wd_len, List.length_cons, List.length_nil]
  congr 2
  omega
end
theorem strs_chr : ∀ {us : List V}, (∀ u ∈ us, ∃ c : Nat, u = .str ⟨#[c]⟩ ∧ c ∈ CH) → ∃ cs : List Nat, us = cs.map (fun c => V.str ⟨#[c]⟩) ∧ ∀ c ∈ cs, c ∈ CH
  | [], _ => ⟨[], rfl, fun _ h => by cases h⟩
  | u :: us, h => by
    obtain ⟨cs, rfl, hc⟩ := strs_chr (us := us) fun x m => h x (List.mem_cons_of_mem _ m)
    obtain ⟨c, rfl, h1⟩ := h u (List.mem_cons_self ..)
    exact ⟨c :: cs, rfl, fun x m => (List.mem_cons.mp m).elim (fun z => by rw [z]; exact h1) (hc x)⟩
theorem ints_rg {lo hi : Int} : ∀ (us : List V), (∀ u ∈ us, ∃ n : Int, u = .int n ∧ lo ≤ n ∧ n < hi) → ∃ qs : List Int, us = qs.map V.int ∧ ∀ q ∈ qs, lo ≤ q ∧ q < hi
  | [], _ => ⟨[], rfl, fun _ h => by cases h⟩
  | u :: us, h => by
    obtain ⟨qs, rfl, hq⟩ := ints_rg us fun x m => h x (List.mem_cons_of_mem _ m)
    obtain ⟨n, rfl, h1⟩ := h u (List.mem_cons_self ..)
    exact ⟨n :: qs, rfl, fun x m => (List.mem_cons.mp m).elim (fun z => by rw [z]; exact h1) (hq x)⟩
theorem num_bnum (xs : List Int) : num xs + 256 ^ xs.length = bnum xs := by
  have key : ∀ (ys : List Int) (a : Int), ys.foldl (fun n b => n * 256 + b) a + 256 ^ ys.length = ys.foldl (fun n b => n * 256 + b) (a + 1) := fun ys => by
    induction ys with
    | nil => intro a; rfl
    | cons y ys ih =>
      intro a
      show ys.foldl _ (a * 256 + y) + 256 ^ (ys.length + 1) = ys.foldl _ ((a + 1) * 256 + y)
      have e2 : ∀ (zs : List Int) (a c : Int), zs.foldl (fun n b => n * 256 + b) (a + c) = zs.foldl (fun n b => n * 256 + b) a + c * 256 ^ zs.length := fun zs => by
        induction zs with
        | nil => intro a c; show a + c = a + c * 1; omega
        | cons z zs ih2 =>
          intro a c
          show zs.foldl _ ((a + c) * 256 + z) = zs.foldl _ (a * 256 + z) + c * 256 ^ (zs.length + 1)
          rw [show (a + c) * 256 + z = (a * 256 + z) + c * 256 by omega, ih2, Int.pow_succ, Int.mul_assoc, Int.mul_comm 256]
      rw [show (a + 1) * 256 + y = (a * 256 + y) + 256 by omega, e2 ys (a * 256 + y) 256, Int.pow_succ, Int.mul_comm (256 ^ ys.length)]
  exact key xs 0
theorem blk_step {c : List Int} (h : Piece c) {i : Nat} (hi : 0 < c.length - i) : ∃ x : Int, bnum (c.take (c.length - i)) % 256 = x ∧ bnum (c.take (c.length - (i + 1))) = bnum (c.take (c.length - i)) / 256 ∧ c.drop (c.length - (i + 1)) = x :: c.drop (c.length - i) ∧ 1 < bnum (c.take (c.length - i)) := by
  have g := List.getElem?_eq_getElem (l := c) (i := c.length - (i + 1)) (by omega)
  have e1 : c.length - i = c.length - (i + 1) + 1 := by omega
  have hx := h.b _ (List.mem_of_getElem? g)
  have hn : 1 ≤ bnum (c.take (c.length - (i + 1))) := by
    have key : ∀ (ys : List Int) (a : Int), 1 ≤ a → isB ys → 1 ≤ ys.foldl (fun n b => n * 256 + b) a := fun ys => by
      induction ys with
      | nil => intro a ha _; exact ha
      | cons y ys ih => intro a ha hy; exact ih _ (by have := hy y (List.mem_cons_self ..); show 1 ≤ a * 256 + y; omega) fun b m => hy b (List.mem_cons_of_mem _ m)
    exact key _ 1 (by decide) fun b m => h.b b (List.mem_of_mem_take m)
  have e2 : c.take (c.length - i) = c.take (c.length - (i + 1)) ++ [c[c.length - (i + 1)]'(by omega)] := by
    rw [e1, List.take_add_one, g]; rfl
  have e3 : bnum (c.take (c.length - i)) = bnum (c.take (c.length - (i + 1))) * 256 + c[c.length - (i + 1)]'(by omega) := by
    rw [e2]
    unfold bnum
    rw [List.foldl_append]
    rfl
  refine ⟨c[c.length - (i + 1)]'(by omega), by omega, by omega, ?_, by omega⟩
  rw [List.drop_eq_getElem_cons (i := c.length - (i + 1)) (by omega), show c.length - (i + 1) + 1 = c.length - i by omega]
theorem at_ofA {α : Type} {xs : List α} {i : Int} {j : Nat} {v : α} (hi : i = j) (h : xs[j]? = some v) : atI xs i = some v := by
  have hj := (List.getElem?_eq_some_iff.mp h).1
  unfold atI
  rw [hi, ixN_nat hj]
  exact h
theorem e_catA {K : PySem.W.Frag} {H : Hp} {Q : VK} {a b : Addr} {xs ys : List V} (h1 : SqT K H a xs) (h2 : SqT K H b ys) (hn : xs.length + ys.length ≤ 1000) (q : ∀ r H', Same H H' → SqT K H' r (xs ++ ys) → Q (.ref r) H') : rCatA K (.ref a) (.ref b) H Q :=
  ⟨a, b, xs, ys, rfl, rfl, h1, h2, Nat.le_trans hn (by decide), fun e => q b H (Same.refl H) (by rw [e]; exact h2), fun _ e => q a H (Same.refl H) (by rw [e, List.append_nil]; exact h1), fun _ _ p hp => q p _ (same_new hp) (SqT.of upd_same)⟩
theorem e_mkRd2 {K : PySem.W.Frag} {H1 : Hp} {P : Addr → Hp → Prop} {l : Addr} {xs : List Int} {p : Nat} (hl : LstI H1 l xs) (q : ∀ a dl H', Same H1 H' → H1 a = none → Rd K H' a dl xs p → P a H') :
    ∀ x dx, H1 x = none → H1 dx = none → dx ≠ x → sp_Reader___init__ K [.ref x, .ref l, .int (p : Nat)] (upd (upd H1 dx (.own x)) x (.ins (cRd K) dx [])) (fun u H2 => u = .non ∧ P x H2) E0 := by
  intro x dx hx hdx ne
  have s0 : Same H1 (upd (upd H1 dx (.own x)) x (.ins (cRd K) dx [])) := Same.mut (same_new hdx) hx
  refine ⟨_, _, _, rfl, x, l, dx, xs, p, rfl, rfl, rfl, upd_same, s0 _ _ hl, fun dl H' f hR => ⟨rfl, q x dl H' (same_fr s0 hx f) hx hR⟩⟩
theorem Nx.map {α β : Type} {f : PR α} {d : List Int} {s s1 : BS} {o : Option α} (g : α → β) (h : Nx f d s s1 o) : Nx (fun d p => mapP g (f d p)) d s s1 (o.map g) := by
  cases o with
  | none => obtain ⟨n, a, b⟩ := h; exact ⟨n, a, b.imp id fun c => ⟨c.1, by show mapP g (f d s.1) = _; rw [c.2]; rfl⟩⟩
  | some v => exact ⟨h.1, h.2.1, by show mapP g (f d s.1) = _; rw [h.2.2]; rfl⟩
theorem e_repI {H : Hp} {Q : VK} {l : Addr} {x : Int} {n : Nat} (h : H l = some (.lst [.int x])) (hn : n ≤ 1000) (q : ∀ p H', H p = none → Same H H' → LstI H' p (List.replicate n x) → Q (.ref p) H') : rRep (.ref l) (.int (n : Nat)) H Q := by
  refine ⟨l, n, _, rfl, rfl, h, by omega, by omega, ?_, fun p hp => q p _ hp (same_new hp) ?_⟩
  · rw [Int.toNat_natCast]
    refine Nat.le_trans (by show 1 * n ≤ 1000; omega) (by decide)
  · unfold LstI
    rw [upd_same, Int.toNat_natCast]
    congr 2
    have key : ∀ m : Nat, (List.replicate m [V.int x]).flatten = (List.replicate m x).map V.int := fun m => by
      induction m with
      | zero => rfl
      | succ m ih => rw [List.replicate_succ, List.replicate_succ, List.flatten_cons, ih]; rfl
    exact key n
theorem isB_rep {n : Nat} {x : Int} (h : 0 ≤ x ∧ x < 256) : isB (List.replicate n x) := fun b m => by rw [List.eq_of_mem_replicate m]; exact h
theorem isB_take {xs : List Int} (h : isB xs) (n : Nat) : isB (xs.take n) := fun b m => h b (List.mem_of_mem_take m)
theorem isB_drop {xs : List Int} (h : isB xs) (n : Nat) : isB (xs.drop n) := fun b m => h b (List.mem_of_mem_drop m)
/-! ### rows of bytes, made by draws -/
theorem kp_none {K : PySem.W.Frag} {st sc p : Addr} {ns : List Int} {H H' : Hp} (k : Kp st H H') (d : Dr K st sc ns H') (h : H' p = none) : H p = none := k.free (by obtain ⟨a, b, _, _, e⟩ := d.s; exact ⟨_, e⟩) h
theorem e_neD {K : PySem.W.Frag} {H : Hp} {Q : VK} {x y : V} {d : PyData} (h1 : Dp K H x d) (h2 : Dp K H y d) (p : d.plain = true) (hd : d.depth ≤ 60) (q : Q (.bl false) H) : rNeP K x y H Q := e_nePV h1 h2 p p hd (b := true) (eqv_self _ p) q
def Rw (st R : Addr) (H : Hp) (qs : List Addr) (cs : List (List Int)) : Prop := Paired (fun q c => LstI H q c ∧ q ≠ st ∧ q ≠ R) qs cs
theorem Rw.kp {st R : Addr} {H H' : Hp} {qs : List Addr} {cs : List (List Int)} (h : Rw st R H qs cs) (k : Kp st H H') : Rw st R H' qs cs := paired_imp (fun _ _ q => ⟨k _ _ q.2.1 q.1, q.2⟩) h
theorem Rw.up {st R : Addr} {H : Hp} {qs : List Addr} {cs : List (List Int)} {o : HO} (h : Rw st R H qs cs) : Rw st R (upd H R o) qs cs := paired_imp (fun _ _ q => ⟨by unfold LstI; rw [upd_ne q.2.2]; exact q.1, q.2⟩) h
theorem Rw.re {st R R' : Addr} {H : Hp} {qs : List Addr} {cs : List (List Int)} (h : Rw st R H qs cs) (n : H R' = none) : Rw st R' H qs cs := paired_imp (fun _ _ q => ⟨q.1, q.2.1, fun z => by have := q.1; unfold LstI at this; rw [z, n] at this; cases this⟩) h
def Q4 (cs : List (List Int)) : Prop := ∀ c ∈ cs, isB c ∧ c.length = 4
theorem Q4.snoc {cs : List (List Int)} {c : List Int} (h : Q4 cs) (b : isB c) (l : c.length = 4) : Q4 (cs ++ [c]) := fun x m => (List.mem_append.mp m).elim (h x) fun z => by rw [List.mem_singleton.mp z]; exact ⟨b, l⟩
theorem Q4.app {cs ds : List (List Int)} (h : Q4 cs) (g : Q4 ds) : Q4 (cs ++ ds) := fun x m => (List.mem_append.mp m).elim (h x) (g x)
theorem Q4.ok {cs : List (List Int)} {c : List Int} (h : Q4 cs) (p : Piece c) (l : cs.length ≤ 254) : OkC (cs ++ [c]) where
  p x m := (List.mem_append.mp m).elim (fun z => ⟨(h x z).1, by rw [(h x z).2]; decide, by rw [(h x z).2]; decide⟩) fun z => by rw [List.mem_singleton.mp z]; exact p
  l := by rw [List.length_append, List.length_singleton]; omega
  w i x e hi := by
    rw [List.length_append, List.length_singleton] at hi
    rw [List.getElem?_append_left (by omega)] at e
    exact (h x (List.mem_of_getElem? e)).2
theorem okc_nil : OkC [] := ⟨(fun _ h => by cases h), by decide, fun i c e => by simp at e⟩
theorem paired_app {α β : Type} {R : α → β → Prop} : ∀ {xs us : List α} {ys vs : List β}, Paired R xs ys → Paired R us vs → Paired R (xs ++ us) (ys ++ vs)
  | _, _, _, _, .nil, h => h
  | _, _, _, _, .cons a b, h => .cons a (paired_app b h)
/-! ### what is due -/
def outD (k l h : Int) : PR PyData := fun d p => if k = 0 then mapP .int (pNum l d p) else if k = 1 then mapP .str (pName d p) else if k = 2 then mapP (fun v => .tuple (Dv v)) (pVec d p) else if k = 3 then mapP (fun x => fnD x.1 x.2.1) (pEntry d p) else if k = 4 then mapP (fun c => .int (bnum c)) (pRow 1 d p) else if k = 5 then mapP .int (pByte 1 9 d p) else mapP .int (pByte l h d p)
def Tl (K : PySem.W.Frag) (H : Hp) (q : Addr) : Except Nat (PyData × Nat) → Prop
  | .error n => SqT K H q [.non, .int (n : Nat)]
  | .ok (δ, e) => ∃ v, SqT K H q [v, .int (e : Nat)] ∧ Dp K H v δ
/-! ### promises -/
abbrev cFE (K : PySem.W.Frag) : Addr := He.ga K "FolderkinError"
def tsIB (K : PySem.W.Frag) : Addr → Value → Option Addr → TS := fun a cls d => tSeq (tIfS (tOr (tNot (tB (tCB (rIsP K (cIB K) a cls d) (tCons (tVar 7) (tCons (tC (.ref (cFE K))) tNil)))))
  (tNot (tB (tCB (rIsP K (cIB K) a cls d) (tCons (tVar 7) (tCons (tC (.ty "ValueError")) tNil)))))) (tRet (tC .non)) tNext) (tRet (tTup (tCons (tC .non) (tCons (tPlcErr (cIB K) a cls d (tVar 7)) tNil))))
abbrev sp5 (R : V → V → V → V → V → Hp → VK → Prop) : Sp := fun vs H Q _ => ∃ a b c d e, vs = [a, b, c, d, e] ∧ R a b c d e H Q
abbrev ALLS : Str := "-./0123456789ABCDEFGHIJKLMNOPQRSTUVWXYZ_abcdefghijklmnopqrstuvwxyz~"
def DrA (K : PySem.W.Frag) (x y : V) (H : Hp) (R : Addr → (Hp → Prop) → Prop) : Prop := ∃ (st sc : Addr) (ns : List Int), x = .ref st ∧ y = .ref sc ∧ Dr K st sc ns H ∧ R st fun H' => Kp st H H' ∧ Dr K st sc ns H'
def sp_law_all (K : PySem.W.Frag) : Sp := fun vs H Q _ => vs = [] ∧ Q (.str ALLS) H
def sp_law_count (K : PySem.W.Frag) : Sp := sp3 fun x y z H Q => ∃ (st sc : Addr) (ns : List Int) (l : Int), x = .ref st ∧ y = .ref sc ∧ z = .int l ∧ 0 ≤ l ∧ l ≤ 1 ∧ Dr K st sc ns H ∧ ∀ (v : Int) (H' : Hp), l ≤ v → v < 4294967296 → Kp st H H' → Dr K st sc ns H' → Q (.int v) H'
def sp_law_name (K : PySem.W.Frag) : Sp := sp2 fun x y H Q => ∃ (st sc : Addr) (ns : List Int), x = .ref st ∧ y = .ref sc ∧ Dr K st sc ns H ∧ ∀ (z : Str) (H' : Hp), OkN z → Kp st H H' → Dr K st sc ns H' → Q (.str z) H'
def sp_law_vector (K : PySem.W.Frag) : Sp := sp2 fun x y H Q => ∃ (st sc : Addr) (ns : List Int), x = .ref st ∧ y = .ref sc ∧ Dr K st sc ns H ∧ ∀ (q : Addr) (v : Vc) (H' : Hp), Kp st H H' → Dr K st sc ns H' → Vec K H' q v → OkV v → Q (.ref q) H'
def sp_law_block (K : PySem.W.Frag) : Sp := sp1 fun x H Q => ∃ (a : Addr) (xs : List Int), x = .ref a ∧ LstI H a xs ∧ 1 ≤ xs.length ∧ xs.length ≤ 4 ∧ ∀ H', Same H H' → Q (.int (bnum xs)) H'
def sp_law_row (K : PySem.W.Frag) : Sp := sp3 fun x y z H Q => ∃ (st sc : Addr) (ns : List Int) (n : Nat), x = .ref st ∧ y = .ref sc ∧ z = .int (n : Nat) ∧ n ≤ 100 ∧ Dr K st sc ns H ∧ ∀ (q : Addr) (xs : List Int) (H' : Hp), H q = none → LstI H' q xs → isB xs → xs.length = n → Kp st H H' → Dr K st sc ns H' → Q (.ref q) H'
def sp_law_entry (K : PySem.W.Frag) : Sp := sp2 fun x y H Q => ∃ (st sc : Addr) (ns : List Int), x = .ref st ∧ y = .ref sc ∧ Dr K st sc ns H ∧ ∀ (q : Addr) (e : En) (n : Int) (cs : List (List Int)) (H' : Hp), Kp st H H' → Dr K st sc ns H' → OkE e n cs → FlN K H' q e n → Q (.ref q) H'
def sp_law_four (K : PySem.W.Frag) : Sp := sp1 fun x H Q => ∃ n : Int, x = .int n ∧ 0 ≤ n ∧ n < 4294967296 ∧ ∀ p H', H p = none → Same H H' → LstI H' p (wd n 4) → Q (.ref p) H'
def sp_law_name_written (K : PySem.W.Frag) : Sp := sp1 fun x H Q => ∃ z : Str, x = .str z ∧ z.length ≤ 1000 ∧ ∀ p H', H p = none → Same H H' → LstI H' p (nmB z) → Q (.ref p) H'
def sp_law_vector_written (K : PySem.W.Frag) : Sp := sp1 fun x H Q => ∃ (a : Addr) (v : Vc), x = .ref a ∧ Vec K H a v ∧ OkV v ∧ ∀ p H', H p = none → Same H H' → LstI H' p (vcB v) → Q (.ref p) H'
def sp_law_block_written (K : PySem.W.Frag) : Sp := sp1 fun x H Q => ∃ c : List Int, x = .int (bnum c) ∧ Piece c ∧ ∀ p H', H p = none → Same H H' → LstI H' p ((c.length : Int) :: c) → Q (.ref p) H'
def sp_law_entry_written (K : PySem.W.Frag) : Sp := sp2 fun x y H Q => ∃ (a : Addr) (e : En) (n : Int) (cs : List (List Int)), x = .ref a ∧ y = .int n ∧ Fl K H a e ∧ OkE e n cs ∧ ∀ p H', H p = none → Same H H' → LstI H' p (enB e n) → Q (.ref p) H'
def sp_law_made (K : PySem.W.Frag) : Sp := sp1 fun x H Q => ∃ (a : Addr) (e : En), x = .ref a ∧ Fl K H a e ∧ ∀ p H', Same H H' → Ent K H' false p e → Q (.ref p) H'
def sp_law_fields (K : PySem.W.Frag) : Sp := sp1 fun x H Q => ∃ (a : Addr) (q : Bool) (e : En), x = .ref a ∧ Ent K H q a e ∧ ∀ p H', Same H H' → Fl K H' p e → Q (.ref p) H'
def sp_law_take (K : PySem.W.Frag) : Sp := sp4 fun x y z w H Q => ∃ l h : Int, z = .int l ∧ w = .int h ∧ spL x y H Q (pByte l h) fun o r _ => ∃ i : Int, r = .int i ∧ (∀ v, o = some v → i = v) ∧ (o = none → i = l)
def sp_law_number_read (K : PySem.W.Frag) : Sp := sp3 fun x y z H Q => ∃ l : Int, z = .int l ∧ 0 ≤ l ∧ l ≤ 1 ∧ spL x y H Q (pNum l) fun o r _ => ∃ i : Int, r = .int i ∧ ∀ v, o = some v → i = v
def sp_law_name_read (K : PySem.W.Frag) : Sp := sp2 fun x y H Q => spL x y H Q pName fun o r _ => ∃ z : Str, r = .str z ∧ ∀ v, o = some v → z = v
def sp_law_vector_read (K : PySem.W.Frag) : Sp := sp2 fun x y H Q => spL x y H Q pVec fun o r H' => ∃ q, r = .ref q ∧ ∀ v, o = some v → Vec K H' q v
def sp_law_row_read (K : PySem.W.Frag) : Sp := sp3 fun x y z H Q => ∃ l : Int, z = .int l ∧ 1 ≤ l ∧ l ≤ 4 ∧ spL x y H Q (pRow l) fun o r H' => ∃ q xs, r = .ref q ∧ LstI H' q xs ∧ 1 ≤ xs.length ∧ xs.length ≤ 4 ∧ ∀ v, o = some v → xs = v
def sp_law_entry_read (K : PySem.W.Frag) : Sp := sp2 fun x y H Q => spL x y H Q pEntry fun o r H' => ∃ q, r = .ref q ∧ ∀ v, o = some v → FlN K H' q v.1 v.2.1
/-- what is told twice alike is not told apart -/
theorem tl_ne {K : PySem.W.Frag} {H : Hp} {Q : VK} {a b : Addr} {R : Except Nat (PyData × Nat)} (h1 : Tl K H a R) (h2 : Tl K H b R) (hp : ∀ δ q, R = .ok (δ, q) → δ.plain = true ∧ δ.depth ≤ 20) (q : Q (.bl false) H) : rNeP K (.ref a) (.ref b) H Q := by
  cases R with
  | error n =>
    refine e_nePV (d := .tuple [.none, .int n]) (e := .tuple [.none, .int n]) (.tup h1 (.cons .non (.cons (.int _) .nil))) (.tup h2 (.cons .non (.cons (.int _) .nil))) (by simp [PyData.plain, PyData.plainAll]) (by simp [PyData.plain, PyData.plainAll]) (by simp [PyData.depth, PyData.depthAll]) (b := true) (by simp [PyData.eqv, PyData.eqvAll]) q
  | ok x =>
    obtain ⟨δ, e⟩ := x
    obtain ⟨v, t1, d1⟩ := h1
    obtain ⟨w, t2, d2⟩ := h2
    obtain ⟨p1, p2⟩ := hp δ e rfl
    refine e_nePV (d := .tuple [δ, .int e]) (e := .tuple [δ, .int e]) (.tup t1 (.cons d1 (.cons (.int _) .nil))) (.tup t2 (.cons d2 (.cons (.int _) .nil))) (by simp [PyData.plain, PyData.plainAll, p1]) (by simp [PyData.plain, PyData.plainAll, p1]) (by simp only [PyData.depth, PyData.depthAll]; omega) (b := true) (eqv_self _ (by simp [PyData.plain, PyData.plainAll, p1])) q
theorem mapP_ok {α β : Type} {g : α → β} {r : Except Nat (α × Nat)} {y : β} {q : Nat} (h : mapP g r = .ok (y, q)) : ∃ x, y = g x := by
  cases r with
  | error n => cases h
  | ok x => obtain ⟨x, r⟩ := x; cases h; exact ⟨x, rfl⟩
theorem outD_pl {kd lo hi : Int} {d : List Int} {p q : Nat} {δ : PyData} (h : outD kd lo hi d p = .ok (δ, q)) : δ.plain = true ∧ δ.depth ≤ 20 := by
  unfold outD at h
  split at h
  · obtain ⟨x, rfl⟩ := mapP_ok h; exact ⟨by simp [PyData.plain], by simp [PyData.depth]⟩
  split at h
  · obtain ⟨x, rfl⟩ := mapP_ok h; exact ⟨by simp [PyData.plain], by simp [PyData.depth]⟩
  split at h
  · obtain ⟨x, rfl⟩ := mapP_ok h
    refine ⟨by simp [PyData.plain, dv_plain], ?_⟩
    have := dv_depth x
    show PyData.depthAll (Dv x) + 1 ≤ 20
    omega
  split at h
  · obtain ⟨x, rfl⟩ := mapP_ok h
    have := fnD_depth x.1 x.2.1
    exact ⟨fnD_plain _ _, by omega⟩
  split at h
  · obtain ⟨x, rfl⟩ := mapP_ok h; exact ⟨by simp [PyData.plain], by simp [PyData.depth]⟩
  split at h
  · obtain ⟨x, rfl⟩ := mapP_ok h; exact ⟨by simp [PyData.plain], by simp [PyData.depth]⟩
  · obtain ⟨x, rfl⟩ := mapP_ok h; exact ⟨by simp [PyData.plain], by simp [PyData.depth]⟩
/-! ### letters -/
inductive Lt where
  | hello (d : Int)
  | ask (n : Int)
  | ents (b u : Int) (es : List ET2)
  | req (z : Str) (i : Int) (c : List Int)
  | block (c w : List Int)
  | refd (c : List Int)
def rwB (c : List Int) : List Int := (c.length : Int) :: c
def esB (es : List ET2) : List Int := es.flatMap fun x => enB x.1 x.2.1
def Lt.B : Lt → List Int
  | .hello d => [1, d]
  | .ask n => 2 :: wd n 4
  | .ents b u es => 3 :: (wd b 4 ++ (wd u 4 ++ ([(es.length : Int) / 256, (es.length : Int) % 256] ++ esB es)))
  | .req z i c => 4 :: (nmB z ++ ([i] ++ rwB c))
  | .block c w => 5 :: (rwB c ++ rwB w)
  | .refd c => 6 :: rwB c
def Lt.Ok : Lt → Prop
  | .hello d => 1 ≤ d ∧ d ≤ 9
  | .ask n => 0 ≤ n ∧ n < 4294967296
  | .ents b u es => (0 ≤ b ∧ b < 4294967296) ∧ (0 ≤ u ∧ u < 4294967296) ∧ es.length < 65536 ∧ ∀ x ∈ es, OkE x.1 x.2.1 x.2.2
  | .req z i c => OkN z ∧ (0 ≤ i ∧ i ≤ 254) ∧ Piece c
  | .block c w => Piece c ∧ Piece w
  | .refd c => Piece c
/-- a letter as a tuple; what a pair of its entries is, is open -/
def LtH (K : PySem.W.Frag) (PE : Addr → ET2 → Prop) (H : Hp) (q : Addr) : Lt → Prop
  | .hello d => SqT K H q [.str "hello", .int d]
  | .ask n => SqT K H q [.str "ask", .int n]
  | .ents b u es => ∃ (pr : Addr) (ps : List Addr), SqT K H q [.str "entries", .int b, .int u, .ref pr] ∧ SqT K H pr (ps.map V.ref) ∧ Paired PE ps es
  | .req z i c => SqT K H q [.str "request", .str z, .int i, .int (bnum c)]
  | .block c w => ∃ dt : Addr, SqT K H q [.str "block", .int (bnum c), .ref dt] ∧ SqT K H dt (w.map V.int)
  | .refd c => SqT K H q [.str "refused", .int (bnum c)]
def ENp (K : PySem.W.Frag) (H : Hp) (p : Addr) (x : ET2) : Prop := ∃ ea, SqT K H p [.ref ea, .int x.2.1] ∧ Ent K H false ea x.1
def ENa (K : PySem.W.Frag) (H : Hp) (a p : Addr) (x : ET2) : Prop := ∃ ea, SqT K H p [.ref ea, .int x.2.1] ∧ Ent K H false ea x.1 ∧ ea ≠ a
def FNp (K : PySem.W.Frag) (H : Hp) (p : Addr) (x : ET2) : Prop := FlN K H p x.1 x.2.1
abbrev RL (K : PySem.W.Frag) (H : Hp) (q : Addr) (t : Lt) : Prop := LtH K (ENp K H) H q t
abbrev RLa (K : PySem.W.Frag) (H : Hp) (a q : Addr) (t : Lt) : Prop := LtH K (ENa K H a) H q t
abbrev PL (K : PySem.W.Frag) (H : Hp) (q : Addr) (t : Lt) : Prop := LtH K (FNp K H) H q t
section
variable {K : PySem.W.Frag} {H H' : Hp} {PE PE' : Addr → ET2 → Prop} {q a : Addr} {t : Lt}
theorem LtH.imp (h : LtH K PE H q t) (hs : ∀ p xs, SqT K H p xs → SqT K H' p xs) (hp : ∀ p x, PE p x → PE' p x) : LtH K PE' H' q t := by
  cases t with
  | hello d => exact hs _ _ h
  | ask n => exact hs _ _ h
  | ents b u es => obtain ⟨pr, ps, h1, h2, h3⟩ := h; exact ⟨pr, ps, hs _ _ h1, hs _ _ h2, paired_imp hp h3⟩
  | req z i c => exact hs _ _ h
  | block c w => obtain ⟨dt, h1, h2⟩ := h; exact ⟨dt, hs _ _ h1, hs _ _ h2⟩
  | refd c => exact hs _ _ h
theorem ENp.same {p : Addr} {x : ET2} (h : ENp K H p x) (s : Same H H') : ENp K H' p x := by obtain ⟨ea, h1, h2⟩ := h; exact ⟨ea, same_tup s h1, h2.same s⟩
theorem ENa.same {p : Addr} {x : ET2} (h : ENa K H a p x) (s : Same H H') : ENa K H' a p x := by obtain ⟨ea, h1, h2, h3⟩ := h; exact ⟨ea, same_tup s h1, h2.same s, h3⟩
theorem LtH.sameR (h : RL K H q t) (s : Same H H') : RL K H' q t := h.imp (fun _ _ => same_tup s) fun _ _ z => z.same s
theorem LtH.sameA (h : RLa K H a q t) (s : Same H H') : RLa K H' a q t := h.imp (fun _ _ => same_tup s) fun _ _ z => z.same s
theorem LtH.sameP (h : PL K H q t) (s : Same H H') : PL K H' q t := h.imp (fun _ _ => same_tup s) fun _ _ z => FlN.same z s
theorem LtH.weak (h : RLa K H a q t) : RL K H q t := h.imp (fun _ _ z => z) fun _ _ z => by obtain ⟨ea, h1, h2, _⟩ := z; exact ⟨ea, h1, h2⟩
theorem LtH.kpP {st sc : Addr} {ns : List Int} (d : Dr K st sc ns H) (k : Kp st H H') (h : PL K H q t) : PL K H' q t := h.imp (fun _ _ z => sqT_kp z d k) fun _ _ z => FlN.kp d k z
/-- a list has changed, or a reader -/
theorem fl_fr {D : Addr} {x : ET2} {p : Addr} (h : FNp K H p x) (f : Fr [D] H H') (n : ∀ b ∈ [D], NT H b) : FNp K H' p x := by
  obtain ⟨fa, h1, v, m, b, g1, g2, g3, g4⟩ := h
  exact ⟨fa, sqT_fr h1 f n, v, m, b, sqT_fr g1 f n, vec_fr g2 f n, sqT_fr g3 f n, sqT_fr g4 f n⟩
theorem LtH.frP {D : Addr} (h : PL K H q t) (f : Fr [D] H H') (n : ∀ b ∈ [D], NT H b) : PL K H' q t := h.imp (fun _ _ z => sqT_fr z f n) fun _ _ z => fl_fr z f n
theorem ent_fr {D ea : Addr} {e : En} (h : Ent K H false ea e) (f : Fr [D] H H') (n : ∀ b ∈ [D], NT H b) (ne : ea ≠ D) : Ent K H' false ea e := by
  obtain ⟨dx, v, m, b, fs, h1, h2, h3, h4, h5⟩ := h
  exact ⟨dx, v, m, b, fs, f _ _ (fun z => ne (List.mem_singleton.mp z)) h1, h2, ⟨vec_fr h3.1 f n, fun z => nomatch z⟩, sqT_fr h4 f n, sqT_fr h5 f n⟩
theorem ENa.fr {p : Addr} {x : ET2} (h : ENa K H a p x) (f : Fr [a] H H') (n : ∀ b ∈ [a], NT H b) : ENa K H' a p x := by
  obtain ⟨ea, h1, h2, h3⟩ := h
  exact ⟨ea, sqT_fr h1 f n, ent_fr h2 f n h3, h3⟩
theorem LtH.frA (h : RLa K H a q t) (f : Fr [a] H H') (n : ∀ b ∈ [a], NT H b) : RLa K H' a q t := h.imp (fun _ _ z => sqT_fr z f n) fun _ _ z => z.fr f n
theorem ENa.frL {D p : Addr} {x : ET2} {l : List V} (h : ENa K H a p x) (f : Fr [D] H H') (e : H D = some (.lst l)) : ENa K H' a p x := by
  have n : ∀ b ∈ [D], NT H b := fun b m => by rw [List.mem_singleton.mp m]; exact nt_lst e
  obtain ⟨ea, h1, h2, h3⟩ := h
  refine ⟨ea, sqT_fr h1 f n, ent_fr h2 f n (fun z => ?_), h3⟩
  obtain ⟨dx, v, m, b, fs, g1, _⟩ := h2
  rw [z, e] at g1; cases g1
theorem LtH.frLA {D : Addr} {l : List V} (h : RLa K H a q t) (f : Fr [D] H H') (e : H D = some (.lst l)) : RLa K H' a q t := h.imp (fun _ _ z => sqT_fr z f fun b m => by rw [List.mem_singleton.mp m]; exact nt_lst e) fun _ _ z => z.frL f e
theorem ENp.frL {D p : Addr} {x : ET2} {l : List V} (h : ENp K H p x) (f : Fr [D] H H') (e : H D = some (.lst l)) : ENp K H' p x := by
  have n : ∀ b ∈ [D], NT H b := fun b m => by rw [List.mem_singleton.mp m]; exact nt_lst e
  obtain ⟨ea, h1, h2⟩ := h
  refine ⟨ea, sqT_fr h1 f n, ent_fr h2 f n (fun z => ?_)⟩
  obtain ⟨dx, v, m, b, fs, g1, _⟩ := h2
  rw [z, e] at g1; cases g1
theorem fr_put {D : Addr} {o : HO} : Fr [D] H (upd H D o) := (Fr.refl _ _).put (List.mem_cons_self ..)
end
/-! ### letters as data -/
def esD (es : List ET2) : List PyData := es.map fun x => fnD x.1 x.2.1
def ltD : Lt → PyData
  | .hello d => .tuple [.str "hello", .int d]
  | .ask n => .tuple [.str "ask", .int n]
  | .ents b u es => .tuple [.str "entries", .int b, .int u, .tuple (esD es)]
  | .req z i c => .tuple [.str "request", .str z, .int i, .int (bnum c)]
  | .block c w => .tuple [.str "block", .int (bnum c), .tuple (Di w)]
  | .refd c => .tuple [.str "refused", .int (bnum c)]
theorem esD_plain : ∀ es : List ET2, PyData.plainAll (esD es) = true
  | [] => by simp [esD, PyData.plainAll]
  | x :: es => by
    show PyData.plainAll (fnD x.1 x.2.1 :: esD es) = true
    rw [PyData.plainAll, fnD_plain, esD_plain es]; rfl
theorem esD_depth : ∀ es : List ET2, PyData.depthAll (esD es) ≤ 5
  | [] => by show 0 ≤ 5; decide
  | x :: es => by
    have h1 := fnD_depth x.1 x.2.1
    have h2 := esD_depth es
    show max (fnD x.1 x.2.1).depth (PyData.depthAll (esD es)) ≤ 5
    omega
theorem ltD_plain : ∀ t : Lt, (ltD t).plain = true
  | .hello d => by simp [ltD, PyData.plain, PyData.plainAll]
  | .ask n => by simp [ltD, PyData.plain, PyData.plainAll]
  | .ents b u es => by simp [ltD, PyData.plain, PyData.plainAll, esD_plain]
  | .req z i c => by simp [ltD, PyData.plain, PyData.plainAll]
  | .block c w => by simp [ltD, PyData.plain, PyData.plainAll, plain_ints]
  | .refd c => by simp [ltD, PyData.plain, PyData.plainAll]
theorem ltD_depth : ∀ t : Lt, (ltD t).depth ≤ 8
  | .hello d => by simp [ltD, PyData.depth, PyData.depthAll]
  | .ask n => by simp [ltD, PyData.depth, PyData.depthAll]
  | .ents b u es => by have := esD_depth es; simp only [ltD, PyData.depth, PyData.depthAll]; omega
  | .req z i c => by simp [ltD, PyData.depth, PyData.depthAll]
  | .block c w => by have := Vf.depthAll_ints w; simp only [ltD, PyData.depth, PyData.depthAll]; omega
  | .refd c => by simp [ltD, PyData.depth, PyData.depthAll]
theorem es_dp {K : PySem.W.Frag} {H : Hp} : ∀ {ps : List Addr} {es : List ET2}, Paired (FNp K H) ps es → DpAll K H (ps.map V.ref) (esD es)
  | _, _, .nil => .nil
  | _, _, .cons a b => .cons (FlN.dp a) (es_dp b)
theorem LtH.dp {K : PySem.W.Frag} {H : Hp} {q : Addr} {t : Lt} (h : PL K H q t) : Dp K H (.ref q) (ltD t) := by
  cases t with
  | hello d => exact .tup h (.cons (.str _) (.cons (.int _) .nil))
  | ask n => exact .tup h (.cons (.str _) (.cons (.int _) .nil))
  | ents b u es => obtain ⟨pr, ps, h1, h2, h3⟩ := h; exact .tup h1 (.cons (.str _) (.cons (.int _) (.cons (.int _) (.cons (.tup h2 (es_dp h3)) .nil))))
  | req z i c => exact .tup h (.cons (.str _) (.cons (.str _) (.cons (.int _) (.cons (.int _) .nil))))
  | block c w => obtain ⟨dt, h1, h2⟩ := h; exact .tup h1 (.cons (.str _) (.cons (.int _) (.cons (.tup h2 (dpAll_ints _)) .nil)))
  | refd c => exact .tup h (.cons (.str _) (.cons (.int _) .nil))
theorem LtH.hd {K : PySem.W.Frag} {H : Hp} {q : Addr} {t : Lt} (h : RL K H q t) : ∃ (w : Str) (xs : List V), SqT K H q (.str w :: xs) ∧ ((∃ b u es, t = .ents b u es ∧ w = "entries") ∨ (w ≠ "entries" ∧ PL K H q t)) := by
  cases t with
  | hello d => exact ⟨_, _, h, .inr ⟨by decide +kernel, h⟩⟩
  | ask n => exact ⟨_, _, h, .inr ⟨by decide +kernel, h⟩⟩
  | ents b u es => obtain ⟨pr, ps, h1, h2, h3⟩ := h; exact ⟨_, _, h1, .inl ⟨b, u, es, rfl, rfl⟩⟩
  | req z i c => exact ⟨_, _, h, .inr ⟨by decide +kernel, h⟩⟩
  | block c w => obtain ⟨dt, h1, h2⟩ := id h; exact ⟨_, _, h1, .inr ⟨by decide +kernel, h⟩⟩
  | refd c => exact ⟨_, _, h, .inr ⟨by decide +kernel, h⟩⟩
theorem LtH.hdP {K : PySem.W.Frag} {H : Hp} {q : Addr} {t : Lt} (h : PL K H q t) : ∃ (w : Str) (xs : List V), SqT K H q (.str w :: xs) ∧ ((∃ b u es, t = .ents b u es ∧ w = "entries") ∨ (w ≠ "entries" ∧ RL K H q t)) := by
  cases t with
  | hello d => exact ⟨_, _, h, .inr ⟨by decide +kernel, h⟩⟩
  | ask n => exact ⟨_, _, h, .inr ⟨by decide +kernel, h⟩⟩
  | ents b u es => obtain ⟨pr, ps, h1, h2, h3⟩ := h; exact ⟨_, _, h1, .inl ⟨b, u, es, rfl, rfl⟩⟩
  | req z i c => exact ⟨_, _, h, .inr ⟨by decide +kernel, h⟩⟩
  | block c w => obtain ⟨dt, h1, h2⟩ := id h; exact ⟨_, _, h1, .inr ⟨by decide +kernel, h⟩⟩
  | refd c => exact ⟨_, _, h, .inr ⟨by decide +kernel, h⟩⟩
theorem ls_dp {K : PySem.W.Frag} {H : Hp} : ∀ {qs : List Addr} {ts : List Lt}, Paired (PL K H) qs ts → DpAll K H (qs.map V.ref) (ts.map ltD)
  | _, _, .nil => .nil
  | _, _, .cons a b => .cons (LtH.dp a) (ls_dp b)
theorem ls_plain : ∀ ts : List Lt, PyData.plainAll (ts.map ltD) = true
  | [] => by simp [PyData.plainAll]
  | t :: ts => by rw [List.map_cons, PyData.plainAll, ltD_plain, ls_plain ts]; rfl
theorem ls_depth : ∀ ts : List Lt, PyData.depthAll (ts.map ltD) ≤ 8
  | [] => by show 0 ≤ 8; decide
  | t :: ts => by
    have h1 := ltD_depth t
    have h2 := ls_depth ts
    show max (ltD t).depth (PyData.depthAll (ts.map ltD)) ≤ 8
    omega
/-! ### letters, read -/
def pEnts : PR Lt := thenP (pNum 0) fun b => thenP (pNum 0) fun u => thenP (pByte 0 255) fun x => thenP (pByte 0 255) fun y => thenP (pMany pEntry (x * 256 + y).toNat) fun es => retP (.ents b u es)
def pLt1 (k : Int) : PR Lt := if k = 1 then thenP pDev (fun d => retP (.hello d)) else if k = 2 then thenP (pNum 0) (fun n => retP (.ask n)) else if k = 3 then pEnts
  else if k = 4 then thenP pName (fun z => thenP (pByte 0 254) fun i => thenP (pRow 1) fun c => retP (.req z i c)) else if k = 5 then thenP (pRow 1) (fun c => thenP (pRow 1) fun w => retP (.block c w)) else thenP (pRow 1) (fun c => retP (.refd c))
def pLetter : PR Lt := thenP (pByte 1 6) pLt1
def pDec (d : List Int) : Except Nat Lt := match pLetter d 0 with
  | .error n => .error n
  | .ok (t, q) => if q < d.length then .error q else .ok t
def pAllL : Nat → PR (List Lt)
  | 0 => retP []
  | k + 1 => fun d p => if p < d.length then thenP pLetter (fun t => thenP (pAllL k) fun ts => retP (t :: ts)) d p else .ok ([], p)
def pAll (d : List Int) : Except Nat (List Lt × Nat) := pAllL (d.length + 1) d 0
def dcD : Except Nat Lt → PyData
  | .error n => .int (n : Nat)
  | .ok t => ltD t
def daD : Except Nat (List Lt × Nat) → PyData
  | .error n => .int (n : Nat)
  | .ok (ts, _) => .list (ts.map ltD)
/-! ### a reader that is cut off -/
def Mono {α : Type} (f : PR α) : Prop := ∀ (d : List Int) (p : Nat) (v : α) (q : Nat), f d p = .ok (v, q) → p ≤ d.length → p ≤ q ∧ q ≤ d.length ∧ (∀ c, p ≤ c → c < q → f (d.take c) p = .error c) ∧ ∀ c, q ≤ c → f (d.take c) p = .ok (v, q)
theorem Mono.byte (l h : Int) : Mono (pByte l h) := fun d p v q e hp => by
  obtain ⟨h1, h2, rfl, g⟩ := byte_ok e
  have hlt := (List.getElem?_eq_some_iff.mp g).1
  refine ⟨by omega, hlt, fun c c1 c2 => ?_, fun c c1 => ?_⟩
  · have : c = p := by omega
    subst this
    unfold pByte
    rw [List.getElem?_take, if_neg (by omega)]
    show Except.error (d.take c).length = _
    rw [List.length_take, Nat.min_eq_left hp]
  · exact byte_yes (by rw [List.getElem?_take, if_pos (by omega)]; exact g) h1 h2
theorem Mono.ret {α : Type} (x : α) : Mono (retP x) := fun d p v q e hp => by
  cases e
  exact ⟨Nat.le_refl _, hp, fun c c1 c2 => by omega, fun c c1 => rfl⟩
theorem Mono.bind {α β : Type} {f : PR α} {g : α → PR β} (hf : Mono f) (hg : ∀ v, Mono (g v)) : Mono (thenP f g) := fun d p y q e hp => by
  obtain ⟨v, r, e1, e2⟩ := then_of e
  obtain ⟨a1, a2, a3, a4⟩ := hf d p v r e1 hp
  obtain ⟨b1, b2, b3, b4⟩ := hg v d r y q e2 a2
  refine ⟨by omega, b2, fun c c1 c2 => ?_, fun c c1 => (then_ok (a4 c (by omega))).trans (b4 c c1)⟩
  by_cases h : c < r
  · exact then_err (a3 c c1 h)
  · exact (then_ok (a4 c (by omega))).trans (b3 c (by omega) c2)
theorem Mono.chr : Mono pChr := fun d p v q e hp => by
  unfold pChr at e
  split at e
  · cases e
  · rename_i b q2 e2
    split at e
    · rename_i hc
      cases e
      obtain ⟨a1, a2, a3, a4⟩ := Mono.byte 0 255 d p b q e2 hp
      refine ⟨a1, a2, fun c c1 c2 => ?_, fun c c1 => ?_⟩
      · unfold pChr
        rw [a3 c c1 c2]
      · unfold pChr
        rw [a4 c c1]
        exact if_pos hc
    · cases e
theorem Mono.many {α : Type} {f : PR α} (hf : Mono f) : ∀ n, Mono (pMany f n)
  | 0 => Mono.ret _
  | n + 1 => Mono.bind hf fun _ => Mono.bind (Mono.many hf n) fun _ => Mono.ret _
theorem Mono.numL (l : Int) : ∀ k v, Mono (pNumL l k v)
  | 0, v => Mono.ret _
  | k + 1, v => Mono.bind (Mono.byte _ _) fun _ => Mono.numL l k _
theorem Mono.num (l : Int) : Mono (pNum l) := Mono.numL l 4 0
theorem Mono.name : Mono pName := Mono.bind (Mono.byte _ _) fun _ => Mono.bind (Mono.many Mono.chr _) fun _ => Mono.ret _
theorem Mono.vecL : ∀ k dv, Mono (pVecL k dv)
  | 0, dv => Mono.ret _
  | k + 1, dv => Mono.bind (Mono.byte _ _) fun _ => Mono.bind (Mono.num 1) fun _ => Mono.bind (Mono.vecL k _) fun _ => Mono.ret _
theorem Mono.vec : Mono pVec := Mono.bind (Mono.byte _ _) fun _ => Mono.vecL _ _
theorem Mono.row (l : Int) : Mono (pRow l) := Mono.bind (Mono.byte _ _) fun _ => Mono.many (Mono.byte _ _) _
theorem Mono.blkL : ∀ k, Mono (pBlkL k)
  | 0 => Mono.ret _
  | k + 1 => Mono.bind (Mono.row _) fun _ => Mono.bind (Mono.blkL k) fun _ => Mono.ret _
theorem Mono.entry : Mono pEntry :=
  Mono.bind (Mono.num 1) fun _ => Mono.bind Mono.name fun _ => Mono.bind Mono.vec fun _ => Mono.bind (Mono.num 1) fun _ => Mono.bind (Mono.byte _ _) fun _ => Mono.bind (Mono.num 1) fun _ => Mono.bind (Mono.byte _ _) fun _ => Mono.bind (Mono.num 0) fun _ =>
    Mono.bind (Mono.bind (Mono.byte _ _) fun _ => Mono.blkL _) fun _ => Mono.ret _
theorem Mono.lt1 (k : Int) : Mono (pLt1 k) := by
  unfold pLt1
  split
  · exact Mono.bind (Mono.byte _ _) fun _ => Mono.ret _
  split
  · exact Mono.bind (Mono.num 0) fun _ => Mono.ret _
  split
  · exact Mono.bind (Mono.num 0) fun _ => Mono.bind (Mono.num 0) fun _ => Mono.bind (Mono.byte _ _) fun _ => Mono.bind (Mono.byte _ _) fun _ => Mono.bind (Mono.many Mono.entry _) fun _ => Mono.ret _
  split
  · exact Mono.bind Mono.name fun _ => Mono.bind (Mono.byte _ _) fun _ => Mono.bind (Mono.row 1) fun _ => Mono.ret _
  split
  · exact Mono.bind (Mono.row 1) fun _ => Mono.bind (Mono.row 1) fun _ => Mono.ret _
  · exact Mono.bind (Mono.row 1) fun _ => Mono.ret _
theorem Mono.letter : Mono pLetter := Mono.bind (Mono.byte _ _) Mono.lt1
theorem let_adv {d : List Int} {p q : Nat} {t : Lt} (e : pLetter d p = .ok (t, q)) (hp : p ≤ d.length) : p < q ∧ q ≤ d.length := by
  obtain ⟨k, r, e1, e2⟩ := then_of e
  have hb := byte_ok e1
  have hlt := (List.getElem?_eq_some_iff.mp hb.2.2.2).1
  have := Mono.lt1 k d r t q e2 (by omega)
  omega
theorem all_step {k p : Nat} {d : List Int} (h : p < d.length) : pAllL (k + 1) d p = thenP pLetter (fun t => thenP (pAllL k) fun ts => retP (t :: ts)) d p := if_pos h
theorem all_end {k p : Nat} {d : List Int} (h : ¬ p < d.length) : pAllL (k + 1) d p = .ok ([], p) := if_neg h
theorem all_err {k p n : Nat} {d : List Int} {ts : List Lt} {R : Except Nat (List Lt × Nat)} (h : p < d.length) (e : pLetter d p = .error n) (hR : R = mapP (ts ++ ·) (pAllL (k + 1) d p)) : R = .error n := by
  rw [hR, all_step h, then_err e]; rfl
theorem all_ok {k p q : Nat} {d : List Int} {ts : List Lt} {t : Lt} {R : Except Nat (List Lt × Nat)} (h : p < d.length) (e : pLetter d p = .ok (t, q)) (hR : R = mapP (ts ++ ·) (pAllL (k + 1) d p)) : R = mapP ((ts ++ [t]) ++ ·) (pAllL k d q) := by
  rw [hR, all_step h, then_ok e]
  cases g : pAllL k d q with
  | error n => rw [then_err g]; rfl
  | ok y => obtain ⟨ys, r2⟩ := y; rw [then_ok g]; show Except.ok (ts ++ t :: ys, r2) = .ok ((ts ++ [t]) ++ ys, r2); rw [List.append_assoc]; rfl
theorem all_start (d : List Int) : pAll d = mapP (([] : List Lt) ++ ·) (pAllL (d.length + 1) d 0) := by
  unfold pAll
  cases pAllL (d.length + 1) d 0 with
  | error n => rfl
  | ok x => rfl
theorem all_fin {k p : Nat} {d : List Int} {ts : List Lt} {R : Except Nat (List Lt × Nat)} (h : ¬ p < d.length) (hR : R = mapP (ts ++ ·) (pAllL (k + 1) d p)) : R = .ok (ts, p) := by
  rw [hR, all_end h]
  show Except.ok (ts ++ [], p) = _
  rw [List.append_nil]
theorem allL_len : ∀ {k p q : Nat} {d : List Int} {ts : List Lt}, pAllL k d p = .ok (ts, q) → p ≤ d.length → ts.length + p ≤ d.length
  | 0, p, q, d, ts, e, hp => by cases e; show 0 + p ≤ _; omega
  | k + 1, p, q, d, ts, e, hp => by
    by_cases h : p < d.length
    · rw [all_step h] at e
      obtain ⟨t, r, e1, e⟩ := then_of e
      obtain ⟨us, r2, e2, e⟩ := then_of e
      cases e
      have h1 := let_adv e1 hp
      have h2 := allL_len e2 h1.2
      rw [List.length_cons]
      omega
    · rw [all_end h] at e
      cases e
      show 0 + p ≤ _
      omega
theorem all_len {d : List Int} {ts : List Lt} {n : Nat} (e : pAll d = .ok (ts, n)) : ts.length ≤ d.length := allL_len e (Nat.zero_le _)
theorem many_len {α : Type} {f : PR α} {d : List Int} : ∀ {n p q : Nat} {xs : List α}, pMany f n d p = .ok (xs, q) → xs.length = n
  | 0, p, q, xs, e => by cases e; rfl
  | n + 1, p, q, xs, e => by
    obtain ⟨x, r, e1, e⟩ := then_of e
    obtain ⟨ys, r2, e2, e⟩ := then_of e
    cases e
    rw [List.length_cons, many_len e2]
theorem ents_few {d : List Int} {p q : Nat} {t : Lt} (e : pLetter d p = .ok (t, q)) : ∀ b u es, t = .ents b u es → es.length ≤ 1000000 := fun b u es ht => by
  subst ht
  obtain ⟨k, r, e1, e⟩ := then_of e
  unfold pLt1 at e
  split at e
  · obtain ⟨_, _, _, e⟩ := then_of e; cases e
  split at e
  · obtain ⟨_, _, _, e⟩ := then_of e; cases e
  split at e
  · obtain ⟨_, _, _, e⟩ := then_of e
    obtain ⟨_, _, _, e⟩ := then_of e
    obtain ⟨x, _, ex, e⟩ := then_of e
    obtain ⟨y, _, ey, e⟩ := then_of e
    obtain ⟨zs, _, ez, e⟩ := then_of e
    cases e
    have hx := byte_ok ex
    have hy := byte_ok ey
    rw [many_len ez]
    omega
  split at e
  · obtain ⟨_, _, _, e⟩ := then_of e
    obtain ⟨_, _, _, e⟩ := then_of e
    obtain ⟨_, _, _, e⟩ := then_of e
    cases e
  split at e
  · obtain ⟨_, _, _, e⟩ := then_of e
    obtain ⟨_, _, _, e⟩ := then_of e
    cases e
  · obtain ⟨_, _, _, e⟩ := then_of e; cases e
theorem dec_few {d : List Int} {t : Lt} (e : pDec d = .ok t) : ∀ b u es, t = .ents b u es → es.length ≤ 1000000 := by
  unfold pDec at e
  split at e
  · cases e
  · rename_i t2 q e2
    split at e
    · cases e
    · cases e; exact ents_few e2
theorem allL_few : ∀ {k p q : Nat} {d : List Int} {ts : List Lt}, pAllL k d p = .ok (ts, q) → ∀ t ∈ ts, ∀ b u es, t = .ents b u es → es.length ≤ 1000000
  | 0, p, q, d, ts, e, t, ht => by cases e; cases ht
  | k + 1, p, q, d, ts, e, t, ht => by
    by_cases h : p < d.length
    · rw [all_step h] at e
      obtain ⟨t2, r, e1, e⟩ := then_of e
      obtain ⟨us, r2, e2, e⟩ := then_of e
      cases e
      rcases List.mem_cons.mp ht with z | z
      · rw [z]; exact ents_few e1
      · exact allL_few e2 t z
    · rw [all_end h] at e
      cases e; cases ht
theorem e_tWhile {tc : TT} {tb : TS} {D : Ends} {σ : L2.St} {H : Hp} (q : ∃ W : Nat → L2.St → Hp → Prop, (∃ m, W m σ H) ∧ ∀ m σ H, W m σ H → tc σ H fun b H1 => if b = true then ∃ N : L2.St → Hp → Prop, (∀ σ' H', N σ' H' → ∃ m', m' < m ∧ W m' σ' H') ∧ tb { D with nx := N, ct := N, bk := D.nx } σ H1 else D.nx σ H1) : tWhile tc tb D σ H := q
theorem e_catJ {H : Hp} {Q : VK} {a b : Addr} {xs ys : List Int} (h1 : LstI H a xs) (h2 : LstI H b ys) (hn : xs.length + ys.length ≤ 10000000) (q : ∀ p H', H p = none → Same H H' → LstI H' p (xs ++ ys) → Q (.ref p) H') : rCat (.ref a) (.ref b) H Q :=
  ⟨a, b, _, _, rfl, rfl, h1, h2, by rw [List.length_map, List.length_map]; exact Nat.le_trans hn (by decide), fun p hp => q p _ hp (same_new hp) (by unfold LstI; rw [upd_same, List.map_append])⟩
theorem e_extJ {H : Hp} {Q : VK} {l b : Addr} {xs ys : List Int} (h : LstI H l xs) (hb : LstI H b ys) (hn : xs.length + ys.length ≤ 10000000) (q : ∀ H', Fr [l] H H' → LstI H' l (xs ++ ys) → Q .non H') : rExtend (.ref l) [.ref b] H Q :=
  e_ext h hb (by rw [List.length_map, List.length_map]; exact Nat.le_trans hn (by decide)) (q _ ((Fr.refl _ _).put (List.mem_cons_self ..)) (by unfold LstI; rw [upd_same, List.map_append]))
theorem piece_rw {c : List Int} (h : Piece c) : (rwB c).length ≤ 5 := by have := h.h4; unfold rwB; rw [List.length_cons]; omega
def DaW (K : PySem.W.Frag) (l a dl D : Addr) (d : List Int) (H1 : Hp) (m : Nat) (σ : L2.St) (H2 : Hp) : Prop := ∃ (p : Nat) (ts : List Lt) (qs : List Addr) (k : Nat), m = d.length - p ∧ p ≤ d.length ∧ d.length + 1 ≤ k + p ∧ ts.length ≤ p ∧ pAll d = mapP (ts ++ ·) (pAllL k d p) ∧
  σ = [some (.ref l), some (.ref a), some (.ref D)] ∧ Fr [a] H1 H2 ∧ Rd K H2 a dl d p ∧ H2 D = some (.lst (qs.map V.ref)) ∧ Paired (RLa K H2 a) qs ts
theorem esB_take (es : List ET2) (i : Nat) : (esB (es.take i)).length ≤ (esB es).length := by
  have e : esB es = esB (es.take i) ++ esB (es.drop i) := by
    unfold esB
    rw [← List.flatMap_append, List.take_append_drop]
  rw [e, List.length_append]
  omega
theorem esB_step {es : List ET2} {i : Nat} {x : ET2} (h : es[i]? = some x) : esB (es.take (i + 1)) = esB (es.take i) ++ enB x.1 x.2.1 := by
  unfold esB
  rw [List.take_add_one, h, List.flatMap_append]
  show _ ++ (enB x.1 x.2.1 ++ []) = _
  rw [List.append_nil]
theorem isi_tq {K : PySem.W.Frag} {H : Hp} {Q : VK} {p : Addr} {xs : List V} (h : SqT K H p xs) (q : Q (.bl true) H) : rIsi K [.ref p, .ty "tuple"] H Q := by
  refine isi_ty (t := "tuple") ?_ (kit_ty (by decide +kernel)) q
  rcases h with (h | ⟨o, h⟩) | ⟨o, its, n, h1, h2, _⟩
  · exact .base (.tup h)
  · exact .fTuple h
  · exact .kTuple h1 h2
def tsDc (K : PySem.W.Frag) (i : Nat) : Addr → Value → Option Addr → TS := fun a cls d => tRet (tPlcErr (cIB K) a cls d (tVar i))
theorem enB_len3 {e : En} {n : Int} (h1 : e.nm.length ≤ 40) (h2 : e.vc.length ≤ 9) (h3 : e.bl.length ≤ 3) : (enB e n).length ≤ 130 := by
  have h4 := sz4 e.bl fun b _ => bbytes_len b
  have h5 := vc_len e.vc
  have h6 : (nmB e.nm).length = 1 + e.nm.length := by unfold nmB; rw [List.length_cons, List.length_map]; simp [Str.length]; omega
  unfold enB
  simp only [List.length_append, wd_len, List.length_cons, List.length_nil]
  omega
theorem esB_rep (x : ET2) : ∀ n : Nat, (esB (List.replicate n x)).length = n * (enB x.1 x.2.1).length
  | 0 => by rw [Nat.zero_mul]; rfl
  | n + 1 => by
    have ih := esB_rep x n
    unfold esB at ih ⊢
    rw [List.replicate_succ, List.flatMap_cons, List.length_append, ih, Nat.succ_mul, Nat.add_comm]
theorem esB_le : ∀ {es : List ET2}, (∀ x ∈ es, OkE x.1 x.2.1 x.2.2) → (esB es).length ≤ 2000 * es.length
  | [], _ => Nat.le_refl _
  | x :: es, h => by
    have h1 := okE_len (h x (List.mem_cons_self ..))
    have h2 := esB_le (es := es) fun y m => h y (List.mem_cons_of_mem _ m)
    unfold esB at h2 ⊢
    rw [List.flatMap_cons, List.length_append, List.length_cons]
    omega
theorem rep_flat (v : V) : ∀ n : Nat, (List.replicate n [v]).flatten = List.replicate n v
  | 0 => rfl
  | n + 1 => by rw [List.replicate_succ, List.replicate_succ, List.flatten_cons, rep_flat v n]; rfl
theorem paired_rep {α β : Type} {R : α → β → Prop} {a : α} {b : β} (h : R a b) : ∀ n : Nat, Paired R (List.replicate n a) (List.replicate n b)
  | 0 => .nil
  | n + 1 => .cons h (paired_rep h n)
theorem lt_len {t : Lt} (h : t.Ok) : t.B.length ≤ 1000 ∨ ∃ b u es, t = .ents b u es ∧ t.B.length = 11 + (esB es).length := by
  cases t with
  | hello d => exact .inl (by show 2 ≤ 1000; decide)
  | ask n => exact .inl (by show (wd n 4).length + 1 ≤ 1000; rw [wd_len]; decide)
  | ents b u es => exact .inr ⟨b, u, es, rfl, by show ((wd b 4) ++ (wd u 4 ++ ([(es.length : Int) / 256, (es.length : Int) % 256] ++ esB es))).length + 1 = _; simp only [List.length_append, wd_len, List.length_cons, List.length_nil]; omega⟩
  | req z i c =>
    have h1 := h.1.2.1
    have h2 := piece_rw h.2.2
    have h3 : (nmB z).length ≤ 41 := by unfold nmB; rw [List.length_cons, List.length_map, len_tl]; omega
    exact .inl (by show (nmB z ++ ([i] ++ rwB c)).length + 1 ≤ 1000; simp only [List.length_append, List.length_cons, List.length_nil]; omega)
  | block c w =>
    have h1 := piece_rw h.1
    have h2 := piece_rw h.2
    exact .inl (by show (rwB c ++ rwB w).length + 1 ≤ 1000; simp only [List.length_append]; omega)
  | refd c =>
    have h1 := piece_rw (show Piece c from h)
    exact .inl (by show (rwB c).length + 1 ≤ 1000; omega)
/-! ### letters: what is read is what was written, and the other way -/
theorem seg_ents {d : List Int} (hB : isB d) : ∀ {n q r : Nat} {es : List ET2}, pMany pEntry n d q = .ok (es, r) → Seg d q r (esB es) ∧ es.length = n ∧ ∀ x ∈ es, OkE x.1 x.2.1 x.2.2
  | 0, q, r, es, e => by
    cases e
    exact ⟨Seg.nil _ _, rfl, fun c h => by cases h⟩
  | n + 1, q, r, es, e => by
    obtain ⟨x, r1, e1, e⟩ := then_of e
    obtain ⟨xs, r2, e2, e⟩ := then_of e
    cases e
    obtain ⟨s1, h1⟩ := seg_entry hB e1
    obtain ⟨s2, h2, h3⟩ := seg_ents hB e2
    refine ⟨?_, by rw [List.length_cons, h2], fun y hy => ?_⟩
    · have := s1.app s2
      unfold esB at this ⊢
      rw [List.flatMap_cons]
      exact this
    · rcases List.mem_cons.mp hy with z | z
      · rw [z]; exact h1
      · exact h3 y z
theorem seg_row1 {d : List Int} {q r : Nat} {c : List Int} (hB : isB d) (e : pRow 1 d q = .ok (c, r)) : Seg d q r (rwB c) ∧ Piece c := by
  obtain ⟨m, r1, e1, e2⟩ := then_of e
  have hb := byte_ok e1
  obtain ⟨s2, l2, b2⟩ := seg_bytes e2
  have hm : m = (c.length : Int) := by rw [l2]; omega
  refine ⟨?_, ⟨fun x hx => ?_, by omega, by omega⟩⟩
  · have := (seg_byte e1).app s2
    rw [hm] at this
    exact this
  · exact b2 x hx
theorem seg_letter {d : List Int} {q r : Nat} {t : Lt} (hB : isB d) (e : pLetter d q = .ok (t, r)) : Seg d q r t.B ∧ t.Ok := by
  obtain ⟨k, r0, e1, e⟩ := then_of e
  have s1 := seg_byte e1
  have hk := byte_ok e1
  unfold pLt1 at e
  split at e
  · rename_i h
    obtain ⟨v, r2, e2, e⟩ := then_of e
    cases e
    subst h
    have hb := byte_ok e2
    exact ⟨s1.app (seg_byte e2), hb.1, hb.2.1⟩
  split at e
  · rename_i h
    obtain ⟨v, r2, e2, e⟩ := then_of e
    cases e
    subst h
    obtain ⟨s2, a1, a2⟩ := seg_num hB (by decide) (by decide) e2
    exact ⟨s1.app s2, a1, a2⟩
  split at e
  · rename_i h
    obtain ⟨b, r2, e2, e⟩ := then_of e
    obtain ⟨u, r3, e3, e⟩ := then_of e
    obtain ⟨x, r4, e4, e⟩ := then_of e
    obtain ⟨y, r5, e5, e⟩ := then_of e
    obtain ⟨es, r6, e6, e⟩ := then_of e
    cases e
    subst h
    obtain ⟨s2, a1, a2⟩ := seg_num hB (by decide) (by decide) e2
    obtain ⟨s3, b1, b2⟩ := seg_num hB (by decide) (by decide) e3
    have hx := byte_ok e4
    have hy := byte_ok e5
    obtain ⟨s6, l6, o6⟩ := seg_ents hB e6
    refine ⟨?_, ⟨a1, a2⟩, ⟨b1, b2⟩, by omega, o6⟩
    have ex : x = (es.length : Int) / 256 := by omega
    have ey : y = (es.length : Int) % 256 := by omega
    have := s1.app (s2.app (s3.app (((seg_byte e4).app (seg_byte e5)).app s6)))
    rw [ex, ey] at this
    exact this
  split at e
  · rename_i h
    obtain ⟨z, r2, e2, e⟩ := then_of e
    obtain ⟨i, r3, e3, e⟩ := then_of e
    obtain ⟨c, r4, e4, e⟩ := then_of e
    cases e
    subst h
    obtain ⟨s2, a1⟩ := seg_name hB e2
    have hi := byte_ok e3
    obtain ⟨s4, a4⟩ := seg_row1 hB e4
    exact ⟨s1.app (s2.app ((seg_byte e3).app s4)), a1, ⟨hi.1, hi.2.1⟩, a4⟩
  split at e
  · rename_i h
    obtain ⟨c, r2, e2, e⟩ := then_of e
    obtain ⟨w, r3, e3, e⟩ := then_of e
    cases e
    subst h
    obtain ⟨s2, a2⟩ := seg_row1 hB e2
    obtain ⟨s3, a3⟩ := seg_row1 hB e3
    exact ⟨s1.app (s2.app s3), a2, a3⟩
  · rename_i h1 h2 h3 h4 h5
    obtain ⟨c, r2, e2, e⟩ := then_of e
    cases e
    obtain ⟨s2, a2⟩ := seg_row1 hB e2
    have : k = 6 := by omega
    subst this
    exact ⟨s1.app s2, a2⟩
theorem dec_of {d : List Int} {t : Lt} (hB : isB d) (e : pDec d = .ok t) : d = t.B ∧ t.Ok := by
  unfold pDec at e
  split at e
  · cases e
  · rename_i t2 q e2
    split at e
    · cases e
    · rename_i h
      cases e
      have h2 := let_adv e2 (Nat.zero_le _)
      obtain ⟨s, o⟩ := seg_letter hB e2
      have : q = d.length := by omega
      subst this
      exact ⟨s.all, o⟩
theorem ents_at {d : List Int} : ∀ {es : List ET2} {p : Nat}, At d p (esB es) → (∀ x ∈ es, OkE x.1 x.2.1 x.2.2) → pMany pEntry es.length d p = .ok (es, p + (esB es).length)
  | [], p, _, _ => rfl
  | x :: es, p, a, h => by
    have a : At d p (enB x.1 x.2.1 ++ esB es) := by unfold esB at a ⊢; rw [List.flatMap_cons] at a; exact a
    have a1 := At.app a
    have b1 := entry_at a1.1 (h x (List.mem_cons_self ..))
    have b2 := ents_at a1.2 fun y m => h y (List.mem_cons_of_mem _ m)
    have e1 : esB (x :: es) = enB x.1 x.2.1 ++ esB es := by unfold esB; rw [List.flatMap_cons]
    rw [List.length_cons, pMany, then_ok b1, then_ok b2, e1, List.length_append, Nat.add_assoc]
    rfl
theorem let_at {d : List Int} {p : Nat} {t : Lt} (a : At d p t.B) (h : t.Ok) : pLetter d p = .ok (t, p + t.B.length) := by
  unfold pLetter
  cases t with
  | hello v =>
    have b1 := pb_at (l := 1) (h := 6) a (by decide) (by decide)
    have b2 := pb_at (l := 1) (h := 9) a.one.2 h.1 h.2
    rw [then_ok b1]
    exact then_ok b2
  | ask n =>
    have b1 := pb_at (l := 1) (h := 6) a (by decide) (by decide)
    have b2 := num_at (l := 0) a.one.2 (by decide) (by decide) h.1 h.2
    rw [then_ok b1]
    refine (then_ok b2).trans ?_
    show Except.ok (Lt.ask n, p + 1 + 4) = .ok (Lt.ask n, p + ((wd n 4).length + 1))
    rw [wd_len, show p + 1 + 4 = p + (4 + 1) by omega]
  | ents b u es =>
    obtain ⟨o1, o2, o3, o4⟩ := h
    have b1 := pb_at (l := 1) (h := 6) a (by decide) (by decide)
    have a1 := At.app a.one.2
    have a2 := At.app a1.2
    have a3 := At.app a2.2
    have b2 := num_at (l := 0) a1.1 (by decide) (by decide) o1.1 o1.2
    have b3 := num_at (l := 0) a2.1 (by decide) (by decide) o2.1 o2.2
    have b4 := pb_at (l := 0) (h := 255) a3.1 (by omega) (by omega)
    have b5 := pb_at (l := 0) (h := 255) a3.1.one.2 (by omega) (by omega)
    have b6 := ents_at a3.2 o4
    have hn : ((es.length : Int) / 256 * 256 + (es.length : Int) % 256).toNat = es.length := by omega
    rw [wd_len] at b3 b4 b5 b6
    rw [wd_len] at b4 b5 b6
    rw [then_ok b1]
    refine (then_ok b2).trans ((then_ok b3).trans ((then_ok b4).trans ((then_ok b5).trans ?_)))
    rw [hn]
    refine (then_ok b6).trans ?_
    show Except.ok (Lt.ents b u es, _) = .ok (Lt.ents b u es, p + ((wd b 4 ++ (wd u 4 ++ ([(es.length : Int) / 256, (es.length : Int) % 256] ++ esB es))).length + 1))
    simp only [List.length_append, wd_len, List.length_cons, List.length_nil]
    congr 2
    omega
  | req z i c =>
    obtain ⟨o1, o2, o3⟩ := h
    have b1 := pb_at (l := 1) (h := 6) a (by decide) (by decide)
    have a1 := At.app a.one.2
    have a2 := At.app a1.2
    have b2 := name_at a1.1 o1
    have b3 := pb_at (l := 0) (h := 254) a2.1 o2.1 o2.2
    have b4 := row_at (l := 1) a2.2 o3 (by have := o3.h1; omega)
    rw [then_ok b1]
    refine (then_ok b2).trans ((then_ok b3).trans ((then_ok b4).trans ?_))
    show Except.ok (Lt.req z i c, _) = .ok (Lt.req z i c, p + ((nmB z ++ ([i] ++ rwB c)).length + 1))
    unfold rwB
    simp only [List.length_append, List.length_cons, List.length_nil]
    congr 2
    omega
  | block c w =>
    obtain ⟨o1, o2⟩ := h
    have b1 := pb_at (l := 1) (h := 6) a (by decide) (by decide)
    have a1 := At.app a.one.2
    have b2 := row_at (l := 1) a1.1 o1 (by have := o1.h1; omega)
    have b3 := row_at (l := 1) a1.2 o2 (by have := o2.h1; omega)
    rw [then_ok b1]
    refine (then_ok b2).trans ((then_ok b3).trans ?_)
    show Except.ok (Lt.block c w, _) = .ok (Lt.block c w, p + ((rwB c ++ rwB w).length + 1))
    unfold rwB
    simp only [List.length_append, List.length_cons]
    congr 2
    omega
  | refd c =>
    have o1 : Piece c := h
    have b1 := pb_at (l := 1) (h := 6) a (by decide) (by decide)
    have b2 := row_at (l := 1) a.one.2 o1 (by have := o1.h1; omega)
    rw [then_ok b1]
    refine (then_ok b2).trans ?_
    show Except.ok (Lt.refd c, _) = .ok (Lt.refd c, p + ((rwB c).length + 1))
    unfold rwB
    rw [List.length_cons]
    congr 2
    omega
theorem isB_es : ∀ {es : List ET2}, (∀ x ∈ es, OkE x.1 x.2.1 x.2.2) → isB (esB es) := fun {es} h => isB_flat fun x m => isB_en (h x m)
theorem isB_rw {c : List Int} (h : Piece c) : isB (rwB c) := isB_cons (by have := h.h4; omega) h.b
theorem isB_lt {t : Lt} (h : t.Ok) : isB t.B := by
  cases t with
  | hello d => exact isB_cons (by decide) (isB_one (by have := h.1; have := h.2; omega))
  | ask n => exact isB_cons (by decide) (isB_wd _ _)
  | ents b u es =>
    have h3 := h.2.2.1
    exact isB_cons (by decide) (isB_app (isB_wd _ _) (isB_app (isB_wd _ _) (isB_app (isB_cons (by omega) (isB_one (by omega))) (isB_es h.2.2.2))))
  | req z i c => exact isB_cons (by decide) (isB_app (isB_nm h.1) (isB_app (isB_one (by have := h.2.1; omega)) (isB_rw h.2.2)))
  | block c w => exact isB_cons (by decide) (isB_app (isB_rw h.1) (isB_rw h.2))
  | refd c => exact isB_cons (by decide) (isB_rw h)
theorem isi_tb {K : PySem.W.Frag} {H : Hp} {Q : VK} {p : Addr} {xs : List V} (h : SqT K H p xs) (q : Q (.bl false) H) : rIsi K [.ref p, .ty "bool"] H Q := by
  refine isi_ty (t := "tuple") ?_ (kit_ty (by decide +kernel)) q
  rcases h with (h | ⟨o, h⟩) | ⟨o, its, n, h1, h2, _⟩
  · exact .base (.tup h)
  · exact .fTuple h
  · exact .kTuple h1 h2
theorem isi_lb {K : PySem.W.Frag} {H : Hp} {Q : VK} {p : Addr} {xs : List V} (h : H p = some (.lst xs)) (q : Q (.bl false) H) : rIsi K [.ref p, .ty "bool"] H Q := isi_ty (.base (.lst h)) (kit_ty (by decide +kernel)) q
theorem ltD_tup (t : Lt) : ∃ ds, ltD t = .tuple ds := by cases t <;> exact ⟨_, rfl⟩
theorem isi_dc {K : PySem.W.Frag} {H : Hp} {Q : VK} {v : V} {R : Except Nat Lt} (h : Dp K H v (dcD R)) (q : Q (.bl false) H) : rIsi K [v, .ty "bool"] H Q := by
  cases R with
  | error n => cases h; exact isi_ib q
  | ok t =>
    obtain ⟨ds, e⟩ := ltD_tup t
    have h : Dp K H v (ltD t) := h
    rw [e] at h
    cases h with
    | tup h1 _ => exact isi_tb h1 q
def AdR (K : PySem.W.Frag) (H : Hp) (r : V) : Except Nat (List Lt × Nat) → Prop
  | .error n => r = .int (n : Nat)
  | .ok (ts, _) => ∃ q qs, r = .ref q ∧ H q = some (.lst (qs.map V.ref)) ∧ Paired (PL K H) qs ts
theorem AdR.dp {K : PySem.W.Frag} {H : Hp} {r : V} {R : Except Nat (List Lt × Nat)} (h : AdR K H r R) : Dp K H r (daD R) := by
  cases R with
  | error n => have h : r = .int (n : Nat) := h; subst h; exact .int _
  | ok x => obtain ⟨ts, n⟩ := x; obtain ⟨q, qs, rfl, h1, h2⟩ := h; exact .lst (SqL.of h1) (ls_dp h2)
theorem AdR.same {K : PySem.W.Frag} {H H' : Hp} {r : V} {R : Except Nat (List Lt × Nat)} (h : AdR K H r R) (s : Same H H') : AdR K H' r R := by
  cases R with
  | error n => exact h
  | ok x => obtain ⟨ts, n⟩ := x; obtain ⟨q, qs, rfl, h1, h2⟩ := h; exact ⟨q, qs, rfl, s _ _ h1, paired_imp (fun _ _ z => LtH.sameP z s) h2⟩
theorem isi_ad {K : PySem.W.Frag} {H : Hp} {Q : VK} {v : V} {R : Except Nat (List Lt × Nat)} (h : AdR K H v R) (q : Q (.bl false) H) : rIsi K [v, .ty "bool"] H Q := by
  cases R with
  | error n => have h : v = .int (n : Nat) := h; subst h; exact isi_ib q
  | ok x => obtain ⟨ts, n⟩ := x; obtain ⟨q', qs, rfl, h1, h2⟩ := h; exact isi_lb h1 q
theorem dcD_pl (R : Except Nat Lt) : (dcD R).plain = true ∧ (dcD R).depth ≤ 20 := by
  cases R with
  | error n => exact ⟨by simp [dcD, PyData.plain], by simp [dcD, PyData.depth]⟩
  | ok t => exact ⟨ltD_plain t, Nat.le_trans (ltD_depth t) (by decide)⟩
theorem daD_pl (R : Except Nat (List Lt × Nat)) : (daD R).plain = true ∧ (daD R).depth ≤ 20 := by
  cases R with
  | error n => exact ⟨by simp [daD, PyData.plain], by simp [daD, PyData.depth]⟩
  | ok x =>
    obtain ⟨ts, n⟩ := x
    refine ⟨by simp [daD, PyData.plain, ls_plain], ?_⟩
    have := ls_depth ts
    show PyData.depthAll (ts.map ltD) + 1 ≤ 20
    omega
theorem isi_tI {K : PySem.W.Frag} {H : Hp} {Q : VK} {p : Addr} {xs : List V} (h : SqT K H p xs) (q : Q (.bl false) H) : rIsi K [.ref p, .ty "int"] H Q := by
  refine isi_ty (t := "tuple") ?_ (kit_ty (by decide +kernel)) q
  rcases h with (h | ⟨o, h⟩) | ⟨o, its, n, h1, h2, _⟩
  · exact .base (.tup h)
  · exact .fTuple h
  · exact .kTuple h1 h2
/-! ### promises -/
def sp_encode (K : PySem.W.Frag) : Sp := sp1 fun x H Q => ∃ (q : Addr) (t : Lt), x = .ref q ∧ RL K H q t ∧ t.Ok ∧ t.B.length ≤ 1000000 ∧ ∀ p H', H p = none → Same H H' → LstI H' p t.B → Q (.ref p) H'
def sp_entries_bytes (K : PySem.W.Frag) : Sp := sp1 fun x H Q => ∃ (q : Addr) (b u : Int) (es : List ET2), x = .ref q ∧ RL K H q (.ents b u es) ∧ (Lt.ents b u es).Ok ∧ (Lt.ents b u es).B.length ≤ 1000000 ∧ ∀ p H', H p = none → Same H H' → LstI H' p (Lt.ents b u es).B → Q (.ref p) H'
def sp_next_letter (K : PySem.W.Frag) : Sp := sp1X fun x H Q E => spP K x H Q E pLetter fun t r H' => ∃ q, r = .ref q ∧ ∀ a, x = .ref a → RLa K H' a q t
def sp_next_entries (K : PySem.W.Frag) : Sp := sp1X fun x H Q E => spP K x H Q E pEnts fun t r H' => ∃ q, r = .ref q ∧ ∀ a, x = .ref a → RLa K H' a q t
def sp_decode (K : PySem.W.Frag) : Sp := sp1X fun x H Q E => ∃ (l : Addr) (d : List Int), x = .ref l ∧ LstI H l d ∧ (∀ t, pDec d = .ok t → ∀ q H', Same H H' → RL K H' q t → Q (.ref q) H') ∧ (∀ n, pDec d = .error n → ∀ H', Same H H' → InvB K n H' E)
def sp_decode_all (K : PySem.W.Frag) : Sp := sp1X fun x H Q E => ∃ (l : Addr) (d : List Int), x = .ref l ∧ LstI H l d ∧ d.length ≤ 1000000 ∧ (∀ ts n, pAll d = .ok (ts, n) → ∀ q qs H', Same H H' → H' q = some (.lst (qs.map V.ref)) → Paired (RL K H') qs ts → Q (.ref q) H') ∧ (∀ n, pAll d = .error n → ∀ H', Same H H' → InvB K n H' E)
def sp_law_letter (K : PySem.W.Frag) : Sp := sp2 fun x y H Q => ∃ (st sc : Addr) (ns : List Int), x = .ref st ∧ y = .ref sc ∧ Dr K st sc ns H ∧ ∀ (q : Addr) (t : Lt) (H' : Hp), Kp st H H' → Dr K st sc ns H' → t.Ok → t.B.length ≤ 40000 → PL K H' q t → Q (.ref q) H'
def sp_law_letter_written (K : PySem.W.Frag) : Sp := sp1 fun x H Q => ∃ (q : Addr) (t : Lt), x = .ref q ∧ PL K H q t ∧ t.Ok ∧ t.B.length ≤ 1000000 ∧ ∀ p H', H p = none → Same H H' → LstI H' p t.B → Q (.ref p) H'
def sp_law_real (K : PySem.W.Frag) : Sp := sp1 fun x H Q => ∃ (q : Addr) (t : Lt), x = .ref q ∧ PL K H q t ∧ t.Ok ∧ ∀ p H', Same H H' → RL K H' p t → Q (.ref p) H'
def sp_law_plain (K : PySem.W.Frag) : Sp := sp1 fun x H Q => ∃ (q : Addr) (t : Lt), x = .ref q ∧ RL K H q t ∧ (∀ b u es, t = .ents b u es → es.length ≤ 1000000) ∧ ∀ p H', Same H H' → PL K H' p t → Q (.ref p) H'
def sp_law_decoded (K : PySem.W.Frag) : Sp := sp1 fun x H Q => ∃ (l : Addr) (d : List Int), x = .ref l ∧ LstI H l d ∧ ∀ r H', Same H H' → Dp K H' r (dcD (pDec d)) → Q r H'
def sp_law_all_decoded (K : PySem.W.Frag) : Sp := sp1 fun x H Q => ∃ (l : Addr) (d : List Int), x = .ref l ∧ LstI H l d ∧ d.length ≤ 1000000 ∧ ∀ r H', Same H H' → AdR K H' r (pAll d) → Q r H'
def sp_law_letter_read (K : PySem.W.Frag) : Sp := sp2 fun x y H Q => spL x y H Q pLetter fun o r H' => ∃ q, r = .ref q ∧ ∀ v, o = some v → PL K H' q v
def sp_law_due (K : PySem.W.Frag) : Sp := sp1 fun x H Q => ∃ (l : Addr) (d : List Int), x = .ref l ∧ LstI H l d ∧ isB d ∧ ∀ r H', Same H H' → Dp K H' r (dcD (pDec d)) → Q r H'
def sp_law_all_due (K : PySem.W.Frag) : Sp := sp1 fun x H Q => ∃ (l : Addr) (d : List Int), x = .ref l ∧ LstI H l d ∧ isB d ∧ d.length ≤ 1000000 ∧ ∀ r H', Same H H' → Dp K H' r (daD (pAll d)) → Q r H'
def sp_law_changed (K : PySem.W.Frag) : Sp := sp3 fun x y z H Q => ∃ (st sc a : Addr) (ns w : List Int), x = .ref st ∧ y = .ref sc ∧ z = .ref a ∧ LstI H a w ∧ a ≠ st ∧ isB w ∧ w.length ≤ 300000 ∧ Dr K st sc ns H ∧ ∀ (q : Addr) (w' : List Int) (H' : Hp), Kp st H H' → Dr K st sc ns H' → LstI H' q w' → q ≠ st → isB w' → w'.length ≤ w.length + 3 → Q (.ref q) H'
def sp_law (K : PySem.W.Frag) : Sp := sp1 fun x H Q => ∃ (a : Addr) (ns : List Int), x = .ref a ∧ SqL K H a (ns.map V.int) ∧ ns.length ≤ 63 ∧ ∀ H', Q (.bl true) H'
def sp_FolderkinError___init__ (K : PySem.W.Frag) : Sp := fun vs H Q E => ∃ x0 x1, vs = [x0, x1] ∧ True
set_option maxHeartbeats 0
def d_block_number : He.DefD := ⟨("block_number", none), "block_number", "block_number", defArgs s_block_number, defBody s_block_number, defScope s_block_number, [], []⟩
def d_block_size : He.DefD := ⟨("block_size", none), "block_size", "block_size", defArgs s_block_size, defBody s_block_size, defScope s_block_size, [], []⟩
def d_block_bytes : He.DefD := ⟨("block_bytes", none), "block_bytes", "block_bytes", defArgs s_block_bytes, defBody s_block_bytes, defScope s_block_bytes, [], []⟩
def d_Entry___init__ : He.DefD := ⟨("Entry", some "__init__"), "__init__", "Entry.__init__", defArgs s_Entry___init__, defBody s_Entry___init__, defScope s_Entry___init__, [], []⟩
def d_character_of : He.DefD := ⟨("character_of", none), "character_of", "character_of", defArgs s_character_of, defBody s_character_of, defScope s_character_of, [], []⟩
def d_number_bytes : He.DefD := ⟨("number_bytes", none), "number_bytes", "number_bytes", defArgs s_number_bytes, defBody s_number_bytes, defScope s_number_bytes, [], []⟩
def d_name_bytes : He.DefD := ⟨("name_bytes", none), "name_bytes", "name_bytes", defArgs s_name_bytes, defBody s_name_bytes, defScope s_name_bytes, [], []⟩
def d_row_bytes : He.DefD := ⟨("row_bytes", none), "row_bytes", "row_bytes", defArgs s_row_bytes, defBody s_row_bytes, defScope s_row_bytes, [], []⟩
def d_vector_bytes : He.DefD := ⟨("vector_bytes", none), "vector_bytes", "vector_bytes", defArgs s_vector_bytes, defBody s_vector_bytes, defScope s_vector_bytes, [], []⟩
def d_entry_bytes : He.DefD := ⟨("entry_bytes", none), "entry_bytes", "entry_bytes", defArgs s_entry_bytes, defBody s_entry_bytes, defScope s_entry_bytes, [], []⟩
def d_Reader___init__ : He.DefD := ⟨("Reader", some "__init__"), "__init__", "Reader.__init__", defArgs s_Reader___init__, defBody s_Reader___init__, defScope s_Reader___init__, [.int 0], []⟩
def d_Reader_byte : He.DefD := ⟨("Reader", some "byte"), "byte", "Reader.byte", defArgs s_Reader_byte, defBody s_Reader_byte, defScope s_Reader_byte, [.int 0, .int 255], []⟩
def d_Reader_number : He.DefD := ⟨("Reader", some "number"), "number", "Reader.number", defArgs s_Reader_number, defBody s_Reader_number, defScope s_Reader_number, [.int 0], []⟩
def d_Reader_device : He.DefD := ⟨("Reader", some "device"), "device", "Reader.device", defArgs s_Reader_device, defBody s_Reader_device, defScope s_Reader_device, [], []⟩
def d_Reader_name : He.DefD := ⟨("Reader", some "name"), "name", "Reader.name", defArgs s_Reader_name, defBody s_Reader_name, defScope s_Reader_name, [], []⟩
def d_Reader__character : He.DefD := ⟨("Reader", some "_character"), "_character", "Reader._character", defArgs s_Reader__character, defBody s_Reader__character, defScope s_Reader__character, [], []⟩
def d_Reader_vector : He.DefD := ⟨("Reader", some "vector"), "vector", "Reader.vector", defArgs s_Reader_vector, defBody s_Reader_vector, defScope s_Reader_vector, [], []⟩
def d_Reader_row : He.DefD := ⟨("Reader", some "row"), "row", "Reader.row", defArgs s_Reader_row, defBody s_Reader_row, defScope s_Reader_row, [.int 1], []⟩
def d_Reader_block : He.DefD := ⟨("Reader", some "block"), "block", "Reader.block", defArgs s_Reader_block, defBody s_Reader_block, defScope s_Reader_block, [], []⟩
def d_Reader_entry : He.DefD := ⟨("Reader", some "entry"), "entry", "Reader.entry", defArgs s_Reader_entry, defBody s_Reader_entry, defScope s_Reader_entry, [], []⟩
def d_Reader__blocks : He.DefD := ⟨("Reader", some "_blocks"), "_blocks", "Reader._blocks", defArgs s_Reader__blocks, defBody s_Reader__blocks, defScope s_Reader__blocks, [], []⟩
def d_encode : He.DefD := ⟨("encode", none), "encode", "encode", defArgs s_encode, defBody s_encode, defScope s_encode, [], []⟩
def d_entries_bytes : He.DefD := ⟨("_entries_bytes", none), "_entries_bytes", "_entries_bytes", defArgs s_entries_bytes, defBody s_entries_bytes, defScope s_entries_bytes, [], []⟩
def d_decode : He.DefD := ⟨("decode", none), "decode", "decode", defArgs s_decode, defBody s_decode, defScope s_decode, [], []⟩
def d_decode_all : He.DefD := ⟨("decode_all", none), "decode_all", "decode_all", defArgs s_decode_all, defBody s_decode_all, defScope s_decode_all, [], []⟩
def d_next_letter : He.DefD := ⟨("_next_letter", none), "_next_letter", "_next_letter", defArgs s_next_letter, defBody s_next_letter, defScope s_next_letter, [], []⟩
def d_next_entries : He.DefD := ⟨("_next_entries", none), "_next_entries", "_next_entries", defArgs s_next_entries, defBody s_next_entries, defScope s_next_entries, [], []⟩
def d_law_draw : He.DefD := ⟨("_law_draw", none), "_law_draw", "_law_draw", defArgs s_law_draw, defBody s_law_draw, defScope s_law_draw, [], []⟩
def d_law_all : He.DefD := ⟨("_law_all", none), "_law_all", "_law_all", defArgs s_law_all, defBody s_law_all, defScope s_law_all, [], []⟩
def d_law_count : He.DefD := ⟨("_law_count", none), "_law_count", "_law_count", defArgs s_law_count, defBody s_law_count, defScope s_law_count, [], []⟩
def d_law_name : He.DefD := ⟨("_law_name", none), "_law_name", "_law_name", defArgs s_law_name, defBody s_law_name, defScope s_law_name, [], []⟩
def d_law_vector : He.DefD := ⟨("_law_vector", none), "_law_vector", "_law_vector", defArgs s_law_vector, defBody s_law_vector, defScope s_law_vector, [], []⟩
def d_law_block : He.DefD := ⟨("_law_block", none), "_law_block", "_law_block", defArgs s_law_block, defBody s_law_block, defScope s_law_block, [], []⟩
def d_law_row : He.DefD := ⟨("_law_row", none), "_law_row", "_law_row", defArgs s_law_row, defBody s_law_row, defScope s_law_row, [], []⟩
def d_law_entry : He.DefD := ⟨("_law_entry", none), "_law_entry", "_law_entry", defArgs s_law_entry, defBody s_law_entry, defScope s_law_entry, [], []⟩
def d_law_four : He.DefD := ⟨("_law_four", none), "_law_four", "_law_four", defArgs s_law_four, defBody s_law_four, defScope s_law_four, [], []⟩
def d_law_name_written : He.DefD := ⟨("_law_name_written", none), "_law_name_written", "_law_name_written", defArgs s_law_name_written, defBody s_law_name_written, defScope s_law_name_written, [], []⟩
def d_law_vector_written : He.DefD := ⟨("_law_vector_written", none), "_law_vector_written", "_law_vector_written", defArgs s_law_vector_written, defBody s_law_vector_written, defScope s_law_vector_written, [], []⟩
def d_law_block_written : He.DefD := ⟨("_law_block_written", none), "_law_block_written", "_law_block_written", defArgs s_law_block_written, defBody s_law_block_written, defScope s_law_block_written, [], []⟩
def d_law_entry_written : He.DefD := ⟨("_law_entry_written", none), "_law_entry_written", "_law_entry_written", defArgs s_law_entry_written, defBody s_law_entry_written, defScope s_law_entry_written, [], []⟩
def d_law_fields : He.DefD := ⟨("_law_fields", none), "_law_fields", "_law_fields", defArgs s_law_fields, defBody s_law_fields, defScope s_law_fields, [], []⟩
def d_law_take : He.DefD := ⟨("_law_take", none), "_law_take", "_law_take", defArgs s_law_take, defBody s_law_take, defScope s_law_take, [], []⟩
def d_law_number_read : He.DefD := ⟨("_law_number_read", none), "_law_number_read", "_law_number_read", defArgs s_law_number_read, defBody s_law_number_read, defScope s_law_number_read, [], []⟩
def d_law_name_read : He.DefD := ⟨("_law_name_read", none), "_law_name_read", "_law_name_read", defArgs s_law_name_read, defBody s_law_name_read, defScope s_law_name_read, [], []⟩
def d_law_vector_read : He.DefD := ⟨("_law_vector_read", none), "_law_vector_read", "_law_vector_read", defArgs s_law_vector_read, defBody s_law_vector_read, defScope s_law_vector_read, [], []⟩
def d_law_row_read : He.DefD := ⟨("_law_row_read", none), "_law_row_read", "_law_row_read", defArgs s_law_row_read, defBody s_law_row_read, defScope s_law_row_read, [], []⟩
def d_law_entry_read : He.DefD := ⟨("_law_entry_read", none), "_law_entry_read", "_law_entry_read", defArgs s_law_entry_read, defBody s_law_entry_read, defScope s_law_entry_read, [], []⟩
def d_law_letter : He.DefD := ⟨("_law_letter", none), "_law_letter", "_law_letter", defArgs s_law_letter, defBody s_law_letter, defScope s_law_letter, [], []⟩
def d_law_letter_written : He.DefD := ⟨("_law_letter_written", none), "_law_letter_written", "_law_letter_written", defArgs s_law_letter_written, defBody s_law_letter_written, defScope s_law_letter_written, [], []⟩
def d_law_plain : He.DefD := ⟨("_law_plain", none), "_law_plain", "_law_plain", defArgs s_law_plain, defBody s_law_plain, defScope s_law_plain, [], []⟩
def d_law_decoded : He.DefD := ⟨("_law_decoded", none), "_law_decoded", "_law_decoded", defArgs s_law_decoded, defBody s_law_decoded, defScope s_law_decoded, [], []⟩
def d_law_all_decoded : He.DefD := ⟨("_law_all_decoded", none), "_law_all_decoded", "_law_all_decoded", defArgs s_law_all_decoded, defBody s_law_all_decoded, defScope s_law_all_decoded, [], []⟩
def d_law_letter_read : He.DefD := ⟨("_law_letter_read", none), "_law_letter_read", "_law_letter_read", defArgs s_law_letter_read, defBody s_law_letter_read, defScope s_law_letter_read, [], []⟩
def d_law_due : He.DefD := ⟨("_law_due", none), "_law_due", "_law_due", defArgs s_law_due, defBody s_law_due, defScope s_law_due, [], []⟩
def d_law_all_due : He.DefD := ⟨("_law_all_due", none), "_law_all_due", "_law_all_due", defArgs s_law_all_due, defBody s_law_all_due, defScope s_law_all_due, [], []⟩
def d_law_changed : He.DefD := ⟨("_law_changed", none), "_law_changed", "_law_changed", defArgs s_law_changed, defBody s_law_changed, defScope s_law_changed, [], []⟩
def d_law : He.DefD := ⟨("law", none), "law", "law", defArgs s_law, defBody s_law, defScope s_law, [], []⟩
def d_init_FolderkinError : He.DefD := ⟨("FolderkinError", some "__init__"), "__init__", "FolderkinError.__init__", defArgs s_FolderkinError___init__, defBody s_FolderkinError___init__, defScope s_FolderkinError___init__, [], []⟩
def fn : List He.DefD := [d_block_number, d_block_size, d_block_bytes, d_Entry___init__, d_character_of, d_number_bytes, d_name_bytes, d_row_bytes, d_vector_bytes, d_entry_bytes, d_Reader___init__, d_Reader_byte, d_Reader_number, d_Reader_device, d_Reader_name, d_Reader__character, d_Reader_vector, d_Reader_row, d_Reader_block, d_Reader_entry, d_Reader__blocks, d_encode, d_entries_bytes, d_decode, d_decode_all, d_next_letter, d_next_entries, d_law_draw, d_law_all, d_law_count, d_law_name, d_law_vector, d_law_block, d_law_row, d_law_entry, d_law_four, d_law_name_written, d_law_vector_written, d_law_block_written, d_law_entry_written, d_law_fields, d_law_take, d_law_number_read, d_law_name_read, d_law_vector_read, d_law_row_read, d_law_entry_read, d_law_letter, d_law_letter_written, d_law_plain, d_law_decoded, d_law_all_decoded, d_law_letter_read, d_law_due, d_law_all_due, d_law_changed, d_law, d_init_FolderkinError]
def ex : List (PySem.W.Frag → Bool) := [errAll "InvalidBytes" "FolderkinError", clsB "Entry", clsLB "Entry"]
def fa : List He.Fa := [.glo "block_number", .glo "block_size", .glo "block_bytes", .glo "character_of", .glo "number_bytes", .glo "name_bytes", .glo "row_bytes", .glo "vector_bytes", .glo "entry_bytes", .glo "encode", .glo "_entries_bytes", .glo "decode", .glo "decode_all", .glo "_next_letter", .glo "_next_entries", .glo "_law_draw", .glo "_law_all", .glo "_law_count", .glo "_law_name", .glo "_law_vector", .glo "_law_block", .glo "_law_row", .glo "_law_entry", .glo "_law_four", .glo "_law_name_written", .glo "_law_vector_written", .glo "_law_block_written", .glo "_law_entry_written", .glo "_law_fields", .glo "_law_take", .glo "_law_number_read", .glo "_law_name_read", .glo "_law_vector_read", .glo "_law_row_read", .glo "_law_entry_read", .glo "_law_letter", .glo "_law_letter_written", .glo "_law_plain", .glo "_law_decoded", .glo "_law_all_decoded", .glo "_law_letter_read", .glo "_law_due", .glo "_law_all_due", .glo "_law_changed", .glo "law", .glo "InvalidBytes", .glo "FolderkinError", .glo "Entry", .glo "Reader", .free "bool", .free "int", .free "isinstance", .free "len", .free "list", .free "ord", .free "range", .free "reversed", .free "tuple", .int "BLOCK" 4, .str "CHARACTERS" "-./0123456789ABCDEFGHIJKLMNOPQRSTUVWXYZ_abcdefghijklmnopqrstuvwxyz~", .int "MOST_NAME" 40, .int "_ASK" 2, .int "_BLOCK" 5, .int "_ENTRIES" 3, .int "_HELLO" 1, .int "_MOST_BLOCKS" 255, .int "_MOST_DEVICE" 9, .int "_MOST_INDEX" 254, .int "_NUMBER_BYTES" 4, .int "_REFUSED" 6, .int "_REQUEST" 4, .meth "Reader" "byte", .meth "Reader" "number", .meth "Reader" "device", .meth "Reader" "name", .meth "Reader" "_character", .meth "Reader" "vector", .meth "Reader" "row", .meth "Reader" "block", .meth "Reader" "entry", .meth "Reader" "_blocks", .cls "Entry", .noat "Entry" "name", .noat "Entry" "vector", .noat "Entry" "height", .noat "Entry" "maker", .noat "Entry" "deleted", .noat "Entry" "time", .noat "Entry" "blocks", .mkr "Entry", .cls "Reader", .noat "Reader" "_data", .noat "Reader" "at", .mkr "Reader"]
abbrev R : PySem.W.OpenRow := PySem.W.OpenLaw.row PySem.Challenge.rw_folderkin_k49_whole_any_bytes_as_letters
abbrev hk : PySem.W.Hook := hookX 6 fa fn ex
def ob (s : PySem.W.SharedT) : AlX := obsXG 6 fa fn ex (HandSHeadRun.getT s)
theorem ob_eq (s : PySem.W.SharedT) : ob s = hk.obs s.abs := obsXG_eq (HandSHeadRun.getT_eq s)
theorem run (w : World) : HandSHeadRun.RunEq R (PySem.W.view R.prog [71]) hk ob 12000 [PySem.Str.ofString "FolderkinError", PySem.Str.ofString "InvalidBlock", PySem.Str.ofString "InvalidBytes", PySem.Str.ofString "BLOCK", PySem.Str.ofString "block_number", PySem.Str.ofString "block_size", PySem.Str.ofString "block_bytes", PySem.Str.ofString "Entry", PySem.Str.ofString "CHARACTERS", PySem.Str.ofString "MOST_NAME", PySem.Str.ofString "character_of", PySem.Str.ofString "_MOST_DEVICE", PySem.Str.ofString "_MOST_BLOCKS", PySem.Str.ofString "_NUMBER_BYTES", PySem.Str.ofString "number_bytes", PySem.Str.ofString "name_bytes", PySem.Str.ofString "row_bytes", PySem.Str.ofString "vector_bytes", PySem.Str.ofString "entry_bytes", PySem.Str.ofString "Reader", PySem.Str.ofString "_HELLO", PySem.Str.ofString "_ASK", PySem.Str.ofString "_ENTRIES", PySem.Str.ofString "_REQUEST", PySem.Str.ofString "_BLOCK", PySem.Str.ofString "_REFUSED", PySem.Str.ofString "_MOST_INDEX", PySem.Str.ofString "encode", PySem.Str.ofString "_entries_bytes", PySem.Str.ofString "decode", PySem.Str.ofString "decode_all", PySem.Str.ofString "_next_letter", PySem.Str.ofString "_next_entries", PySem.Str.ofString "_law_draw", PySem.Str.ofString "_law_all", PySem.Str.ofString "_law_count", PySem.Str.ofString "_law_name", PySem.Str.ofString "_law_vector", PySem.Str.ofString "_law_block", PySem.Str.ofString "_law_row", PySem.Str.ofString "_law_entry", PySem.Str.ofString "_law_four", PySem.Str.ofString "_law_name_written", PySem.Str.ofString "_law_vector_written", PySem.Str.ofString "_law_block_written", PySem.Str.ofString "_law_entry_written", PySem.Str.ofString "_law_made", PySem.Str.ofString "_law_fields", PySem.Str.ofString "_law_take", PySem.Str.ofString "_law_number_read", PySem.Str.ofString "_law_name_read", PySem.Str.ofString "_law_vector_read", PySem.Str.ofString "_law_row_read", PySem.Str.ofString "_law_entry_read", PySem.Str.ofString "_law_letter", PySem.Str.ofString "_law_letter_written", PySem.Str.ofString "_law_real", PySem.Str.ofString "_law_plain", PySem.Str.ofString "_law_decoded", PySem.Str.ofString "_law_all_decoded", PySem.Str.ofString "_law_letter_read", PySem.Str.ofString "_law_due", PySem.Str.ofString "_law_all_due", PySem.Str.ofString "_law_changed"] w := by
  intro os
  kernel_rfl
local macro_rules | `(tactic| walk_at "dr") => `(tactic| first
  | assumption
  | exact Dr.same (by assumption) (same_new (by assumption))
  | exact Dr.same (Dr.same (by assumption) (same_new (by assumption))) (same_new (by assumption)))
local macro_rules | `(tactic| walk_at "ar") => `(tactic| first | omega | (simp only [List.length_cons, List.length_nil, List.length_map, List.length_append]; omega) | (simp only [List.length_cons, List.length_nil, List.length_map, List.length_append] at *; omega) | decide | assumption)
local macro_rules | `(tactic| walk_at "sl") => `(tactic| first
  | exact Dr.seq (by assumption)
  | assumption
  | exact SqL.of (by assumption)
  | exact SqL.of upd_same)
local macro_rules | `(tactic| walk_at "slt") => `(tactic| first
  | assumption
  | exact SqT.of (by assumption)
  | exact SqT.of upd_same)
local macro_rules | `(tactic| walk_at "size") => `(tactic| first
  | assumption
  | (refine sz_of ?_; first | decide | omega | (simp only [List.length_cons, List.length_nil, List.length_map, List.length_append] at *; omega)))
local macro_rules | `(tactic| walk_at "seq") => `(tactic| first
  | assumption
  | exact .inl (Dr.seq (by assumption))
  | exact .inl (by assumption)
  | exact .inl (SqL.of (by assumption))
  | exact .inr (by assumption)
  | exact .inr (SqT.of (by assumption)))
local macro_rules | `(tactic| walk_at "cond") => `(tactic| first
  | ((with_reducible show CMul _ _); first | exact .inr ⟨by decide, by decide⟩ | exact .inl ⟨by decide, by decide⟩ | exact .inr ⟨by omega, by omega⟩ | exact .inl ⟨by omega, by omega⟩)
  | ((with_reducible show CDivW _ _); first | exact ⟨by decide, by decide⟩ | exact wide_div (b := 60) (by omega) (by omega) (by decide) (by decide))
  | ((with_reducible show CDiv _ _); first | exact ⟨by decide, by decide⟩ | exact ⟨by omega, by omega⟩)
  | ((with_reducible show CPow _ _); exact ⟨by decide, by decide, by decide⟩)
  | (show (0 : Int) < _; first | decide | omega)
  | (show (0 : Int) ≤ _; first | decide | omega))
local macro_rules | `(tactic| walk_at "st1") => `(tactic| first
  | ((with_reducible show tVar _ _ _ _); refine e_var rfl ?_)
  | ((with_reducible show tC _ _ _ _); refine e_c ?_)
  | ((with_reducible show tOp _ _ _ _ _ _); refine e_op ?_)
  | ((with_reducible show rI0 _ _ _ _ _); refine e_I0 ?_)
  | ((with_reducible show rI _ _ _ _ _ _); refine e_I (by walk_at "cond") ?_)
  | ((with_reducible show rEq (V.int _) (V.int _) _ _); refine e_eqI ?_)
  | ((with_reducible show rNe (V.int _) (V.int _) _ _); refine e_neI ?_)
  | ((with_reducible show rEq (V.str _) (V.str _) _ _); refine e_eqS ?_)
  | ((with_reducible show rNe (V.str _) (V.str _) _ _); refine e_neS ?_)
  | ((with_reducible show rEq (V.bl _) (V.bl _) _ _); refine e_eqB ?_)
  | ((with_reducible show rNe (V.bl _) (V.bl _) _ _); refine e_neB ?_)
  | ((with_reducible show rEq _ _ _ _); refine e_eq rfl ?_)
  | ((with_reducible show rNe _ _ _ _); refine e_ne rfl ?_)
  | ((with_reducible show tTest _ _ _ _); refine e_test ?_)
  | ((with_reducible show tB _ _ _ _); refine e_B ?_)
  | ((with_reducible show ∃ k, V.bl _ = V.bl k ∧ _); refine e_ex ?_)
  | ((with_reducible show ∃ k, V.int _ = V.int k ∧ _); refine e_exI ?_)
  | ((with_reducible show tAnd _ _ _ _ _); refine e_and ?_)
  | ((with_reducible show tOr _ _ _ _ _); refine e_or ?_)
  | ((with_reducible show tNot _ _ _ _); refine e_not ?_)
  | ((with_reducible show tYes _ _ _); refine e_yes ?_))
local macro_rules | `(tactic| walk_at "st2") => `(tactic| first
  | ((with_reducible show tAndV _ _ _ _ _); refine e_andV ?_)
  | ((with_reducible show tOrV _ _ _ _ _); refine e_orV ?_)
  | ((with_reducible show tNotV _ _ _ _); refine e_notV ?_)
  | ((with_reducible show tIf _ _ _ _ _ _); refine e_if ?_)
  | ((with_reducible show tChain _ _ _ _ _ _ _ _); refine e_chain ?_)
  | ((with_reducible show tSeq _ _ _ _ _); refine e_seq ?_)
  | ((with_reducible show tNext _ _ _); refine e_next ?_)
  | ((with_reducible show tBreak _ _ _); refine e_break ?_)
  | ((with_reducible show tCont _ _ _); refine e_cont ?_)
  | ((with_reducible show tDrop _ _ _ _); refine e_drop ?_)
  | ((with_reducible show tRet _ _ _ _); refine e_ret ?_)
  | ((with_reducible show tRetN _ _ _); refine e_retN ?_)
  | ((with_reducible show tIfS _ _ _ _ _ _); refine e_ifS ?_)
  | ((with_reducible show tAsg _ _ _ _ _); refine e_asg ?_)
  | ((with_reducible show gName _ _ _ _ _); refine e_name ?_)
  | ((with_reducible show gSub _ _ _ _ _ _ _); refine e_sub ?_)
  | ((with_reducible show tNil _ _ _); refine e_nil ?_)
  | ((with_reducible show tCons _ _ _ _ _); refine e_cons ?_)
  | ((with_reducible show tCall _ _ _ _ _ _ _); refine e_call ?_)
  | ((with_reducible show tCB _ _ _ _ _); refine e_CB ?_)
  | ((with_reducible show tTup _ _ _ _); refine e_tup ?_)
  | ((with_reducible show tLst _ _ _ _); refine e_lst ?_)
  | ((with_reducible show tSl _ _ _ _ _ _ _); refine e_sl ?_)
  | ((with_reducible show tNoPart _ _ _); refine e_noP ?_)
  | ((with_reducible show tPart _ _ _ _); refine e_part ?_)
  | ((with_reducible show tBM _ _ _ _ _ _ _ _); refine e_bm ?_)
  | ((with_reducible show tFor _ _ _ _ _ _); refine e_for ?_)
  | ((with_reducible show iList _ _ _ _ _); refine e_iList ?_)
  | ((with_reducible show iTup _ _ _ _ _); refine e_iTup ?_)
  | ((with_reducible show iStr _ _ _ _); refine e_iStr ?_)
  | ((with_reducible show iRng1 _ _ _ _); refine e_iRng1 ?_)
  | ((with_reducible show iRng2 _ _ _ _); refine e_iRng2 ?_)
  | ((with_reducible show (∃ i', [V.int _] = [V.int i'] ∧ _) ∨ ∃ k, [V.int _] = [V.bl k] ∧ _); refine Or.inl ⟨_, rfl, ?_⟩)
  | ((with_reducible show ∃ p ys, [V.ref _] = [V.ref p] ∧ (SqL _ _ p ys ∨ SqT _ _ p ys) ∧ _); refine ⟨_, _, rfl, (by walk_at "seq"), ?_⟩)
  | ((with_reducible show tLc _ _ _ _ _ _ _ _); refine e_lc ?_)
  | ((with_reducible show tM0 _ _ _ _ _); refine e_m0 ?_)
  | ((with_reducible show tM1 _ _ _ _ _ _); refine e_m1 ?_)
  | ((with_reducible show ∃ k, V.str _ = V.str k ∧ _); refine e_exS ?_)
  | ((with_reducible show ∃ k, V.ref _ = V.ref k ∧ (∃ xs, SqL _ _ k xs) ∧ _); refine e_exR (by walk_at "sl") ?_)
  | ((with_reducible show ∃ k, V.ref _ = V.ref k ∧ (∃ xs, SqT _ _ k xs) ∧ _); refine e_exRT (by walk_at "slt") ?_)
  | ((with_reducible show ∃ j, [V.int _] = [V.int j] ∧ _ ≤ j ∧ j < _ ∧ _); refine e_rng1 (by omega) (by omega) ?_)
  | ((with_reducible show ∃ i j, [V.int _, V.int _] = [V.int i, V.int j] ∧ _ ∧ _); refine e_rng2 (by omega) ?_)
  | ((with_reducible show ∃ z', [V.str _] = [V.str z'] ∧ z'.length ≤ sizeLine ∧ _); refine ⟨_, rfl, (by walk_at "size"), ?_⟩)
  | ((with_reducible show (∃ a, V.str _ = V.str a) ∧ _); refine ⟨⟨_, rfl⟩, ?_⟩)
  | ((with_reducible show rSlS (V.str _) _ _ _ _); refine e_slS (by walk_at "size") ?_)
  | ((with_reducible show wipe _ _ = wipe _ _ ∧ _); refine ⟨rfl, ?_⟩)
  | ((with_reducible show List.length _ ≤ sizeLine ∧ ∀ p, _); refine ⟨(by walk_at "size"), fun p hp => ?_⟩)
  | ((with_reducible show rIsi _ _ _ _); first | refine isi_bb ?_ | refine isi_ib ?_ | refine isi_bi ?_ | refine isi_ii ?_ | refine isi_tt (by assumption) ?_ | refine isi_ll (by assumption) ?_)
  | ((with_reducible show spDraw _ _ _ _ _); refine ⟨_, _, _, rfl, _, _, _, _, rfl, rfl, rfl, (by walk_at "dr"), (by walk_at "ar"), (by walk_at "ar"), ?_⟩)
  | ((with_reducible show tUn _ _ _ _ _); refine e_un ?_)
  | ((with_reducible show rU _ (V.int _) _ _); refine e_U ?_)
  | ((with_reducible show ∃ i, [V.int _] = [V.int i] ∧ _); refine ⟨_, rfl, ?_⟩)
  | ((with_reducible show gTup _ _ _ _ _ _ _); refine ⟨_, _, rfl, (by walk_at "slt"), rfl, ?_⟩)
  | ((with_reducible show gCons _ _ _ _ _ _); refine ⟨_, _, rfl, ?_⟩)
  | ((with_reducible show gNil _ _ _ _); refine ⟨rfl, ?_⟩)
  | ((with_reducible show tAug _ _ _ _ _ _); refine e_aug rfl ?_)
  | ((with_reducible show if true = true then _ else _); refine i_T ?_)
  | ((with_reducible show if false = true then _ else _); refine i_F ?_))
local macro_rules | `(tactic| walk_at "st") => `(tactic| first | walk_at "st1" | walk_at "st2" | (dsimp only [List.append_nil, List.nil_append, List.cons_append, Bool.not_true, Bool.not_false]))
local macro_rules | `(tactic| walk_at "go") => `(tactic| repeat walk_at "st")
local macro_rules | `(tactic| walk_at "st") => `(tactic| first
  | ((with_reducible show iRevR _ _ _ _); refine e_iRevR ?_)
  | ((with_reducible show tRg1 _ _ _ _); refine e_rg1 ?_)
  | ((with_reducible show tRg2 _ _ _ _ _); refine e_rg2 ?_)
  | ((with_reducible show iEnum _ _ _ _ _); refine e_iEnum ?_)
  | ((with_reducible show iEnumT _ _ _ _ _); refine e_iEnumT ?_)
  | ((with_reducible show iRng3 _ _ _ _); refine e_iRng3 ?_)
  | ((with_reducible show ∃ p ys, [V.ref _] = [V.ref p] ∧ SqL _ _ p ys ∧ _); refine ⟨_, _, rfl, (by walk_at "sl"), ?_⟩)
  | ((with_reducible show ∃ p ys, [V.ref _] = [V.ref p] ∧ SqT _ _ p ys ∧ _); refine ⟨_, _, rfl, (by walk_at "slt"), ?_⟩)
  | ((with_reducible show tyV _ "list" (V.ref _) _ ∧ _); refine ⟨.inl ⟨rfl, _, (by walk_at "sl")⟩, ?_⟩)
  | ((with_reducible show ∃ a b, V.bl _ = V.bl a ∧ V.bl _ = V.bl b ∧ _); refine ⟨_, _, rfl, rfl, ?_⟩)
  | ((with_reducible show ∃ c, V.bl _ = V.bl c ∧ _); refine ⟨_, rfl, ?_⟩)
  | ((with_reducible show if (!true) = true then _ else _); refine i_F ?_)
  | ((with_reducible show if (!false) = true then _ else _); refine i_T ?_))
local macro_rules | `(tactic| walk_at "ent") => `(tactic| first
  | assumption
  | exact Ent.same (by assumption) (by assumption))
local macro_rules | `(tactic| walk_at "st") => `(tactic| first
  | ((with_reducible show tMake _ _ _ _ _ _ _ _); refine e_tMake ?_)
  | ((with_reducible show tFld _ _ _ _ _ _); refine e_tFld ?_)
  | ((with_reducible show sFld _ _ _ _ _ _ _); refine e_sFld ?_)
  | ((with_reducible show tTupP _ _ _ _); refine e_tupP ?_)
  | ((with_reducible show tJs (_ :: _) _ _ _ _); refine e_js ?_)
  | ((with_reducible show tJs [] _ _ _ _); refine e_js0 ?_)
  | ((with_reducible show tFmt _ _ _ _); refine e_fmt ?_)
  | ((with_reducible show tMaxF _ _ _ _ _ _); refine e_maxF ?_)
  | ((with_reducible show ∃ a C dx fs v, V.ref _ = V.ref a ∧ _); first
    | refine f_name (by assumption) (by walk_at "ent") ?_
    | refine f_height (by assumption) (by walk_at "ent") ?_
    | refine f_deleted (by assumption) (by walk_at "ent") ?_
    | refine f_time (by assumption) (by walk_at "ent") ?_
    | refine f_vector (by assumption) (by walk_at "ent") fun v hv => ?_
    | refine f_maker (by assumption) (by walk_at "ent") fun v hv => ?_
    | refine f_blocks (by assumption) (by walk_at "ent") fun v hv => ?_))
local macro_rules | `(tactic| walk_at "rdr") => `(tactic| first
  | assumption
  | exact Rd.same (by assumption) (by assumption))
local macro_rules | `(tactic| walk_at "st") => `(tactic| first
  | ((with_reducible show tMeth _ _ _ _ _ _ _ _ _ _); refine e_tMeth ?_)
  | ((with_reducible show sFldAug _ _ _ _ _ _ _ _); refine e_sFldAug ?_)
  | ((with_reducible show ∃ a C dx fs v, V.ref _ = V.ref a ∧ _); first
    | refine r_data (by assumption) (by assumption) ?_
    | refine r_at (by assumption) (by assumption) ?_)
  | ((with_reducible show ∃ a dx fs, V.ref _ = V.ref a ∧ _); refine r_meth (by walk_at "rdr") (by decide) ?_))
local macro_rules | `(tactic| walk_at "st") => `(tactic| first
  | ((with_reducible show tRaiseErr _ _ _ _ _ _); refine e_raiseErr ?_)
  | ((with_reducible show tCallS _ _ _ _ _ _); refine e_callS ?_)
  | ((with_reducible show tMethXD _ _ _ _ _ _ _ _ _ _); refine e_tMethXD ?_)
  | ((with_reducible show tLcX _ _ _ _ _ _ _ _); refine e_tLcX ?_))
section
variable {P : Program} {w : World} {K : PySem.W.Frag} {mg : Str → Option Value} {base : Heap}
theorem ok_block_number (T : Txt K mg)   {f : Addr} {fd : FuncData} (F : FnP K "block_number" s_block_number f fd) : FnOk P w K mg base CX0 1 f fd ["data"] (sp_block_number K) := by
  refine F.ok sc_block_number (fun vs H Q E h => ?_) (fun cdv A outer s H vs Q E hr h => ?_)
  · obtain ⟨_, rfl, _⟩ := h
    rfl
  · have S := sc_block_number
    refine ⟨_, PSs.nox (pss_cons (ps_set (i := 1) S.nd rfl (by first | exact .inl rfl | exact .inr rfl) pe_int)
    (pss_cons (ps_for PassesOwn.never rfl (pi_list (pv 0)) (pg_name (i := 2) S.nd rfl (by first | exact .inl rfl | exact .inr rfl))
    (pss_one (ps_set (i := 1) S.nd rfl (by first | exact .inl rfl | exact .inr rfl) (pe_op op_add (pe_op op_mul (pv 1) pe_int) (pv 2)))))
    (pss_one (ps_ret (pv 1))))), ?_⟩
    try dsimp only [cxOf, Cx.nox]
    obtain ⟨_, rfl, p, xs, rfl, hS, k⟩ := h
    walk_at "go"
    refine for_ints (ns := xs) (fun pre σ H1 => (∃ v2, σ = [some (.ref p), some (.int (bnum pre)), v2]) ∧ H1 = H) ⟨⟨_, rfl⟩, rfl⟩ (fun pre σ H1 q => by rw [q.2]; exact hS) (fun pre x post σ H1 e q => ?_) (fun σ H1 q => ?_)
    · obtain ⟨⟨v2, rfl⟩, rfl⟩ := q
      walk_at "go"
      refine ⟨⟨some (.int x), ?_⟩, rfl⟩
      have e2 : bnum (pre ++ [x]) = bnum pre * 256 + x := by
        unfold bnum
        rw [List.foldl_append]
        rfl
      rw [e2]
      rfl
    · obtain ⟨⟨v2, rfl⟩, rfl⟩ := q
      walk_at "go"
      exact k
theorem ok_block_size (T : Txt K mg)   {f : Addr} {fd : FuncData} (F : FnP K "block_size" s_block_size f fd) : FnOk P w K mg base CX0 1 f fd ["number"] (sp_block_size K) := by
  refine F.ok sc_block_size (fun vs H Q E h => ?_) (fun cdv A outer s H vs Q E hr h => ?_)
  · obtain ⟨_, rfl, _⟩ := h
    rfl
  · have S := sc_block_size
    refine ⟨_, PSs.nox (pss_cons (ps_for PassesOwn.never rfl (pi_range2 (by rfl) T.f_range (pa_cons pe_int (pa_cons (pe_op op_add (C8.pe_gc (by rfl) T.c_BLOCK) pe_int) pa_nil))) (pg_name (i := 1) S.nd rfl (by first | exact .inl rfl | exact .inr rfl))
    (pss_one (ps_if (pt_cmpR op_eq (pe_op op_shr (pv 0) (pe_op op_mul pe_int (pv 1))) pe_int (nomark _))
      (pss_one (ps_ret (pv 1)))
      pss_nil)))
    (pss_one (ps_ret pe_int))), ?_⟩
    try dsimp only [cxOf, Cx.nox]
    obtain ⟨_, rfl, n, rfl, k⟩ := h
    walk_at "go"
    refine for_rng (fun i σ H1 => (∃ v1, σ = [some (.int n), v1]) ∧ H1 = H ∧ (1 ≤ i → ¬ n / 256 = 1) ∧ (2 ≤ i → ¬ n / 65536 = 1) ∧ (3 ≤ i → ¬ n / 16777216 = 1) ∧ (4 ≤ i → ¬ n / 4294967296 = 1)) ⟨⟨_, rfl⟩, rfl, by omega, by omega, by omega, by omega⟩ (fun i σ H1 hi q => ?_) (fun σ H1 q => ?_)
    · obtain ⟨⟨v1, rfl⟩, rfl, q1, q2, q3, q4⟩ := q
      have hi4 : i < 4 := hi
      walk_at "go"
      match i, hi4 with
      | 0, _ =>
        show if decide (n / 256 = 1) = true then _ else _
        refine i_d (fun h1 => ?_) (fun h1 => ?_)
        · walk_at "go"
          have e : bsize n = 1 := by unfold bsize; rw [if_pos h1]
          rw [e] at k
          exact k
        · walk_at "go"
          exact ⟨⟨_, rfl⟩, rfl, fun _ => h1, by omega, by omega, by omega⟩
      | 1, _ =>
        show if decide (n / 65536 = 1) = true then _ else _
        refine i_d (fun h1 => ?_) (fun h1 => ?_)
        · walk_at "go"
          have e : bsize n = 2 := by unfold bsize; rw [if_neg (q1 (by omega)), if_pos h1]
          rw [e] at k
          exact k
        · walk_at "go"
          exact ⟨⟨_, rfl⟩, rfl, fun _ => q1 (by omega), fun _ => h1, by omega, by omega⟩
      | 2, _ =>
        show if decide (n / 16777216 = 1) = true then _ else _
        refine i_d (fun h1 => ?_) (fun h1 => ?_)
        · walk_at "go"
          have e : bsize n = 3 := by unfold bsize; rw [if_neg (q1 (by omega)), if_neg (q2 (by omega)), if_pos h1]
          rw [e] at k
          exact k
        · walk_at "go"
          exact ⟨⟨_, rfl⟩, rfl, fun _ => q1 (by omega), fun _ => q2 (by omega), fun _ => h1, by omega⟩
      | 3, _ =>
        show if decide (n / 4294967296 = 1) = true then _ else _
        refine i_d (fun h1 => ?_) (fun h1 => ?_)
        · walk_at "go"
          have e : bsize n = 4 := by unfold bsize; rw [if_neg (q1 (by omega)), if_neg (q2 (by omega)), if_neg (q3 (by omega)), if_pos h1]
          rw [e] at k
          exact k
        · walk_at "go"
          exact ⟨⟨_, rfl⟩, rfl, fun _ => q1 (by omega), fun _ => q2 (by omega), fun _ => q3 (by omega), fun _ => h1⟩
    · obtain ⟨⟨v1, rfl⟩, rfl, q1, q2, q3, q4⟩ := q
      walk_at "go"
      have e : bsize n = 0 := by unfold bsize; rw [if_neg (q1 (by decide)), if_neg (q2 (by decide)), if_neg (q3 (by decide)), if_neg (q4 (by decide))]
      rw [e] at k
      exact k
theorem ok_block_bytes (T : Txt K mg)  (c_block_size : Cal P w K mg base 1 "block_size" (sp_block_size K)) {f : Addr} {fd : FuncData} (F : FnP K "block_bytes" s_block_bytes f fd) : FnOk P w K mg base CX0 2 f fd ["number"] (sp_block_bytes K) := by
  refine F.ok sc_block_bytes (fun vs H Q E h => ?_) (fun cdv A outer s H vs Q E hr h => ?_)
  · obtain ⟨_, rfl, _⟩ := h
    rfl
  · have S := sc_block_bytes
    refine ⟨_, PSs.nox (pss_cons (ps_set (i := 1) S.nd rfl (by first | exact .inl rfl | exact .inr rfl) (pe_c c_block_size hr (by decide) (by rfl) (pa_cons (pv 0) pa_nil)))
    (pss_cons (ps_if (pt_cmpR op_eq (pv 1) pe_int (nomark _))
    (pss_one ps_never)
    pss_nil)
    (pss_one (ps_ret (pe_lc (own := [("behind", 2)]) (g := gName 2) (tt := tYes) rfl S.nd (pi_revR (by rfl) T.f_reversed (prg_1 (by rfl) T.f_range (pv 1))) (blkOk_by (N := N_block_bytes) (sc := defScope s_block_bytes) (by decide +kernel)) (fun _ _ _ _ _ => (pg_name (i := 2) S.nd rfl (by first | exact .inl rfl | exact .inr rfl))) (fun _ _ _ _ _ => pts_nil) (fun _ _ _ _ _ => (pe_op op_andM (pe_op op_shr (pv 0) (pe_op op_mul pe_int (pv 2))) pe_int))))))), ?_⟩
    try dsimp only [cxOf, Cx.nox]
    obtain ⟨_, rfl, n, rfl, hn, k⟩ := h
    walk_at "go"
    refine ⟨_, rfl, n, rfl, ?_⟩
    walk_at "go"
    refine i_d (fun h1 => ?_) (fun h1 => ?_)
    · exfalso; omega
    have h4 := (bsize_le n).2
    walk_at "go"
    refine ⟨by omega, by omega, by omega, by omega, ?_⟩
    intro D hD
    refine lc_map_rngC hD (by omega) (fun i => .int ((bbytes n).getD i 0)) (fun i H2 C E hi s2 hC => ?_) (fun H2 s2 e2 => ?_)
    · walk_at "go"
      refine ⟨_, 8, rfl, rfl, ?_⟩
      rw [byte_at hn hi]
      exact hC H2 (Same.refl H2)
    · refine k D H2 hD s2 ?_
      rw [e2, show (bsize n - 0).toNat = (bbytes n).length by rw [bbytes_length hn]; omega, map_getD]
theorem ok_Entry___init__ (T : Txt K mg)   {f : Addr} {fd : FuncData} (F : FunD K "__init__" "Entry.__init__" (defArgs s_Entry___init__) (defBody s_Entry___init__) (defScope s_Entry___init__) [] [] f fd) : FnOk P w K mg base CX0 1 f fd ["self", "name", "vector", "height", "maker", "deleted", "time", "blocks"] (sp_Entry___init__ K) := by
  refine F.ok sc_Entry___init__ (fun vs H Q E h => ?_) (fun cdv A outer s H vs Q E hr h => ?_)
  · obtain ⟨_, _, _, _, _, _, _, _, rfl, _⟩ := h
    rfl
  · have S := sc_Entry___init__
    refine ⟨_, PSs.nox (pss_cons (ps_fld (pv 0) (pv 1) rfl)
    (pss_cons (ps_fld (pv 0) (pv 2) rfl)
    (pss_cons (ps_fld (pv 0) (pv 3) rfl)
    (pss_cons (ps_fld (pv 0) (pv 4) rfl)
    (pss_cons (ps_fld (pv 0) (pv 5) rfl)
    (pss_cons (ps_fld (pv 0) (pv 6) rfl)
    (pss_one (ps_fld (pv 0) (pv 7) rfl)))))))), ?_⟩
    try dsimp only [cxOf, Cx.nox]
    obtain ⟨_, _, _, _, _, _, _, _, rfl, a, dx, rfl, ha, k⟩ := h
    walk_at "go"
    refine ⟨a, _, dx, _, rfl, ha, T.cl_Entry, T.no_Entry_name, lt_put (by decide), ?_⟩
    walk_at "go"
    refine ⟨a, _, dx, _, rfl, upd_same, T.cl_Entry, T.no_Entry_vector, lt_put (Nat.le_trans (len_put (n := 0) (Nat.le_refl 0)) (by decide)), ?_⟩
    walk_at "go"
    refine ⟨a, _, dx, _, rfl, upd_same, T.cl_Entry, T.no_Entry_height, lt_put (Nat.le_trans (len_put (len_put (n := 0) (Nat.le_refl 0))) (by decide)), ?_⟩
    walk_at "go"
    refine ⟨a, _, dx, _, rfl, upd_same, T.cl_Entry, T.no_Entry_maker, lt_put (Nat.le_trans (len_put (len_put (len_put (n := 0) (Nat.le_refl 0)))) (by decide)), ?_⟩
    walk_at "go"
    refine ⟨a, _, dx, _, rfl, upd_same, T.cl_Entry, T.no_Entry_deleted, lt_put (Nat.le_trans (len_put (len_put (len_put (len_put (n := 0) (Nat.le_refl 0))))) (by decide)), ?_⟩
    walk_at "go"
    refine ⟨a, _, dx, _, rfl, upd_same, T.cl_Entry, T.no_Entry_time, lt_put (Nat.le_trans (len_put (len_put (len_put (len_put (len_put (n := 0) (Nat.le_refl 0)))))) (by decide)), ?_⟩
    walk_at "go"
    refine ⟨a, _, dx, _, rfl, upd_same, T.cl_Entry, T.no_Entry_blocks, lt_put (Nat.le_trans (len_put (len_put (len_put (len_put (len_put (len_put (n := 0) (Nat.le_refl 0))))))) (by decide)), ?_⟩
    simp only [upd_upd]
    exact k
theorem ok_character_of (T : Txt K mg)   {f : Addr} {fd : FuncData} (F : FnP K "character_of" s_character_of f fd) : FnOk P w K mg base CX0 1 f fd ["code"] (sp_character_of K) := by
  refine F.ok sc_character_of (fun vs H Q E h => ?_) (fun cdv A outer s H vs Q E hr h => ?_)
  · obtain ⟨_, rfl, _⟩ := h
    rfl
  · have S := sc_character_of
    refine ⟨_, PSs.nox (pss_cons (ps_for PassesOwn.never rfl (pi_str (C8.pe_gc (by rfl) T.c_CHARACTERS)) (pg_name (i := 1) S.nd rfl (by first | exact .inl rfl | exact .inr rfl))
    (pss_one (ps_if (pt_cmpR op_eq (pe_callB call_ord (by rfl) T.f_ord (by first | rfl | decide +kernel) (pa_cons (pv 1) pa_nil)) (pv 0) (nomark _))
      (pss_one (ps_ret (pv 1)))
      pss_nil)))
    (pss_one (ps_ret pe_non))), ?_⟩
    try dsimp only [cxOf, Cx.nox]
    obtain ⟨_, rfl, c, rfl, k, k2⟩ := h
    walk_at "go"
    refine for_str (fun pre σ H1 => (∃ v1, σ = [some (.int (c : Nat)), v1]) ∧ H1 = H ∧ c ∉ pre) ⟨⟨_, rfl⟩, rfl, by simp⟩ (fun pre x post σ H1 e p => ?_) (fun σ H1 p => ?_)
    · obtain ⟨⟨v1, rfl⟩, rfl, hf⟩ := p
      walk_at "go"
      refine ⟨_, rfl, rfl, ?_⟩
      walk_at "go"
      show if decide (((x : Nat) : Int) = c) = true then _ else _
      refine i_d (fun h1 => ?_) (fun h1 => ?_)
      · walk_at "go"
        have e2 : x = c := by omega
        rw [e2]
        exact k (by rw [← e2]; show x ∈ CH; rw [show CH = pre ++ x :: post from e]; simp)
      · walk_at "go"
        refine ⟨⟨_, rfl⟩, rfl, ?_⟩
        rw [List.mem_append, not_or]
        exact ⟨hf, fun m => h1 (by rw [List.mem_singleton.mp m])⟩
    · obtain ⟨⟨v1, rfl⟩, rfl, hf⟩ := p
      walk_at "go"
      exact k2 hf
theorem ok_number_bytes (T : Txt K mg)   {f : Addr} {fd : FuncData} (F : FnP K "number_bytes" s_number_bytes f fd) : FnOk P w K mg base CX0 1 f fd ["number"] (sp_number_bytes K) := by
  refine F.ok sc_number_bytes (fun vs H Q E h => ?_) (fun cdv A outer s H vs Q E hr h => ?_)
  · obtain ⟨_, rfl, _⟩ := h
    rfl
  · have S := sc_number_bytes
    refine ⟨_, PSs.nox (pss_one (ps_ret (pe_lc (own := [("behind", 1)]) (g := gName 1) (tt := tYes) rfl S.nd (pi_revR (by rfl) T.f_reversed (prg_1 (by rfl) T.f_range (C8.pe_gc (by rfl) T.c__NUMBER_BYTES))) (blkOk_by (N := N_number_bytes) (sc := defScope s_number_bytes) (by decide +kernel)) (fun _ _ _ _ _ => (pg_name (i := 1) S.nd rfl (by first | exact .inl rfl | exact .inr rfl))) (fun _ _ _ _ _ => pts_nil) (fun _ _ _ _ _ => (pe_op op_andM (pe_op op_shr (pv 0) (pe_op op_mul pe_int (pv 1))) pe_int))))), ?_⟩
    try dsimp only [cxOf, Cx.nox]
    obtain ⟨_, rfl, n, rfl, k⟩ := h
    walk_at "go"
    refine ⟨by decide, by decide, by decide, by decide, fun D hD => ?_⟩
    refine lc_map_rngC hD (by decide) (fun i => .int (n / 256 ^ (4 - 1 - i) % 256)) (fun i H2 C E hi s2 hC => ?_) (fun H2 s2 e2 => ?_)
    · walk_at "go"
      refine ⟨_, 8, rfl, rfl, ?_⟩
      have e := byte4 (n := n) (i := i) hi
      rw [e]
      exact hC H2 (Same.refl H2)
    · exact k D H2 hD s2 (by unfold LstI; rw [e2, wd_mapV]; rfl)
theorem ok_name_bytes (T : Txt K mg)   {f : Addr} {fd : FuncData} (F : FnP K "name_bytes" s_name_bytes f fd) : FnOk P w K mg base CX0 1 f fd ["name"] (sp_name_bytes K) := by
  refine F.ok sc_name_bytes (fun vs H Q E h => ?_) (fun cdv A outer s H vs Q E hr h => ?_)
  · obtain ⟨_, rfl, _⟩ := h
    rfl
  · have S := sc_name_bytes
    refine ⟨_, PSs.nox (pss_one (ps_ret (pe_op op_cat (pe_lst (pa_cons (pe_callB call_len_str (by rfl) T.f_len (by first | rfl | decide +kernel) (pa_cons (pv 0) pa_nil)) pa_nil)) (pe_lc (own := [("char", 1)]) (g := gName 1) (tt := tYes) rfl S.nd (pi_str (pv 0)) (blkOk_by (N := N_name_bytes) (sc := defScope s_name_bytes) (by decide +kernel)) (fun _ _ _ _ _ => (pg_name (i := 1) S.nd rfl (by first | exact .inl rfl | exact .inr rfl))) (fun _ _ _ _ _ => pts_nil) (fun _ _ _ _ _ => (pe_callB call_ord (by rfl) T.f_ord (by first | rfl | decide +kernel) (pa_cons (pv 1) pa_nil))))))), ?_⟩
    try dsimp only [cxOf, Cx.nox]
    obtain ⟨_, rfl, z, rfl, hl, k⟩ := h
    walk_at "go"
    rename_i p hp
    intro D hD
    have s0 := same_new (o := .lst [.int (z.length : Int)]) hp
    refine lc_str (fun pre H1 => Same (upd H p (.lst [.int (z.length : Int)])) H1 ∧ H1 D = some (.lst (pre.map fun c : Nat => V.int (c : Int))) ∧ pre.length ≤ 1000) ⟨same_new hD, upd_same, Nat.zero_le _⟩ (fun pre c post H1 e q => ?_) (fun H1 q => ?_)
    · obtain ⟨s1, e1, l1⟩ := q
      walk_at "go"
      refine ⟨_, rfl, rfl, ?_⟩
      have l2 : pre.length + 1 ≤ 1000 := by
        have h2 : z.cps.toList.length = z.length := by simp [Str.length]
        rw [e, List.length_append, List.length_cons] at h2
        omega
      refine ⟨_, e1, by rw [List.length_map]; exact Nat.lt_of_le_of_lt l1 (by decide), Same.mut s1 hD, ?_, by rw [List.length_append]; exact l2⟩
      rw [upd_same, List.map_append]
      rfl
    · obtain ⟨s1, e1, l1⟩ := q
      refine e_cat (s1 _ _ upd_same) e1 (by rw [List.length_map]; show 1 + _ ≤ _; omega) fun r hr => ?_
      refine k r _ ((s0.trans s1).free hr) ((s0.trans s1).trans (same_new hr)) ?_
      unfold LstI nmB
      rw [upd_same, List.map_cons, List.map_map]
      rfl
theorem ok_row_bytes (T : Txt K mg)   {f : Addr} {fd : FuncData} (F : FnP K "row_bytes" s_row_bytes f fd) : FnOk P w K mg base CX0 1 f fd ["row"] (sp_row_bytes K) := by
  refine F.ok sc_row_bytes (fun vs H Q E h => ?_) (fun cdv A outer s H vs Q E hr h => ?_)
  · obtain ⟨_, rfl, _⟩ := h
    rfl
  · have S := sc_row_bytes
    refine ⟨_, PSs.nox (pss_one (ps_ret (pe_op op_cat (pe_lst (pa_cons (pe_callB call_len_seq (by rfl) T.f_len (by first | rfl | decide +kernel) (pa_cons (pv 0) pa_nil)) pa_nil)) (pe_callTy call_list_of (by rfl) T.f_list (by first | rfl | decide +kernel) (pa_cons (pv 0) pa_nil))))), ?_⟩
    try dsimp only [cxOf, Cx.nox]
    obtain ⟨_, rfl, a, xs, rfl, ha, hl, k⟩ := h
    walk_at "go"
    rename_i p hp
    have s0 := same_new (o := .lst [.int ((xs.map V.int).length : Nat)]) hp
    refine ⟨a, _, rfl, ha.imp (fun z => s0.seq z) (fun z => same_tup s0 z), fun l hl2 => ?_⟩
    have s1 := same_new (o := .lst (xs.map V.int)) hl2
    refine e_cat (s1 _ _ upd_same) upd_same (by rw [List.length_map]; show 1 + _ ≤ _; omega) fun r hr => ?_
    refine k r _ ((s0.trans s1).free hr) ((s0.trans s1).trans (same_new hr)) ?_
    unfold LstI
    rw [upd_same, List.length_map]
    rfl
theorem ok_vector_bytes (T : Txt K mg)  (c_number_bytes : Cal P w K mg base 1 "number_bytes" (sp_number_bytes K)) {f : Addr} {fd : FuncData} (F : FnP K "vector_bytes" s_vector_bytes f fd) : FnOk P w K mg base CX0 2 f fd ["vector"] (sp_vector_bytes K) := by
  refine F.ok sc_vector_bytes (fun vs H Q E h => ?_) (fun cdv A outer s H vs Q E hr h => ?_)
  · obtain ⟨_, rfl, _⟩ := h
    rfl
  · have S := sc_vector_bytes
    refine ⟨_, PSs.nox (pss_cons (ps_set (i := 1) S.nd rfl (by first | exact .inl rfl | exact .inr rfl) (pe_lst (pa_cons (pe_callB call_len_seq (by rfl) T.f_len (by first | rfl | decide +kernel) (pa_cons (pv 0) pa_nil)) pa_nil)))
    (pss_cons (ps_for PassesOwn.never rfl (pi_tup (pv 0)) (pg_tup rfl (pgs_cons (pg_name (i := 2) S.nd rfl (by first | exact .inl rfl | exact .inr rfl)) (pgs_cons (pg_name (i := 3) S.nd rfl (by first | exact .inl rfl | exact .inr rfl)) pgs_nil)))
    (pss_cons (ps_expr (pe_bm PySem.F.plainAttrs_list PySem.F.slot_list_append PySem.F.type_list_append mt_append (pv 1) (pa_cons (pv 2) pa_nil)))
      (pss_one (ps_expr (pe_bm PySem.F.plainAttrs_list PySem.F.slot_list_extend PySem.F.type_list_extend mt_extend (pv 1) (pa_cons (pe_c c_number_bytes hr (by decide) (by rfl) (pa_cons (pv 3) pa_nil)) pa_nil))))))
    (pss_one (ps_ret (pv 1))))), ?_⟩
    try dsimp only [cxOf, Cx.nox]
    obtain ⟨_, rfl, a, v, rfl, hv, hl, k⟩ := h
    obtain ⟨ps, hS, hP⟩ := hv
    have lp : ps.length = v.length := paired_len hP
    walk_at "go"
    rename_i p hp
    have s0 := same_new (o := .lst [.int ((ps.map V.ref).length : Nat)]) hp
    refine ⟨a, rfl, ⟨_, same_tup s0 hS⟩, ?_⟩
    refine for_vec hS hP (fun pre σ H1 => (∃ v3 v4, σ = [some (.ref a), some (.ref p), v3, v4]) ∧ Same H H1 ∧ LstI H1 p ((v.length : Int) :: pre.flatMap fun c => c.1 :: wd c.2 4) ∧ pre.length ≤ 9) ⟨⟨_, _, rfl⟩, s0, by unfold LstI; rw [upd_same, List.length_map, lp]; rfl, Nat.zero_le _⟩ (fun pre σ H1 q => q.2.1) (fun pre c post t σ H1 e q ht => ?_) (fun σ H1 q => ?_)
    · obtain ⟨⟨v3, v4, rfl⟩, s1, e1, l1⟩ := q
      walk_at "go"
      have hlen : ∀ pre : Vc, (pre.flatMap fun c => c.1 :: wd c.2 4).length = 5 * pre.length := fun pre => by
        induction pre with
        | nil => rfl
        | cons c pre ih => rw [List.flatMap_cons, List.length_append, List.length_cons, wd_len, ih, List.length_cons]; omega
      have l2 : pre.length + 1 ≤ 9 := by
        rw [e, List.length_append, List.length_cons] at hl
        omega
      refine e_appI e1 (by rw [List.length_cons, hlen]; omega) fun H2 f2 e2 => ?_
      have s2 := same_fr s1 hp f2
      walk_at "go"
      refine ⟨_, rfl, c.2, rfl, fun r H3 hr s3 e3 => ?_⟩
      walk_at "go"
      refine e_extI (s3 _ _ e2) e3 (by rw [List.length_append, List.length_cons, hlen, wd_len]; show _ + 1 + 4 ≤ _; omega) fun H4 f4 e4 => ?_
      refine ⟨⟨_, _, rfl⟩, same_fr (s2.trans s3) hp f4, ?_, by rw [List.length_append]; exact l2⟩
      rw [List.flatMap_append]
      have ee : ((v.length : Int) :: (pre.flatMap fun c => c.1 :: wd c.2 4)) ++ [c.1] ++ wd c.2 4 = (v.length : Int) :: ((pre.flatMap fun c => c.1 :: wd c.2 4) ++ ([c].flatMap fun c => c.1 :: wd c.2 4)) := by simp
      rw [ee] at e4
      exact e4
    · obtain ⟨⟨v3, v4, rfl⟩, s1, e1, l1⟩ := q
      walk_at "go"
      exact k p H1 hp s1 e1
theorem ok_entry_bytes (T : Txt K mg)  (c_number_bytes : Cal P w K mg base 1 "number_bytes" (sp_number_bytes K)) (c_name_bytes : Cal P w K mg base 1 "name_bytes" (sp_name_bytes K)) (c_vector_bytes : Cal P w K mg base 2 "vector_bytes" (sp_vector_bytes K)) (c_row_bytes : Cal P w K mg base 1 "row_bytes" (sp_row_bytes K)) (c_block_bytes : Cal P w K mg base 2 "block_bytes" (sp_block_bytes K)) {f : Addr} {fd : FuncData} (F : FnP K "entry_bytes" s_entry_bytes f fd) : FnOk P w K mg base CX0 3 f fd ["entry", "number"] (sp_entry_bytes K) := by
  refine F.ok sc_entry_bytes (fun vs H Q E h => ?_) (fun cdv A outer s H vs Q E hr h => ?_)
  · obtain ⟨_, _, rfl, _⟩ := h
    rfl
  · have S := sc_entry_bytes
    refine ⟨_, PSs.nox (pss_cons (ps_asg (pe_fld (pv 0) rfl) (pg_tup rfl (pgs_cons (pg_name (i := 2) S.nd rfl (by first | exact .inl rfl | exact .inr rfl)) (pgs_cons (pg_name (i := 3) S.nd rfl (by first | exact .inl rfl | exact .inr rfl)) pgs_nil))))
    (pss_cons (ps_set (i := 4) S.nd rfl (by first | exact .inl rfl | exact .inr rfl) (pe_op op_cat (pe_op op_cat (pe_c c_number_bytes hr (by decide) (by rfl) (pa_cons (pv 1) pa_nil)) (pe_c c_name_bytes hr (by decide) (by rfl) (pa_cons (pe_fld (pv 0) rfl) pa_nil))) (pe_c c_vector_bytes hr (by decide) (by rfl) (pa_cons (pe_fld (pv 0) rfl) pa_nil))))
    (pss_cons (ps_expr (pe_bm PySem.F.plainAttrs_list PySem.F.slot_list_extend PySem.F.type_list_extend mt_extend (pv 4) (pa_cons (pe_op op_cat (pe_op op_cat (pe_c c_number_bytes hr (by decide) (by rfl) (pa_cons (pe_fld (pv 0) rfl) pa_nil)) (pe_lst (pa_cons (pv 2) pa_nil))) (pe_c c_number_bytes hr (by decide) (by rfl) (pa_cons (pv 3) pa_nil))) pa_nil)))
    (pss_cons (ps_expr (pe_bm PySem.F.plainAttrs_list PySem.F.slot_list_extend PySem.F.type_list_extend mt_extend (pv 4) (pa_cons (pe_op op_cat (pe_op op_cat (pe_lst (pa_cons (pe_ifExp (pt_val (pe_fld (pv 0) rfl)) pe_int pe_int) pa_nil)) (pe_c c_number_bytes hr (by decide) (by rfl) (pa_cons (pe_fld (pv 0) rfl) pa_nil))) (pe_lst (pa_cons (pe_callB call_len_seq (by rfl) T.f_len (by first | rfl | decide +kernel) (pa_cons (pe_fld (pv 0) rfl) pa_nil)) pa_nil))) pa_nil)))
    (pss_cons (ps_for PassesOwn.never rfl (pi_tup (pe_fld (pv 0) rfl)) (pg_name (i := 5) S.nd rfl (by first | exact .inl rfl | exact .inr rfl))
    (pss_one (ps_expr (pe_bm PySem.F.plainAttrs_list PySem.F.slot_list_extend PySem.F.type_list_extend mt_extend (pv 4) (pa_cons (pe_c c_row_bytes hr (by decide) (by rfl) (pa_cons (pe_c c_block_bytes hr (by decide) (by rfl) (pa_cons (pv 5) pa_nil)) pa_nil)) pa_nil)))))
    (pss_one (ps_ret (pv 4)))))))), ?_⟩
    try dsimp only [cxOf, Cx.nox]
    have t : ET K := ⟨T.cl_Entry, T.no_Entry_name, T.no_Entry_vector, T.no_Entry_height, T.no_Entry_maker, T.no_Entry_deleted, T.no_Entry_time, T.no_Entry_blocks⟩
    obtain ⟨_, _, rfl, a, q, e, n, rfl, rfl, hE, h1, h2, h3, k⟩ := h
    walk_at "go"
    refine ⟨_, rfl, n, rfl, fun r1 H1 hr1 s1 e1 => ?_⟩
    have hE1 := hE.same s1
    walk_at "go"
    refine ⟨_, rfl, e.nm, rfl, by omega, fun r2 H2 hr2 s2 e2 => ?_⟩
    have hE2 := hE1.same s2
    have ln : (nmB e.nm).length ≤ 41 := by unfold nmB; rw [List.length_cons, List.length_map]; have : e.nm.cps.toList.length = e.nm.length := by simp [Str.length]
                                           omega
    have lv := vc_len e.vc
    walk_at "go"
    refine e_catI (s2 _ _ e1) e2 (by rw [wd_len]; omega) fun r3 H3 hr3 s3 e3 => ?_
    have hE3 := hE2.same s3
    walk_at "go"
    rename_i va hva
    refine ⟨_, rfl, va, e.vc, rfl, hva.1, h2, fun r4 H4 hr4 s4 e4 => ?_⟩
    walk_at "go"
    refine e_catI (s4 _ _ e3) e4 (by rw [List.length_append, wd_len]; omega) fun d H5 hd s5 e5 => ?_
    have s05 := ((s1.trans s2).trans (s3.trans s4)).trans s5
    have hd0 : H d = none := ((s1.trans s2).trans (s3.trans s4)).free hd
    have hE5 := hE.same s05
    have ld : (wd n 4 ++ nmB e.nm ++ vcB e.vc).length ≤ 100 := by rw [List.length_append, List.length_append, wd_len]; omega
    clear s1 s2 s3 s4 s5 hE1 hE2 hE3 e1 e2 e3 e4 hva
    generalize hx1 : wd n 4 ++ nmB e.nm ++ vcB e.vc = x1 at e5 ld
    walk_at "go"
    refine ⟨_, rfl, _, rfl, fun r6 H6 hr6 s6 e6 => ?_⟩
    walk_at "go"
    rename_i r7 hr7
    have s7 := same_new (o := .lst [.int e.mr.1]) hr7
    refine e_catI (ys := [e.mr.1]) (s7 _ _ e6) upd_same (by rw [wd_len]; show 4 + 1 ≤ _; omega) fun r8 H8 hr8 s8 e8 => ?_
    walk_at "go"
    refine ⟨_, rfl, _, rfl, fun r9 H9 hr9 s9 e9 => ?_⟩
    walk_at "go"
    refine e_catI (s9 _ _ e8) e9 (by rw [List.length_append, wd_len, wd_len]; show 4 + 1 + 4 ≤ _; omega) fun r10 H10 hr10 s10 e10 => ?_
    have s510 := ((s6.trans s7).trans (s8.trans s9)).trans s10
    walk_at "go"
    refine e_extI (s510 _ _ e5) e10 (by simp only [List.length_append, wd_len, List.length_cons, List.length_nil]; omega) fun H11 f11 e11 => ?_
    have s11 := same_fr (s05.trans s510) hd0 f11
    have hE11 := hE.same s11
    clear s6 s7 s8 s9 s10 s510 e6 e8 e9 e10 hr6 hr7 hr8 hr9 hr10 f11 e5 s05 hE5
    walk_at "go"
    refine if_tC ?_
    walk_at "go"
    rename_i r12 hr12
    have s12 := same_new (o := .lst [.int (if e.dl = true then 1 else 0)]) hr12
    have hE12 := hE11.same s12
    walk_at "go"
    refine ⟨_, rfl, _, rfl, fun r13 H13 hr13 s13 e13 => ?_⟩
    walk_at "go"
    refine e_catI (xs := [if e.dl = true then 1 else 0]) (s13 _ _ upd_same) e13 (by rw [wd_len]; show 1 + 4 ≤ _; omega) fun r14 H14 hr14 s14 e14 => ?_
    have hE14 := (hE12.same s13).same s14
    walk_at "go"
    rename_i vb hvb r15 hr15
    have s15 := same_new (o := .lst [.int ((e.bl.map V.int).length : Nat)]) hr15
    have hb255 := h3.1
    refine e_catI (ys := [((e.bl.map V.int).length : Int)]) (s15 _ _ e14) upd_same (by simp only [List.length_append, wd_len, List.length_cons, List.length_nil]; omega) fun r16 H16 hr16 s16 e16 => ?_
    have s1116 := ((s12.trans s13).trans (s14.trans s15)).trans s16
    walk_at "go"
    refine e_extI (s1116 _ _ e11) e16 (by simp only [List.length_append, wd_len, List.length_cons, List.length_nil]; omega) fun H17 f17 e17 => ?_
    have s17 := same_fr (s11.trans s1116) hd0 f17
    have hE17 := hE.same s17
    rw [List.length_map] at e17
    have lb : (x1 ++ (wd e.ht 4 ++ [e.mr.1] ++ wd e.mr.2 4) ++ ([if e.dl = true then 1 else 0] ++ wd e.tm 4 ++ [(e.bl.length : Int)])).length ≤ 200 := by simp only [List.length_append, wd_len, List.length_cons, List.length_nil]; omega
    have ke : enB e n = x1 ++ (wd e.ht 4 ++ [e.mr.1] ++ wd e.mr.2 4) ++ ([if e.dl = true then 1 else 0] ++ wd e.tm 4 ++ [(e.bl.length : Int)]) ++ e.bl.flatMap fun b => ((bbytes b).length : Int) :: bbytes b := by unfold enB; rw [hx1]
    generalize x1 ++ (wd e.ht 4 ++ [e.mr.1] ++ wd e.mr.2 4) ++ ([if e.dl = true then 1 else 0] ++ wd e.tm 4 ++ [(e.bl.length : Int)]) = x2 at e17 lb ke
    clear s12 s13 s14 s15 s16 s1116 e11 e13 e14 e16 hE11 hE12 hE14 hr12 hr13 hr14 hr15 hr16 f17 hvb
    walk_at "go"
    rename_i vb2 hvb2
    refine for_tup (K := K) (xs := e.bl.map V.int) (fun i σ H1 => (∃ v5, σ = [some (.ref a), some (.int n), some (.int e.mr.1), some (.int e.mr.2), some (.ref d), v5]) ∧ Same H H1 ∧ SqT K H1 vb2 (e.bl.map V.int) ∧ LstI H1 d (x2 ++ (e.bl.take i).flatMap fun b => ((bbytes b).length : Int) :: bbytes b)) ⟨⟨_, rfl⟩, s17, hvb2, by simpa using e17⟩ (fun i σ H1 _ q => q.2.2.1) (fun i x σ H1 hx q => ?_) (fun σ H1 q => ?_)
    · obtain ⟨⟨v5, rfl⟩, s18, hS18, e18⟩ := q
      rw [List.getElem?_map] at hx
      obtain ⟨b, hb, rfl⟩ := Option.map_eq_some_iff.mp hx
      have hbp := h3.2 b (List.mem_of_getElem? hb)
      have hbl := (List.getElem?_eq_some_iff.mp hb).1
      have l4 := bbytes_len b
      have lf := sz4 (e.bl.take i) fun b _ => bbytes_len b
      rw [List.length_take] at lf
      walk_at "go"
      refine ⟨_, rfl, b, rfl, hbp, fun r18 H18 hr18 s19 e19 => ?_⟩
      walk_at "go"
      refine ⟨_, rfl, r18, bbytes b, rfl, .inl (SqL.of e19), by omega, fun r20 H20 hr20 s20 e20 => ?_⟩
      walk_at "go"
      refine e_extI (s20 _ _ (s19 _ _ e18)) e20 (by rw [List.length_append, List.length_cons]; omega) fun H21 f21 e21 => ?_
      have s21 := same_fr (s18.trans (s19.trans s20)) hd0 f21
      refine ⟨⟨_, rfl⟩, s21, sqT_fr' (same_tup (s19.trans s20) hS18) f21 (s20 _ _ (s19 _ _ e18)), ?_⟩
      rw [List.take_add_one, hb, List.flatMap_append, ← List.append_assoc]
      simpa using e21
    · obtain ⟨⟨v5, rfl⟩, s18, hS18, e18⟩ := q
      rw [List.length_map, List.take_length, ← ke] at e18
      walk_at "go"
      exact k d H1 hd0 s18 e18
theorem ok_Reader___init__ (T : Txt K mg)   {f : Addr} {fd : FuncData} (F : FunD K "__init__" "Reader.__init__" (defArgs s_Reader___init__) (defBody s_Reader___init__) (defScope s_Reader___init__) [.int 0] [] f fd) : FnOk P w K mg base CX0 1 f fd ["self", "data", "at"] (sp_Reader___init__ K) := by
  refine F.ok sc_Reader___init__ (fun vs H Q E h => ?_) (fun cdv A outer s H vs Q E hr h => ?_)
  · obtain ⟨_, _, _, rfl, _⟩ := h
    rfl
  · have S := sc_Reader___init__
    refine ⟨_, PSs.nox (pss_cons (ps_fld (pv 0) (pe_callTy call_list_of (by rfl) T.f_list (by first | rfl | decide +kernel) (pa_cons (pv 1) pa_nil)) rfl)
    (pss_one (ps_fld (pv 0) (pv 2) rfl))), ?_⟩
    try dsimp only [cxOf, Cx.nox]
    have rt0 : RDT K := ⟨T.cl_Reader, T.no_Reader__data, T.no_Reader_at⟩
    obtain ⟨_, _, _, rfl, a, d0, dx, xs, p, rfl, rfl, rfl, ha, hd, k⟩ := h
    walk_at "go"
    intro l hl
    have na : l ≠ a := fun z => by rw [z, ha] at hl; cases hl
    walk_at "go"
    refine ⟨a, _, dx, [], rfl, same_new hl _ _ ha, rt0.cl, rt0.n1, (by show 0 < 1000; decide), ?_⟩
    walk_at "go"
    refine ⟨a, _, dx, _, rfl, upd_same, rt0.cl, rt0.n2, (by show 1 < 1000; decide), ?_⟩
    rw [upd_upd]
    have f : Fr [a] H (upd (upd H l (.lst (xs.map V.int))) a (.ins (cRd K) dx (putF "at" (.int (p : Nat)) (putF "_data" (.ref l) [])))) := (Fr.of (same_new hl)).put (List.mem_cons_self ..)
    refine k l _ f ⟨dx, _, upd_same, (by show 2 ≤ 3; decide), by simp only [lookup_putF]; rfl, by simp only [lookup_putF]; rfl, fun m hm => ?_, by unfold LstI; rw [upd_ne na]; exact upd_same⟩
    simp only [List.mem_cons, not_or] at hm
    simp only [lookup_putF]
    rw [if_neg hm.2.1, if_neg hm.1]
    rfl
theorem ok_Reader_byte (T : Txt K mg)   {f : Addr} {fd : FuncData} (F : FunD K "byte" "Reader.byte" (defArgs s_Reader_byte) (defBody s_Reader_byte) (defScope s_Reader_byte) [.int 0, .int 255] [] f fd) : FnOk P w K mg base (L2.CX P w) 3 f fd ["self", "least", "most"] (sp_Reader_byte K) := by
  refine F.ok sc_Reader_byte (fun vs H Q E h => ?_) (fun cdv A outer s H vs Q E hr h => ?_)
  · obtain ⟨_, _, _, rfl, _⟩ := h
    rfl
  · have S := sc_Reader_byte
    refine ⟨_, (pss_cons (ps_if (pt_cmpR op_ge (pe_fld (pv 0) rfl) (pe_callB call_len_seq (by rfl) T.f_len (by first | rfl | decide +kernel) (pa_cons (pe_fld (pv 0) rfl) pa_nil)) (nomark _))
    (pss_one (ps_raiseErr rfl T.er_InvalidBytes.er hr (takes_of rfl rfl rfl rfl) (pa_cons (pe_callB call_len_seq (by rfl) T.f_len (by first | rfl | decide +kernel) (pa_cons (pe_fld (pv 0) rfl) pa_nil)) pa_nil)))
    pss_nil)
    (pss_cons (ps_set (i := 3) S.nd rfl (by first | exact .inl rfl | exact .inr rfl) (pe_ix ix_list (pe_fld (pv 0) rfl) (pe_fld (pv 0) rfl) (fun _ _ => rfl)))
    (pss_cons (ps_if (pw_or (pt_cmpR op_lt (pv 3) (pv 1) (nomark _)) (pw_or1 (pt_cmpR op_gt (pv 3) (pv 2) (nomark _)))).pt
    (pss_one (ps_raiseErr rfl T.er_InvalidBytes.er hr (takes_of rfl rfl rfl rfl) (pa_cons (pe_fld (pv 0) rfl) pa_nil)))
    pss_nil)
    (PSs.nox (pss_cons (ps_fldaug (pv 0) pe_int in_add)
    (pss_one (ps_ret (pv 3)))))))), ?_⟩
    try dsimp only [cxOf, Cx.nox]
    have rt0 : RDT K := ⟨T.cl_Reader, T.no_Reader__data, T.no_Reader_at⟩
    obtain ⟨_, _, _, rfl, l, hh, rfl, rfl, a, dl, d, p, rfl, hR, k1, k2⟩ := h
    obtain ⟨dx, fs, x⟩ := id hR
    have hS := SqL.of (K := K) x.g
    walk_at "go"
    rw [List.length_map]
    refine i_d (fun z => ?_) (fun z => ?_)
    · have e : pByte l hh d p = .error d.length := by unfold pByte; rw [List.getElem?_eq_none (by omega)]
      walk_at "go"
      rw [List.length_map]
      exact ⟨_, rfl, k2 _ e H (Fr.refl _ _) ⟨p, hR⟩⟩
    walk_at "go"
    have hv := List.getElem?_eq_getElem (l := d) (i := p) (by omega)
    generalize d[p]'(by omega) = v at hv
    refine e_ixL (v := .int v) hS (at_of (j := p) rfl (by rw [List.getElem?_map, hv]; rfl)) ?_
    walk_at "go"
    refine i_d (fun z1 => ?_) (fun z1 => ?_)
    · have e : pByte l hh d p = .error p := by unfold pByte; rw [hv]; exact if_pos (.inl z1)
      rw [if_pos rfl]
      walk_at "go"
      exact ⟨_, rfl, k2 _ e H (Fr.refl _ _) ⟨p, hR⟩⟩
    walk_at "go"
    refine i_d (fun z2 => ?_) (fun z2 => ?_)
    · have e : pByte l hh d p = .error p := by unfold pByte; rw [hv]; exact if_pos (.inr z2)
      walk_at "go"
      exact ⟨_, rfl, k2 _ e H (Fr.refl _ _) ⟨p, hR⟩⟩
    have e9 : pByte l hh d p = .ok (v, p + 1) := by unfold pByte; rw [hv]; exact if_neg (fun z => z.elim z1 z2)
    walk_at "go"
    refine ⟨a, _, dx, fs, _, rfl, x.ins, rt0.cl, rt0.n2, x.l2, ?_⟩
    walk_at "go"
    refine ⟨_, _, rfl, rfl, ?_⟩
    walk_at "go"
    refine ⟨dx, fs, x.ins, Nat.lt_of_le_of_lt x.len (by decide), ?_⟩
    have c := x.go (p + 1)
    have e : ((p : Nat) : Int) + 1 = ((p + 1 : Nat) : Int) := by omega
    rw [e]
    walk_at "go"
    exact k1 v _ e9 _ _ ((Fr.refl _ _).put (List.mem_cons_self ..)) ⟨_, _, c⟩ rfl
theorem ok_Reader_number (T : Txt K mg)  (m_Reader_byte : MetXD P w K mg base 3 (He.ga K "Reader") "byte" (sp_Reader_byte K) []) (m1_Reader_byte : MetXD P w K mg base 3 (He.ga K "Reader") "byte" (sp_Reader_byte K) [.int 255]) (m2_Reader_byte : MetXD P w K mg base 3 (He.ga K "Reader") "byte" (sp_Reader_byte K) [.int 0, .int 255]) {f : Addr} {fd : FuncData} (F : FunD K "number" "Reader.number" (defArgs s_Reader_number) (defBody s_Reader_number) (defScope s_Reader_number) [.int 0] [] f fd) : FnOk P w K mg base (L2.CX P w) 4 f fd ["self", "least"] (sp_Reader_number K) := by
  refine F.ok sc_Reader_number (fun vs H Q E h => ?_) (fun cdv A outer s H vs Q E hr h => ?_)
  · obtain ⟨_, _, rfl, _⟩ := h
    rfl
  · have S := sc_Reader_number
    refine ⟨_, (pss_cons (ps_set (i := 2) S.nd rfl (by first | exact .inl rfl | exact .inr rfl) pe_int)
    (pss_cons (ps_for (passes_of rfl) rfl (pi_revR (by rfl) T.f_reversed (prg_1 (by rfl) T.f_range (C8.pe_gc (by rfl) T.c__NUMBER_BYTES))) (pg_name (i := 3) S.nd rfl (by first | exact .inl rfl | exact .inr rfl))
    (pss_cons (ps_set (i := 4) S.nd rfl (by first | exact .inl rfl | exact .inr rfl) (pe_ifExp (pw_and (pt_cmpR op_eq (pv 3) pe_int (nomark _)) (pw_and1 (pt_cmpR op_eq (pv 2) pe_int (nomark _)))).pt (pv 1) pe_int))
      (pss_one (ps_set (i := 2) S.nd rfl (by first | exact .inl rfl | exact .inr rfl) (pe_op op_add (pe_op op_mul (pv 2) pe_int) (pe_mtXD m1_Reader_byte hr (by decide) (takes_of rfl rfl rfl rfl) (pv 0) (pa_cons (pv 4) pa_nil)))))))
    (PSs.nox (pss_one (ps_ret (pv 2)))))), ?_⟩
    try dsimp only [cxOf, Cx.nox]
    obtain ⟨_, _, rfl, l, rfl, hl, a, dl, d, p, rfl, hR, k1, k2⟩ := h
    walk_at "go"
    refine ⟨by decide, by decide, by decide, by decide, ?_⟩
    refine for_it walk_rangeC (fun i σ H1 => ∃ (v : Int) (q : Nat) (v3 v4 : Option V), σ = [some (.ref a), some (.int l), some (.int v), v3, v4] ∧ Fr [a] H H1 ∧ Rd K H1 a dl d q ∧ pNum l d p = pNumL l (4 - i) v d q ∧ 0 ≤ v ∧ v < 256 ^ i) ⟨0, p, none, none, rfl, Fr.refl _ _, hR, rfl, by decide, by decide⟩ (fun _ _ _ _ _ => trivial) (fun i x σ H1 H' hi q y => ?_) (fun σ H1 q => ?_)
    · obtain ⟨rfl, rfl⟩ := y
      obtain ⟨v, q, v3, v4, rfl, f1, hR1, eP, b1, b2⟩ := q
      have hi4 : i < 4 := hi
      have e4 : pNumL l (4 - i) v = thenP (pByte (if 4 - (i + 1) = 0 ∧ v = 0 then l else 0) 255) fun b => pNumL l (4 - (i + 1)) (v * 256 + b) := by
        rw [show 4 - i = (4 - (i + 1)) + 1 by omega]; rfl
      rw [e4] at eP
      have hvb : v < 16777216 := by
        have h4 : i = 0 ∨ i = 1 ∨ i = 2 ∨ i = 3 := by omega
        rcases h4 with rfl | rfl | rfl | rfl <;> exact Int.lt_of_lt_of_le b2 (by decide)
      have h0 : ((0 : Int) + (((4 : Int) - 0).toNat : Int) - 1 + (i : Int) * -1 = 0) ↔ 4 - (i + 1) = 0 := by
        have e : (((4 : Int) - 0).toNat : Int) = 4 := rfl
        rw [e]; omega
      have fin : ∀ w r, pByte (if 4 - (i + 1) = 0 ∧ v = 0 then l else 0) 255 d q = .ok (w, r) → ∀ H2, Fr [a] H' H2 → Rd K H2 a dl d r → ∀ (v3 v4 : Option V), ∃ (v' : Int) (q' : Nat) (u3 u4 : Option V), [some (.ref a), some (.int l), some (.int (v * 256 + w)), v3, v4] = [some (.ref a), some (.int l), some (.int v'), u3, u4] ∧ Fr [a] H H2 ∧ Rd K H2 a dl d q' ∧ pNum l d p = pNumL l (4 - (i + 1)) v' d q' ∧ 0 ≤ v' ∧ v' < 256 ^ (i + 1) := fun w r e H2 f2 hR2 v3 v4 => by
        have hw := byte_ok e
        have hw0 : 0 ≤ w := by
          have : (0 : Int) ≤ if 4 - (i + 1) = 0 ∧ v = 0 then l else 0 := by split <;> omega
          omega
        refine ⟨_, r, _, _, rfl, f1.trans f2, hR2, eP.trans (then_ok e), by omega, ?_⟩
        have := Int.mul_le_mul_of_nonneg_right (show v + 1 ≤ 256 ^ i by omega) (show (0 : Int) ≤ 256 by decide)
        rw [Int.pow_succ]
        omega
      walk_at "go"
      refine i_d (fun h => ?_) (fun h => ?_)
      · walk_at "go"
        refine i_d (fun h2 => ?_) (fun h2 => ?_)
        · have hif : (if 4 - (i + 1) = 0 ∧ v = 0 then l else 0) = l := if_pos ⟨h0.mp h, h2⟩
          walk_at "go"
          refine ⟨_, _, _, rfl, l, 255, rfl, rfl, a, dl, d, q, rfl, hR1, fun w r e u H2 f2 hR2 hu => ?_, fun n e H2 f2 hq => k2 n (eP.trans (then_err ((congrArg (fun z => pByte z 255 d q) hif).trans e))) H2 (f1.trans f2) hq⟩
          have hu : u = V.int w := hu
          subst hu
          have hw := byte_ok e
          walk_at "go"
          exact fin w r ((congrArg (fun z => pByte z 255 d q) hif).trans e) H2 f2 hR2 _ _
        · have hif : (if 4 - (i + 1) = 0 ∧ v = 0 then l else 0) = 0 := if_neg fun z => h2 z.2
          walk_at "go"
          refine ⟨_, _, _, rfl, 0, 255, rfl, rfl, a, dl, d, q, rfl, hR1, fun w r e u H2 f2 hR2 hu => ?_, fun n e H2 f2 hq => k2 n (eP.trans (then_err ((congrArg (fun z => pByte z 255 d q) hif).trans e))) H2 (f1.trans f2) hq⟩
          have hu : u = V.int w := hu
          subst hu
          have hw := byte_ok e
          walk_at "go"
          exact fin w r ((congrArg (fun z => pByte z 255 d q) hif).trans e) H2 f2 hR2 _ _
      · have hif : (if 4 - (i + 1) = 0 ∧ v = 0 then l else 0) = 0 := if_neg fun z => h (h0.mpr z.1)
        · walk_at "go"
          refine ⟨_, _, _, rfl, 0, 255, rfl, rfl, a, dl, d, q, rfl, hR1, fun w r e u H2 f2 hR2 hu => ?_, fun n e H2 f2 hq => k2 n (eP.trans (then_err ((congrArg (fun z => pByte z 255 d q) hif).trans e))) H2 (f1.trans f2) hq⟩
          have hu : u = V.int w := hu
          subst hu
          have hw := byte_ok e
          walk_at "go"
          exact fin w r ((congrArg (fun z => pByte z 255 d q) hif).trans e) H2 f2 hR2 _ _
    · obtain ⟨v, q, v3, v4, rfl, f1, hR1, eP, b1, b2⟩ := q
      walk_at "go"
      exact k1 v q eP _ H1 f1 hR1 rfl
theorem ok_Reader_device (T : Txt K mg)  (m_Reader_byte : MetXD P w K mg base 3 (He.ga K "Reader") "byte" (sp_Reader_byte K) []) (m1_Reader_byte : MetXD P w K mg base 3 (He.ga K "Reader") "byte" (sp_Reader_byte K) [.int 255]) (m2_Reader_byte : MetXD P w K mg base 3 (He.ga K "Reader") "byte" (sp_Reader_byte K) [.int 0, .int 255]) {f : Addr} {fd : FuncData} (F : FunD K "device" "Reader.device" (defArgs s_Reader_device) (defBody s_Reader_device) (defScope s_Reader_device) [] [] f fd) : FnOk P w K mg base (L2.CX P w) 4 f fd ["self"] (sp_Reader_device K) := by
  refine F.ok sc_Reader_device (fun vs H Q E h => ?_) (fun cdv A outer s H vs Q E hr h => ?_)
  · obtain ⟨_, rfl, _⟩ := h
    rfl
  · have S := sc_Reader_device
    refine ⟨_, (pss_one (ps_ret (pe_mtXD m_Reader_byte hr (by decide) (takes_of rfl rfl rfl rfl) (pv 0) (pa_cons pe_int (pa_cons (C8.pe_gc (by rfl) T.c__MOST_DEVICE) pa_nil))))), ?_⟩
    try dsimp only [cxOf, Cx.nox]
    obtain ⟨_, rfl, a, dl, d, p, rfl, hR, k1, k2⟩ := h
    walk_at "go"
    exact ⟨_, _, _, rfl, 1, 9, rfl, rfl, a, dl, d, p, rfl, hR, k1, k2⟩
theorem ok_Reader_name (T : Txt K mg)  (m_Reader_byte : MetXD P w K mg base 3 (He.ga K "Reader") "byte" (sp_Reader_byte K) []) (m1_Reader_byte : MetXD P w K mg base 3 (He.ga K "Reader") "byte" (sp_Reader_byte K) [.int 255]) (m2_Reader_byte : MetXD P w K mg base 3 (He.ga K "Reader") "byte" (sp_Reader_byte K) [.int 0, .int 255]) (m_Reader__character : MetXD P w K mg base 4 (He.ga K "Reader") "_character" (sp_Reader__character K) []) {f : Addr} {fd : FuncData} (F : FunD K "name" "Reader.name" (defArgs s_Reader_name) (defBody s_Reader_name) (defScope s_Reader_name) [] [] f fd) : FnOk P w K mg base (L2.CX P w) 5 f fd ["self"] (sp_Reader_name K) := by
  refine F.ok sc_Reader_name (fun vs H Q E h => ?_) (fun cdv A outer s H vs Q E hr h => ?_)
  · obtain ⟨_, rfl, _⟩ := h
    rfl
  · have S := sc_Reader_name
    refine ⟨_, (pss_cons (ps_set (i := 1) S.nd rfl (by first | exact .inl rfl | exact .inr rfl) (pe_mtXD m_Reader_byte hr (by decide) (takes_of rfl rfl rfl rfl) (pv 0) (pa_cons pe_int (pa_cons (C8.pe_gc (by rfl) T.c_MOST_NAME) pa_nil))))
    (pss_one (ps_ret (pe_join pe_str (pe_lcX (own := [("_", 2)]) (g := gName 2) rfl S.nd (takes_of rfl rfl rfl rfl) rfl rfl (pi_range1 (by rfl) T.f_range (pa_cons (pv 1) pa_nil)) (blkOk_by (N := N_Reader_name) (sc := defScope s_Reader_name) (by decide +kernel)) (fun _ _ _ _ _ => (pg_name (i := 2) S.nd rfl (by first | exact .inl rfl | exact .inr rfl))) (fun _ _ _ _ _ _ _ hx => (pe_mtA0 m_Reader__character hr (by decide) hx (pv 0)))))))), ?_⟩
    try dsimp only [cxOf, Cx.nox]
    obtain ⟨_, rfl, a, dl, d, p, rfl, hR, k1, k2⟩ := h
    walk_at "go"
    refine ⟨_, _, _, rfl, 1, 40, rfl, rfl, a, dl, d, p, rfl, hR, fun v q e r H2 f2 hR2 hr => ?_, fun n e => k2 n (then_err e)⟩
    have hr : r = V.int v := hr
    subst hr
    have hb := byte_ok e
    walk_at "go"
    intro D hD
    have nD := hR2.free hD
    refine lc_rng (fun i H3 => Fr [a] H2 H3 ∧ ∃ (cs : List Nat) (r : Nat), Rd K H3 a dl d r ∧ cs.length = i ∧ pMany pChr v.toNat d q = mapP (cs ++ ·) (pMany pChr (v.toNat - i) d r) ∧ H3 D = some (.lst (cs.map fun c => V.str ⟨#[c]⟩))) ⟨Fr.of (same_new hD), [], q, hR2.same (same_new hD), rfl, many_start _ _ _ _, upd_same⟩ (fun i H3 hi q3 => ?_) (fun H3 q3 => ?_)
    · obtain ⟨f3, cs, r, hR3, lc, eP, e3⟩ := q3
      walk_at "go"
      refine ⟨_, rfl, a, dl, d, r, rfl, hR3, fun c r2 e4 u H4 f4 hR4 hu => ?_, fun n e4 H4 f4 hq => k2 n ((then_ok e).trans (then_err (many_err hi e4 eP))) H4 ((f2.trans f3).trans f4) hq⟩
      have hu : u = V.str ⟨#[c]⟩ := hu
      subst hu
      have e5 := hR3.lst f4 e3
      refine ⟨_, e5, by rw [List.length_map]; exact Nat.lt_of_le_of_lt (by omega : _ ≤ 100) (by decide), (f3.trans f4).mut hD, cs ++ [c], r2, hR4.mut nD, by rw [List.length_append, lc]; rfl, many_ok hi e4 eP, ?_⟩
      rw [upd_same, List.map_append]
      rfl
    · obtain ⟨f3, cs, r, hR3, lc, eP, e3⟩ := q3
      have eP := many_end eP
      walk_at "go"
      refine ⟨_, D, cs.map (fun c => (⟨#[c]⟩ : Str)), rfl, rfl, .inl (SqL.of (by rw [e3, List.map_map]; rfl)), ?_, ?_⟩
      · rw [List.map_map, List.length_map]
        rw [chr_sum cs]
        show _ + _ * 0 ≤ _
        omega
      · have ej := joinC ⟨cs.toArray⟩
        rw [show (⟨cs.toArray⟩ : Str).cps.toList = cs from rfl] at ej
        rw [ej]
        exact k1 _ r ((then_ok e).trans (then_ok eP)) _ H3 (f2.trans f3) hR3 rfl
theorem ok_Reader__character (T : Txt K mg)  (c_character_of : Cal P w K mg base 1 "character_of" (sp_character_of K)) (m_Reader_byte : MetXD P w K mg base 3 (He.ga K "Reader") "byte" (sp_Reader_byte K) []) (m1_Reader_byte : MetXD P w K mg base 3 (He.ga K "Reader") "byte" (sp_Reader_byte K) [.int 255]) (m2_Reader_byte : MetXD P w K mg base 3 (He.ga K "Reader") "byte" (sp_Reader_byte K) [.int 0, .int 255]) {f : Addr} {fd : FuncData} (F : FunD K "_character" "Reader._character" (defArgs s_Reader__character) (defBody s_Reader__character) (defScope s_Reader__character) [] [] f fd) : FnOk P w K mg base (L2.CX P w) 4 f fd ["self"] (sp_Reader__character K) := by
  refine F.ok sc_Reader__character (fun vs H Q E h => ?_) (fun cdv A outer s H vs Q E hr h => ?_)
  · obtain ⟨_, rfl, _⟩ := h
    rfl
  · have S := sc_Reader__character
    refine ⟨_, (pss_cons (ps_set (i := 1) S.nd rfl (by first | exact .inl rfl | exact .inr rfl) (pe_fld (pv 0) rfl))
    (pss_cons (ps_set (i := 2) S.nd rfl (by first | exact .inl rfl | exact .inr rfl) (pe_c c_character_of hr (by decide) (by rfl) (pa_cons (pe_mtXD0 m2_Reader_byte hr (by decide) (takes_of rfl rfl rfl rfl) (pv 0)) pa_nil)))
    (pss_cons (ps_if (pt_cmpR op_isN (pv 2) pe_non (nomark _))
    (pss_one (ps_raiseErr rfl T.er_InvalidBytes.er hr (takes_of rfl rfl rfl rfl) (pa_cons (pv 1) pa_nil)))
    pss_nil)
    (PSs.nox (pss_one (ps_ret (pv 2))))))), ?_⟩
    try dsimp only [cxOf, Cx.nox]
    have rt0 : RDT K := ⟨T.cl_Reader, T.no_Reader__data, T.no_Reader_at⟩
    obtain ⟨_, rfl, a, dl, d, p, rfl, hR, k1, k2⟩ := h
    obtain ⟨dx, fs, x⟩ := id hR
    walk_at "go"
    refine ⟨_, _, _, rfl, 0, 255, rfl, rfl, a, dl, d, p, rfl, hR, fun v q e r H2 f2 hR2 hr => ?_, fun n e => k2 n (by unfold pChr; rw [e])⟩
    have hr : r = V.int v := hr
    subst hr
    have hb := byte_ok e
    have hv : ((v.toNat : Nat) : Int) = v := by omega
    walk_at "go"
    refine ⟨_, rfl, v.toNat, by rw [hv], fun hc => ?_, fun hc => ?_⟩
    · walk_at "go"
      refine ⟨rfl, ?_⟩
      walk_at "go"
      refine i_d (fun z => nomatch z) (fun _ => ?_)
      walk_at "go"
      exact k1 v.toNat q (by unfold pChr; rw [e]; exact if_pos hc) _ H2 f2 hR2 rfl
    · walk_at "go"
      refine ⟨rfl, ?_⟩
      walk_at "go"
      refine i_d (fun _ => ?_) (fun z => absurd rfl z)
      walk_at "go"
      exact ⟨_, rfl, k2 p (by unfold pChr; rw [e]; exact if_neg hc) H2 f2 ⟨q, hR2⟩⟩
theorem ok_Reader_vector (T : Txt K mg)  (m_Reader_byte : MetXD P w K mg base 3 (He.ga K "Reader") "byte" (sp_Reader_byte K) []) (m1_Reader_byte : MetXD P w K mg base 3 (He.ga K "Reader") "byte" (sp_Reader_byte K) [.int 255]) (m2_Reader_byte : MetXD P w K mg base 3 (He.ga K "Reader") "byte" (sp_Reader_byte K) [.int 0, .int 255]) (m_Reader_number : MetXD P w K mg base 4 (He.ga K "Reader") "number" (sp_Reader_number K) []) (m1_Reader_number : MetXD P w K mg base 4 (He.ga K "Reader") "number" (sp_Reader_number K) [.int 0]) {f : Addr} {fd : FuncData} (F : FunD K "vector" "Reader.vector" (defArgs s_Reader_vector) (defBody s_Reader_vector) (defScope s_Reader_vector) [] [] f fd) : FnOk P w K mg base (L2.CX P w) 5 f fd ["self"] (sp_Reader_vector K) := by
  refine F.ok sc_Reader_vector (fun vs H Q E h => ?_) (fun cdv A outer s H vs Q E hr h => ?_)
  · obtain ⟨_, rfl, _⟩ := h
    rfl
  · have S := sc_Reader_vector
    refine ⟨_, (pss_cons (ps_set (i := 1) S.nd rfl (by first | exact .inl rfl | exact .inr rfl) (pe_mtXD m_Reader_byte hr (by decide) (takes_of rfl rfl rfl rfl) (pv 0) (pa_cons pe_int (pa_cons (C8.pe_gc (by rfl) T.c__MOST_DEVICE) pa_nil))))
    (pss_cons (ps_set (i := 2) S.nd rfl (by first | exact .inl rfl | exact .inr rfl) (pe_lst pa_nil))
    (pss_cons (ps_set (i := 3) S.nd rfl (by first | exact .inl rfl | exact .inr rfl) pe_int)
    (pss_cons (ps_for (passes_of rfl) rfl (pi_revR (by rfl) T.f_reversed (prg_1 (by rfl) T.f_range (pv 1))) (pg_name (i := 4) S.nd rfl (by first | exact .inl rfl | exact .inr rfl))
    (pss_cons (ps_set (i := 3) S.nd rfl (by first | exact .inl rfl | exact .inr rfl) (pe_mtXD m_Reader_byte hr (by decide) (takes_of rfl rfl rfl rfl) (pv 0) (pa_cons (pe_op op_add (pv 3) pe_int) (pa_cons (pe_op op_sub (C8.pe_gc (by rfl) T.c__MOST_DEVICE) (pv 4)) pa_nil))))
      (pss_one (ps_expr (pe_bm PySem.F.plainAttrs_list PySem.F.slot_list_append PySem.F.type_list_append mt_append (pv 2) (pa_cons (pe_tup (pa_cons (pv 3) (pa_cons (pe_mtXD m_Reader_number hr (by decide) (takes_of rfl rfl rfl rfl) (pv 0) (pa_cons pe_int pa_nil)) pa_nil))) pa_nil))))))
    (PSs.nox (pss_one (ps_ret (pe_callTy call_tuple_of (by rfl) T.f_tuple (by first | rfl | decide +kernel) (pa_cons (pv 2) pa_nil))))))))), ?_⟩
    try dsimp only [cxOf, Cx.nox]
    obtain ⟨_, rfl, a, dl, d, p, rfl, hR, k1, k2⟩ := h
    walk_at "go"
    refine ⟨_, _, _, rfl, 1, 9, rfl, rfl, a, dl, d, p, rfl, hR, fun v q e r H2 f2 hR2 hr => ?_, fun n e => k2 n (then_err e)⟩
    have hr : r = V.int v := hr
    subst hr
    have hb := byte_ok e
    walk_at "go"
    rename_i D hD
    have nD := hR2.free hD
    refine ⟨by decide, by decide, by omega, by omega, ?_⟩
    have nl : (v - 0).toNat = v.toNat := by omega
    rw [nl]
    refine for_it walk_rangeC (fun i σ H1 => ∃ (v4 : Option V) (dv : Int) (vs : Vc) (ps : List Addr) (r : Nat), σ = [some (.ref a), some (.int v), some (.ref D), some (.int dv), v4] ∧ Fr [a] H2 H1 ∧ Rd K H1 a dl d r ∧ H1 D = some (.lst (ps.map V.ref)) ∧ Prs K H1 ps vs ∧ vs.length = i ∧ pVecL v.toNat 0 d q = mapP (vs ++ ·) (pVecL (v.toNat - i) dv d r)) ⟨_, 0, [], [], q, rfl, Fr.of (same_new hD), hR2.same (same_new hD), upd_same, .nil, rfl, vec_start _ _ _ _⟩ (fun _ _ _ _ _ => trivial) (fun i x σ H1 H' hi q3 y => ?_) (fun σ H1 q3 => ?_)
    · obtain ⟨rfl, rfl⟩ := y
      obtain ⟨v4, dv, vs, ps, r, rfl, f1, hR1, eD, hP, lv, eP⟩ := q3
      have hb3 : (9 : Int) - (0 + (v.toNat : Int) - 1 + (i : Int) * -1) = 9 - ((v.toNat - (i + 1) : Nat) : Int) := by omega
      walk_at "go"
      refine ⟨_, _, _, rfl, _, _, rfl, rfl, a, dl, d, r, rfl, hR1, fun c r2 e2 u H3 f3 hR3 hu => ?_, fun n e2 H3 f3 hq => k2 n ((then_ok e).trans (vec_err1 hi (by rw [← hb3]; exact e2) eP)) H3 ((f2.trans f1).trans f3) hq⟩
      rw [hb3] at e2
      have hu : u = V.int c := hu
      subst hu
      have eD3 := hR1.lst f3 eD
      walk_at "go"
      refine ⟨_, _, rfl, 1, rfl, by decide, a, dl, d, r2, rfl, hR3, fun m r3 e3 u H4 f4 hR4 hu => ?_, fun n e3 H4 f4 hq => k2 n ((then_ok e).trans (vec_err2 hi e2 e3 eP)) H4 (((f2.trans f1).trans f3).trans f4) hq⟩
      have hu : u = V.int m := hu
      subst hu
      walk_at "go"
      rename_i t ht
      have eD4 := hR3.lst f4 eD3
      have s5 := same_new (o := .tup [.int c, .int m]) ht
      have hP4 : Prs K H4 ps vs := paired_imp (fun _ _ q => sqT_fr (sqT_fr q f3 hR1.nt) f4 hR3.nt) hP
      refine e_app (s5 _ _ eD4) (by rw [List.length_map, paired_len hP]; exact Nat.lt_of_le_of_lt (by omega : _ ≤ 100) (by decide)) ?_
      have hR5 := (hR4.same s5).mut (o := .lst (ps.map V.ref ++ [.ref t])) nD
      refine ⟨_, c, vs ++ [(c, m)], ps ++ [t], r3, rfl, (((f1.trans f3).trans f4).same s5).mut hD, hR5, by rw [upd_same, List.map_append]; rfl, paired_snoc (prs_updE (prs_same s5 hP4) (s5 _ _ eD4)) (sq_updE (SqT.of upd_same) (s5 _ _ eD4)), by rw [List.length_append, lv]; rfl, vec_ok hi e2 e3 eP⟩
    · obtain ⟨v4, dv, vs, ps, r, rfl, f1, hR1, eD, hP, lv, eP⟩ := q3
      walk_at "go"
      refine ⟨D, _, rfl, .inl ⟨SqL.of eD, fun l hl => ?_⟩⟩
      have s5 := same_new (o := .tup (ps.map V.ref)) hl
      exact k1 vs r ((then_ok e).trans (vec_end eP)) _ _ ((f2.trans f1).same s5) (hR1.same s5) ⟨l, rfl, ps, SqT.of upd_same, prs_same s5 hP⟩
theorem ok_Reader_row (T : Txt K mg)  (m_Reader_byte : MetXD P w K mg base 3 (He.ga K "Reader") "byte" (sp_Reader_byte K) []) (m1_Reader_byte : MetXD P w K mg base 3 (He.ga K "Reader") "byte" (sp_Reader_byte K) [.int 255]) (m2_Reader_byte : MetXD P w K mg base 3 (He.ga K "Reader") "byte" (sp_Reader_byte K) [.int 0, .int 255]) {f : Addr} {fd : FuncData} (F : FunD K "row" "Reader.row" (defArgs s_Reader_row) (defBody s_Reader_row) (defScope s_Reader_row) [.int 1] [] f fd) : FnOk P w K mg base (L2.CX P w) 4 f fd ["self", "least"] (sp_Reader_row K) := by
  refine F.ok sc_Reader_row (fun vs H Q E h => ?_) (fun cdv A outer s H vs Q E hr h => ?_)
  · obtain ⟨_, _, rfl, _⟩ := h
    rfl
  · have S := sc_Reader_row
    refine ⟨_, (pss_cons (ps_set (i := 2) S.nd rfl (by first | exact .inl rfl | exact .inr rfl) (pe_mtXD m_Reader_byte hr (by decide) (takes_of rfl rfl rfl rfl) (pv 0) (pa_cons (pv 1) (pa_cons (C8.pe_gc (by rfl) T.c_BLOCK) pa_nil))))
    (pss_one (ps_ret (pe_lcX (own := [("_", 3)]) (g := gName 3) rfl S.nd (takes_of rfl rfl rfl rfl) rfl rfl (pi_range1 (by rfl) T.f_range (pa_cons (pv 2) pa_nil)) (blkOk_by (N := N_Reader_row) (sc := defScope s_Reader_row) (by decide +kernel)) (fun _ _ _ _ _ => (pg_name (i := 3) S.nd rfl (by first | exact .inl rfl | exact .inr rfl))) (fun _ _ _ _ _ _ _ hx => (pe_mtA0 m2_Reader_byte hr (by decide) hx (pv 0))))))), ?_⟩
    try dsimp only [cxOf, Cx.nox]
    obtain ⟨_, _, rfl, l, rfl, hl, a, dl, d, p, rfl, hR, k1, k2⟩ := h
    walk_at "go"
    refine ⟨_, _, _, rfl, l, 4, rfl, rfl, a, dl, d, p, rfl, hR, fun v q e r H2 f2 hR2 hr => ?_, fun n e => k2 n (then_err e)⟩
    have hr : r = V.int v := hr
    subst hr
    have hb := byte_ok e
    walk_at "go"
    intro D hD
    have nD := hR2.free hD
    refine lc_rng (fun i H3 => Fr [a] H2 H3 ∧ ∃ (cs : List Int) (r : Nat), Rd K H3 a dl d r ∧ cs.length = i ∧ pMany (pByte 0 255) v.toNat d q = mapP (cs ++ ·) (pMany (pByte 0 255) (v.toNat - i) d r) ∧ LstI H3 D cs) ⟨Fr.of (same_new hD), [], q, hR2.same (same_new hD), rfl, many_start _ _ _ _, upd_same⟩ (fun i H3 hi q3 => ?_) (fun H3 q3 => ?_)
    · obtain ⟨f3, cs, r, hR3, lc, eP, e3⟩ := q3
      walk_at "go"
      refine ⟨_, _, _, rfl, 0, 255, rfl, rfl, a, dl, d, r, rfl, hR3, fun c r2 e4 u H4 f4 hR4 hu => ?_, fun n e4 H4 f4 hq => k2 n ((then_ok e).trans (many_err hi e4 eP)) H4 ((f2.trans f3).trans f4) hq⟩
      have hu : u = V.int c := hu
      subst hu
      have e5 := hR3.lst f4 e3
      refine ⟨_, e5, by rw [List.length_map]; exact Nat.lt_of_le_of_lt (by omega : _ ≤ 100) (by decide), (f3.trans f4).mut hD, cs ++ [c], r2, hR4.mut nD, by rw [List.length_append, lc]; rfl, many_ok hi e4 eP, ?_⟩
      unfold LstI
      rw [upd_same, List.map_append]
      rfl
    · obtain ⟨f3, cs, r, hR3, lc, eP, e3⟩ := q3
      exact k1 cs r ((then_ok e).trans (many_end eP)) _ H3 (f2.trans f3) hR3 ⟨D, rfl, e3⟩
theorem ok_Reader_block (T : Txt K mg)  (c_block_number : Cal P w K mg base 1 "block_number" (sp_block_number K)) (m_Reader_row : MetXD P w K mg base 4 (He.ga K "Reader") "row" (sp_Reader_row K) []) (m1_Reader_row : MetXD P w K mg base 4 (He.ga K "Reader") "row" (sp_Reader_row K) [.int 1]) {f : Addr} {fd : FuncData} (F : FunD K "block" "Reader.block" (defArgs s_Reader_block) (defBody s_Reader_block) (defScope s_Reader_block) [] [] f fd) : FnOk P w K mg base (L2.CX P w) 5 f fd ["self"] (sp_Reader_block K) := by
  refine F.ok sc_Reader_block (fun vs H Q E h => ?_) (fun cdv A outer s H vs Q E hr h => ?_)
  · obtain ⟨_, rfl, _⟩ := h
    rfl
  · have S := sc_Reader_block
    refine ⟨_, (pss_one (ps_ret (pe_c c_block_number hr (by decide) (by rfl) (pa_cons (pe_mtXD0 m1_Reader_row hr (by decide) (takes_of rfl rfl rfl rfl) (pv 0)) pa_nil)))), ?_⟩
    try dsimp only [cxOf, Cx.nox]
    obtain ⟨_, rfl, a, dl, d, p, rfl, hR, k1, k2⟩ := h
    walk_at "go"
    refine ⟨_, _, rfl, 1, rfl, by decide, a, dl, d, p, rfl, hR, fun c q e u H2 f2 hR2 hu => ?_, fun n e H2 f2 hq => k2 n e H2 f2 hq⟩
    obtain ⟨qa, rfl, eq⟩ := hu
    walk_at "go"
    refine ⟨_, rfl, qa, c, rfl, SqL.of eq, ?_⟩
    walk_at "go"
    exact k1 c q e _ H2 f2 hR2 rfl
theorem ok_Reader_entry (T : Txt K mg) (c_Entry : C8.Mak P w K mg base 1 "Entry" (He.ga K "Entry") (sp_Entry___init__ K) [])  (m_Reader_number : MetXD P w K mg base 4 (He.ga K "Reader") "number" (sp_Reader_number K) []) (m1_Reader_number : MetXD P w K mg base 4 (He.ga K "Reader") "number" (sp_Reader_number K) [.int 0]) (m_Reader_name : MetXD P w K mg base 5 (He.ga K "Reader") "name" (sp_Reader_name K) []) (m_Reader_vector : MetXD P w K mg base 5 (He.ga K "Reader") "vector" (sp_Reader_vector K) []) (m_Reader_device : MetXD P w K mg base 4 (He.ga K "Reader") "device" (sp_Reader_device K) []) (m_Reader_byte : MetXD P w K mg base 3 (He.ga K "Reader") "byte" (sp_Reader_byte K) []) (m1_Reader_byte : MetXD P w K mg base 3 (He.ga K "Reader") "byte" (sp_Reader_byte K) [.int 255]) (m2_Reader_byte : MetXD P w K mg base 3 (He.ga K "Reader") "byte" (sp_Reader_byte K) [.int 0, .int 255]) (m_Reader__blocks : MetXD P w K mg base 5 (He.ga K "Reader") "_blocks" (sp_Reader__blocks K) []) {f : Addr} {fd : FuncData} (F : FunD K "entry" "Reader.entry" (defArgs s_Reader_entry) (defBody s_Reader_entry) (defScope s_Reader_entry) [] [] f fd) : FnOk P w K mg base (L2.CX P w) 6 f fd ["self"] (sp_Reader_entry K) := by
  refine F.ok sc_Reader_entry (fun vs H Q E h => ?_) (fun cdv A outer s H vs Q E hr h => ?_)
  · obtain ⟨_, rfl, _⟩ := h
    rfl
  · have S := sc_Reader_entry
    refine ⟨_, (pss_cons (ps_set (i := 1) S.nd rfl (by first | exact .inl rfl | exact .inr rfl) (pe_mtXD m_Reader_number hr (by decide) (takes_of rfl rfl rfl rfl) (pv 0) (pa_cons pe_int pa_nil)))
    (pss_cons (ps_set (i := 2) S.nd rfl (by first | exact .inl rfl | exact .inr rfl) (pe_mtXD0 m_Reader_name hr (by decide) (takes_of rfl rfl rfl rfl) (pv 0)))
    (pss_cons (ps_set (i := 3) S.nd rfl (by first | exact .inl rfl | exact .inr rfl) (pe_mtXD0 m_Reader_vector hr (by decide) (takes_of rfl rfl rfl rfl) (pv 0)))
    (pss_cons (ps_set (i := 4) S.nd rfl (by first | exact .inl rfl | exact .inr rfl) (pe_mtXD m_Reader_number hr (by decide) (takes_of rfl rfl rfl rfl) (pv 0) (pa_cons pe_int pa_nil)))
    (pss_cons (ps_set (i := 5) S.nd rfl (by first | exact .inl rfl | exact .inr rfl) (pe_mtXD0 m_Reader_device hr (by decide) (takes_of rfl rfl rfl rfl) (pv 0)))
    (pss_cons (ps_set (i := 6) S.nd rfl (by first | exact .inl rfl | exact .inr rfl) (pe_mtXD m_Reader_number hr (by decide) (takes_of rfl rfl rfl rfl) (pv 0) (pa_cons pe_int pa_nil)))
    (pss_cons (ps_set (i := 7) S.nd rfl (by first | exact .inl rfl | exact .inr rfl) (pe_cmpR op_eq (pe_mtXD m_Reader_byte hr (by decide) (takes_of rfl rfl rfl rfl) (pv 0) (pa_cons pe_int (pa_cons pe_int pa_nil))) pe_int (nomark _)))
    (pss_cons (ps_set (i := 8) S.nd rfl (by first | exact .inl rfl | exact .inr rfl) (pe_mtXD0 m1_Reader_number hr (by decide) (takes_of rfl rfl rfl rfl) (pv 0)))
    (pss_cons (ps_set (i := 9) S.nd rfl (by first | exact .inl rfl | exact .inr rfl) (pe_mtXD m_Reader__blocks hr (by decide) (takes_of rfl rfl rfl rfl) (pv 0) (pa_cons (pe_ifExp (pt_val (pv 7)) pe_int (C8.pe_gc (by rfl) T.c__MOST_BLOCKS)) pa_nil)))
    (PSs.nox (pss_one (ps_ret (pe_tup (pa_cons (C8.pe_mk c_Entry hr (by decide) (by rfl) (pa_cons (pv 2) (pa_cons (pv 3) (pa_cons (pv 4) (pa_cons (pe_tup (pa_cons (pv 5) (pa_cons (pv 6) pa_nil))) (pa_cons (pv 7) (pa_cons (pv 8) (pa_cons (pv 9) pa_nil)))))))) (pa_cons (pv 1) pa_nil))))))))))))))), ?_⟩
    try dsimp only [cxOf, Cx.nox]
    obtain ⟨_, rfl, a, dl, d, p, rfl, hR, k1, k2⟩ := h
    have hR0 := hR
    walk_at "go"
    refine ⟨_, _, rfl, 1, rfl, by decide, a, dl, d, p, rfl, hR, fun n q1 e1 r1 H1 f1 hR1 hr1 => ?_, fun n9 e H9 f hq => k2 n9 (then_err e) H9 (f) hq⟩
    have hr1 : r1 = V.int n := hr1
    subst hr1
    walk_at "go"
    refine ⟨_, rfl, a, dl, d, q1, rfl, hR1, fun nm q2 e2 r2 H2 f2 hR2 hr2 => ?_, fun n9 e H9 f hq => k2 n9 ((then_ok e1).trans (then_err e)) H9 (f1.trans f) hq⟩
    have hr2 : r2 = V.str nm := hr2
    subst hr2
    walk_at "go"
    refine ⟨_, rfl, a, dl, d, q2, rfl, hR2, fun vc q3 e3 r3 H3 f3 hR3 hr3 => ?_, fun n9 e H9 f hq => k2 n9 ((then_ok e1).trans ((then_ok e2).trans (then_err e))) H9 ((f1.trans f2).trans f) hq⟩
    obtain ⟨va, rfl, hV3⟩ := hr3
    walk_at "go"
    refine ⟨_, _, rfl, 1, rfl, by decide, a, dl, d, q3, rfl, hR3, fun ht q4 e4 r4 H4 f4 hR4 hr4 => ?_, fun n9 e H9 f hq => k2 n9 ((then_ok e1).trans ((then_ok e2).trans ((then_ok e3).trans (then_err e)))) H9 (((f1.trans f2).trans f3).trans f) hq⟩
    have hr4 : r4 = V.int ht := hr4
    subst hr4
    have hV4 := vec_fr hV3 f4 hR3.nt
    walk_at "go"
    refine ⟨_, rfl, a, dl, d, q4, rfl, hR4, fun dv q5 e5 r5 H5 f5 hR5 hr5 => ?_, fun n9 e H9 f hq => k2 n9 ((then_ok e1).trans ((then_ok e2).trans ((then_ok e3).trans ((then_ok e4).trans (then_err e))))) H9 ((((f1.trans f2).trans f3).trans f4).trans f) hq⟩
    have hr5 : r5 = V.int dv := hr5
    subst hr5
    have hV5 := vec_fr hV4 f5 hR4.nt
    walk_at "go"
    refine ⟨_, _, rfl, 1, rfl, by decide, a, dl, d, q5, rfl, hR5, fun mn q6 e6 r6 H6 f6 hR6 hr6 => ?_, fun n9 e H9 f hq => k2 n9 ((then_ok e1).trans ((then_ok e2).trans ((then_ok e3).trans ((then_ok e4).trans ((then_ok e5).trans (then_err e)))))) H9 (((((f1.trans f2).trans f3).trans f4).trans f5).trans f) hq⟩
    have hr6 : r6 = V.int mn := hr6
    subst hr6
    have hV6 := vec_fr hV5 f6 hR5.nt
    walk_at "go"
    refine ⟨_, _, _, rfl, 0, 1, rfl, rfl, a, dl, d, q6, rfl, hR6, fun dlt q7 e7 r7 H7 f7 hR7 hr7 => ?_, fun n9 e H9 f hq => k2 n9 ((then_ok e1).trans ((then_ok e2).trans ((then_ok e3).trans ((then_ok e4).trans ((then_ok e5).trans ((then_ok e6).trans (then_err e))))))) H9 ((((((f1.trans f2).trans f3).trans f4).trans f5).trans f6).trans f) hq⟩
    have hr7 : r7 = V.int dlt := hr7
    subst hr7
    have hV7 := vec_fr hV6 f7 hR6.nt
    have hd := byte_ok e7
    have dq : decide (dlt = 1) = decide (dlt = 1) := rfl
    walk_at "go"
    refine ⟨_, _, rfl, 0, rfl, by decide, a, dl, d, q7, rfl, hR7, fun tm q8 e8 r8 H8 f8 hR8 hr8 => ?_, fun n9 e H9 f hq => k2 n9 ((then_ok e1).trans ((then_ok e2).trans ((then_ok e3).trans ((then_ok e4).trans ((then_ok e5).trans ((then_ok e6).trans ((then_ok e7).trans (then_err e)))))))) H9 (((((((f1.trans f2).trans f3).trans f4).trans f5).trans f6).trans f7).trans f) hq⟩
    have hr8 : r8 = V.int tm := hr8
    subst hr8
    have hV8 := vec_fr hV7 f8 hR7.nt
    walk_at "go"
    refine if_tC ?_
    have hif : (if decide (dlt = 1) = true then (0 : Int) else 255) = if dlt = 1 then 0 else 255 := by by_cases c : dlt = 1 <;> simp [c]
    have hm : (if decide (dlt = 1) = true then (0 : Int) else 255) ≤ 255 := by split <;> decide
    walk_at "go"
    refine ⟨_, _, rfl, _, rfl, hm, a, dl, d, q8, rfl, hR8, fun cs q9 e9 r9 H9 f9 hR9 hr9 => ?_, fun n9 e H9 f hq => k2 n9 ((then_ok e1).trans ((then_ok e2).trans ((then_ok e3).trans ((then_ok e4).trans ((then_ok e5).trans ((then_ok e6).trans ((then_ok e7).trans ((then_ok e8).trans (then_err (by rw [← hif]; exact e)))))))))) H9 ((((((((f1.trans f2).trans f3).trans f4).trans f5).trans f6).trans f7).trans f8).trans f) hq⟩
    have hV9 := vec_fr hV8 f9 hR8.nt
    obtain ⟨vb, rfl, hB9⟩ := hr9
    rw [hif] at e9
    walk_at "go"
    rename_i vm hvm
    have s10 := same_new (o := .tup [.int dv, .int mn]) hvm
    refine e_mkE fun ea Hb dx hea s11 hi11 => ?_
    walk_at "go"
    rename_i q hq
    have s12 := same_new (o := .tup [.ref ea, .int n]) hq
    have s1012 := (s10.trans s11).trans s12
    have hea0 : H ea = none := fr_noneR ((((((((f1.trans f2).trans f3).trans f4).trans f5).trans f6).trans f7).trans f8).trans f9) hR9 (s10.free hea)
    have ent := ent_made (K := K) (H := upd Hb q (.tup [.ref ea, .int n])) (p := false) (a := ea) (v := va) (m := vm) (b := vb) (dx := dx) ⟨nm, vc, ht, (dv, mn), decide (dlt = 1), tm, cs.map bnum⟩ (s12 _ _ hi11) ⟨hV9.same s1012, fun z => nomatch z⟩ (SqT.of (s12 _ _ (s11 _ _ upd_same))) (same_tup s1012 hB9)
    exact k1 _ q9 ((then_ok e1).trans ((then_ok e2).trans ((then_ok e3).trans ((then_ok e4).trans ((then_ok e5).trans ((then_ok e6).trans ((then_ok e7).trans ((then_ok e8).trans ((then_ok e9).trans rfl))))))))) _ _ (((((((((f1.trans f2).trans f3).trans f4).trans f5).trans f6).trans f7).trans f8).trans f9).same s1012) (hR9.same s1012) ⟨q, ea, rfl, SqT.of upd_same, ent, hea0⟩
theorem ok_Reader__blocks (T : Txt K mg)  (m_Reader_byte : MetXD P w K mg base 3 (He.ga K "Reader") "byte" (sp_Reader_byte K) []) (m1_Reader_byte : MetXD P w K mg base 3 (He.ga K "Reader") "byte" (sp_Reader_byte K) [.int 255]) (m2_Reader_byte : MetXD P w K mg base 3 (He.ga K "Reader") "byte" (sp_Reader_byte K) [.int 0, .int 255]) (c_block_number : Cal P w K mg base 1 "block_number" (sp_block_number K)) (m_Reader_row : MetXD P w K mg base 4 (He.ga K "Reader") "row" (sp_Reader_row K) []) (m1_Reader_row : MetXD P w K mg base 4 (He.ga K "Reader") "row" (sp_Reader_row K) [.int 1]) {f : Addr} {fd : FuncData} (F : FunD K "_blocks" "Reader._blocks" (defArgs s_Reader__blocks) (defBody s_Reader__blocks) (defScope s_Reader__blocks) [] [] f fd) : FnOk P w K mg base (L2.CX P w) 5 f fd ["self", "most"] (sp_Reader__blocks K) := by
  refine F.ok sc_Reader__blocks (fun vs H Q E h => ?_) (fun cdv A outer s H vs Q E hr h => ?_)
  · obtain ⟨_, _, rfl, _⟩ := h
    rfl
  · have S := sc_Reader__blocks
    refine ⟨_, (pss_cons (ps_set (i := 2) S.nd rfl (by first | exact .inl rfl | exact .inr rfl) (pe_mtXD m_Reader_byte hr (by decide) (takes_of rfl rfl rfl rfl) (pv 0) (pa_cons pe_int (pa_cons (pv 1) pa_nil))))
    (pss_cons (ps_set (i := 3) S.nd rfl (by first | exact .inl rfl | exact .inr rfl) (pe_lst pa_nil))
    (pss_cons (ps_for (passes_of rfl) rfl (pi_revR (by rfl) T.f_reversed (prg_1 (by rfl) T.f_range (pv 2))) (pg_name (i := 4) S.nd rfl (by first | exact .inl rfl | exact .inr rfl))
    (pss_one (ps_expr (pe_bm PySem.F.plainAttrs_list PySem.F.slot_list_append PySem.F.type_list_append mt_append (pv 3) (pa_cons (pe_c c_block_number hr (by decide) (by rfl) (pa_cons (pe_mtXD m_Reader_row hr (by decide) (takes_of rfl rfl rfl rfl) (pv 0) (pa_cons (pe_ifExp (pt_cmpR op_gt (pv 4) pe_int (nomark _)) (C8.pe_gc (by rfl) T.c_BLOCK) pe_int) pa_nil)) pa_nil)) pa_nil)))))
    (PSs.nox (pss_one (ps_ret (pe_callTy call_tuple_of (by rfl) T.f_tuple (by first | rfl | decide +kernel) (pa_cons (pv 3) pa_nil)))))))), ?_⟩
    try dsimp only [cxOf, Cx.nox]
    obtain ⟨_, _, rfl, m, rfl, hm, a, dl, d, p, rfl, hR, k1, k2⟩ := h
    walk_at "go"
    refine ⟨_, _, _, rfl, 0, m, rfl, rfl, a, dl, d, p, rfl, hR, fun v q e r H2 f2 hR2 hr => ?_, fun n e => k2 n (then_err e)⟩
    have hr : r = V.int v := hr
    subst hr
    have hb := byte_ok e
    walk_at "go"
    rename_i D hD
    have nD := hR2.free hD
    refine ⟨by decide, by decide, by omega, by omega, ?_⟩
    have nl : (v - 0).toNat = v.toNat := by omega
    rw [nl]
    refine for_it walk_rangeC (fun i σ H1 => ∃ (v4 : Option V) (cs : List (List Int)) (r : Nat), σ = [some (.ref a), some (.int m), some (.int v), some (.ref D), v4] ∧ Fr [a] H2 H1 ∧ Rd K H1 a dl d r ∧ LstI H1 D (cs.map bnum) ∧ cs.length = i ∧ pBlkL v.toNat d q = mapP (cs ++ ·) (pBlkL (v.toNat - i) d r)) ⟨_, [], q, rfl, Fr.of (same_new hD), hR2.same (same_new hD), upd_same, rfl, blk_start _ _ _⟩ (fun _ _ _ _ _ => trivial) (fun i x σ H1 H' hi q3 y => ?_) (fun σ H1 q3 => ?_)
    · obtain ⟨rfl, rfl⟩ := y
      obtain ⟨v4, cs, r, rfl, f1, hR1, eD, lc, eP⟩ := q3
      have fin : ∀ c r2, pRow (if 0 < v.toNat - (i + 1) then 4 else 1) d r = .ok (c, r2) → ∀ H3, Fr [a] H' H3 → Rd K H3 a dl d r2 → ∀ H4, Fr [D] H3 H4 → LstI H4 D (cs.map bnum ++ [bnum c]) → ∀ v4 : Option V, ∃ (u4 : Option V) (cs' : List (List Int)) (r' : Nat), [some (.ref a), some (.int m), some (.int v), some (.ref D), v4] = [some (.ref a), some (.int m), some (.int v), some (.ref D), u4] ∧ Fr [a] H2 H4 ∧ Rd K H4 a dl d r' ∧ LstI H4 D (cs'.map bnum) ∧ cs'.length = i + 1 ∧ pBlkL v.toNat d q = mapP (cs' ++ ·) (pBlkL (v.toNat - (i + 1)) d r') := fun c r2 e2 H3 f3 hR3 H4 f4 e4 v4 => by
        refine ⟨_, cs ++ [c], r2, rfl, fun b o nb eb => f4 b o (fun z => by rw [List.mem_singleton.mp z, hD] at eb; cases eb) (f3 b o nb (f1 b o nb eb)), ?_, by rw [List.map_append]; exact e4, by rw [List.length_append, lc]; rfl, blk_ok hi e2 eP⟩
        obtain ⟨dx, fs, x⟩ := hR3
        exact ⟨dx, fs, f4 _ _ (fun z => nD.1 (List.mem_singleton.mp z).symm) x.ins, x.len, x.l1, x.l2, x.l0, f4 _ _ (fun z => nD.2 (List.mem_singleton.mp z).symm) x.g⟩
      walk_at "go"
      refine i_d (fun h => ?_) (fun h => ?_)
      · have hif : (if 0 < v.toNat - (i + 1) then (4 : Int) else 1) = 4 := if_pos (by omega)
        walk_at "go"
        refine ⟨_, _, rfl, 4, rfl, by decide, a, dl, d, r, rfl, hR1, fun c r2 e2 u H3 f3 hR3 hu => ?_, fun n e2 H3 f3 hq => k2 n ((then_ok e).trans (blk_err hi ((congrArg (fun z => pRow z d r) hif).trans e2) eP)) H3 ((f2.trans f1).trans f3) hq⟩
        obtain ⟨qa, rfl, eq⟩ := hu
        have eD3 : LstI H3 D _ := hR1.lst f3 eD
        walk_at "go"
        refine ⟨_, rfl, qa, c, rfl, SqL.of eq, ?_⟩
        walk_at "go"
        refine e_appI eD3 (by rw [List.length_map]; omega) fun H4 f4 e4 => ?_
        exact fin c r2 ((congrArg (fun z => pRow z d r) hif).trans e2) H3 f3 hR3 H4 f4 e4 _
      · have hif : (if 0 < v.toNat - (i + 1) then (4 : Int) else 1) = 1 := if_neg (by omega)
        walk_at "go"
        refine ⟨_, _, rfl, 1, rfl, by decide, a, dl, d, r, rfl, hR1, fun c r2 e2 u H3 f3 hR3 hu => ?_, fun n e2 H3 f3 hq => k2 n ((then_ok e).trans (blk_err hi ((congrArg (fun z => pRow z d r) hif).trans e2) eP)) H3 ((f2.trans f1).trans f3) hq⟩
        obtain ⟨qa, rfl, eq⟩ := hu
        have eD3 : LstI H3 D _ := hR1.lst f3 eD
        walk_at "go"
        refine ⟨_, rfl, qa, c, rfl, SqL.of eq, ?_⟩
        walk_at "go"
        refine e_appI eD3 (by rw [List.length_map]; omega) fun H4 f4 e4 => ?_
        exact fin c r2 ((congrArg (fun z => pRow z d r) hif).trans e2) H3 f3 hR3 H4 f4 e4 _
    · obtain ⟨v4, cs, r, rfl, f1, hR1, eD, lc, eP⟩ := q3
      walk_at "go"
      refine ⟨D, _, rfl, .inl ⟨SqL.of eD, fun l hl => ?_⟩⟩
      have s5 := same_new (o := .tup ((cs.map bnum).map V.int)) hl
      exact k1 cs r ((then_ok e).trans (blk_end eP)) _ _ ((f2.trans f1).same s5) (hR1.same s5) ⟨l, rfl, SqT.of upd_same⟩
theorem ok_encode (T : Txt K mg)  (c_number_bytes : Cal P w K mg base 1 "number_bytes" (sp_number_bytes K)) (c_entries_bytes : Cal P w K mg base 4 "_entries_bytes" (sp_entries_bytes K)) (c_name_bytes : Cal P w K mg base 1 "name_bytes" (sp_name_bytes K)) (c_row_bytes : Cal P w K mg base 1 "row_bytes" (sp_row_bytes K)) (c_block_bytes : Cal P w K mg base 2 "block_bytes" (sp_block_bytes K)) {f : Addr} {fd : FuncData} (F : FnP K "encode" s_encode f fd) : FnOk P w K mg base CX0 5 f fd ["letter"] (sp_encode K) := by
  refine F.ok sc_encode (fun vs H Q E h => ?_) (fun cdv A outer s H vs Q E hr h => ?_)
  · obtain ⟨_, rfl, _⟩ := h
    rfl
  · have S := sc_encode
    refine ⟨_, PSs.nox (pss_cons (ps_set (i := 1) S.nd rfl (by first | exact .inl rfl | exact .inr rfl) (pe_ix ix_tup (pv 0) pe_int (fun _ _ => rfl)))
    (pss_cons (ps_if (pt_cmpR op_eq (pv 1) pe_str (nomark _))
    (pss_one (ps_ret (pe_lst (pa_cons (C8.pe_gc (by rfl) T.c__HELLO) (pa_cons (pe_ix ix_tup (pv 0) pe_int (fun _ _ => rfl)) pa_nil)))))
    pss_nil)
    (pss_cons (ps_if (pt_cmpR op_eq (pv 1) pe_str (nomark _))
    (pss_one (ps_ret (pe_op op_cat (pe_lst (pa_cons (C8.pe_gc (by rfl) T.c__ASK) pa_nil)) (pe_c c_number_bytes hr (by decide) (by rfl) (pa_cons (pe_ix ix_tup (pv 0) pe_int (fun _ _ => rfl)) pa_nil)))))
    pss_nil)
    (pss_cons (ps_if (pt_cmpR op_eq (pv 1) pe_str (nomark _))
    (pss_one (ps_ret (pe_c c_entries_bytes hr (by decide) (by rfl) (pa_cons (pv 0) pa_nil))))
    pss_nil)
    (pss_cons (ps_if (pt_cmpR op_eq (pv 1) pe_str (nomark _))
    (pss_cons (ps_asg (pv 0) (pg_tup rfl (pgs_cons (pg_name (i := 2) S.nd rfl (by first | exact .inl rfl | exact .inr rfl)) (pgs_cons (pg_name (i := 3) S.nd rfl (by first | exact .inl rfl | exact .inr rfl)) (pgs_cons (pg_name (i := 4) S.nd rfl (by first | exact .inl rfl | exact .inr rfl)) (pgs_cons (pg_name (i := 5) S.nd rfl (by first | exact .inl rfl | exact .inr rfl)) pgs_nil))))))
      (pss_one (ps_ret (pe_op op_cat (pe_op op_cat (pe_op op_cat (pe_lst (pa_cons (C8.pe_gc (by rfl) T.c__REQUEST) pa_nil)) (pe_c c_name_bytes hr (by decide) (by rfl) (pa_cons (pv 3) pa_nil))) (pe_lst (pa_cons (pv 4) pa_nil))) (pe_c c_row_bytes hr (by decide) (by rfl) (pa_cons (pe_c c_block_bytes hr (by decide) (by rfl) (pa_cons (pv 5) pa_nil)) pa_nil))))))
    pss_nil)
    (pss_cons (ps_if (pt_cmpR op_eq (pv 1) pe_str (nomark _))
    (pss_cons (ps_asg (pv 0) (pg_tup rfl (pgs_cons (pg_name (i := 2) S.nd rfl (by first | exact .inl rfl | exact .inr rfl)) (pgs_cons (pg_name (i := 5) S.nd rfl (by first | exact .inl rfl | exact .inr rfl)) (pgs_cons (pg_name (i := 6) S.nd rfl (by first | exact .inl rfl | exact .inr rfl)) pgs_nil)))))
      (pss_one (ps_ret (pe_op op_cat (pe_op op_cat (pe_lst (pa_cons (C8.pe_gc (by rfl) T.c__BLOCK) pa_nil)) (pe_c c_row_bytes hr (by decide) (by rfl) (pa_cons (pe_c c_block_bytes hr (by decide) (by rfl) (pa_cons (pv 5) pa_nil)) pa_nil))) (pe_c c_row_bytes hr (by decide) (by rfl) (pa_cons (pv 6) pa_nil))))))
    pss_nil)
    (pss_one (ps_ret (pe_op op_cat (pe_lst (pa_cons (C8.pe_gc (by rfl) T.c__REFUSED) pa_nil)) (pe_c c_row_bytes hr (by decide) (by rfl) (pa_cons (pe_c c_block_bytes hr (by decide) (by rfl) (pa_cons (pe_ix ix_tup (pv 0) pe_int (fun _ _ => rfl)) pa_nil)) pa_nil))))))))))), ?_⟩
    try dsimp only [cxOf, Cx.nox]
    obtain ⟨_, rfl, q, t, rfl, hT, hO, hl, k⟩ := h
    cases t with
    | hello d =>
      have hT : SqT K H q [.str "hello", .int d] := hT
      walk_at "go"
      refine e_ixT hT rfl ?_
      walk_at "go"
      refine i_d (fun _ => ?_) (fun z => absurd rfl z)
      walk_at "go"
      refine e_ixT hT rfl ?_
      walk_at "go"
      rename_i p hp
      exact k p _ hp (same_new hp) upd_same
    | ask n =>
      have hT : SqT K H q [.str "ask", .int n] := hT
      walk_at "go"
      refine e_ixT hT rfl ?_
      walk_at "go"
      refine i_d (fun z => absurd z (by decide +kernel)) (fun _ => ?_)
      walk_at "go"
      refine i_d (fun _ => ?_) (fun z => absurd rfl z)
      walk_at "go"
      rename_i p hp
      have s1 := same_new (o := .lst [.int 2]) hp
      refine e_ixT (same_tup s1 hT) rfl ?_
      walk_at "go"
      refine ⟨_, rfl, n, rfl, fun r2 H2 hr2 s2 e2 => ?_⟩
      refine e_catI (xs := [2]) (s2 _ _ upd_same) e2 (by rw [wd_len]; decide) fun r3 H3 hr3 s3 e3 => ?_
      exact k r3 H3 ((s1.trans s2).free hr3) ((s1.trans s2).trans s3) e3
    | ents b u es =>
      obtain ⟨pr, ps, h1, h2, h3⟩ := id hT
      walk_at "go"
      refine e_ixT h1 rfl ?_
      walk_at "go"
      refine i_d (fun z => absurd z (by decide +kernel)) (fun _ => ?_)
      walk_at "go"
      refine i_d (fun z => absurd z (by decide +kernel)) (fun _ => ?_)
      walk_at "go"
      refine i_d (fun _ => ?_) (fun z => absurd rfl z)
      walk_at "go"
      exact ⟨_, rfl, q, b, u, es, rfl, hT, hO, hl, k⟩
    | req z i c =>
      have hT : SqT K H q [.str "request", .str z, .int i, .int (bnum c)] := hT
      obtain ⟨o1, o2, o3⟩ := hO
      have hz2 := o1.2.1
      have hcb := bbytes_bnum o3
      have hcs : 0 < bsize (bnum c) := by rw [bsize_bnum o3]; have := o3.h1; omega
      have h4 := o3.h4
      walk_at "go"
      refine e_ixT hT rfl ?_
      walk_at "go"
      refine i_d (fun z => absurd z (by decide +kernel)) (fun _ => ?_)
      walk_at "go"
      refine i_d (fun z => absurd z (by decide +kernel)) (fun _ => ?_)
      walk_at "go"
      refine i_d (fun z => absurd z (by decide +kernel)) (fun _ => ?_)
      walk_at "go"
      refine i_d (fun _ => ?_) (fun z => absurd rfl z)
      walk_at "go"
      rename_i p hp
      have s1 := same_new (o := .lst [.int 4]) hp
      refine ⟨_, rfl, z, rfl, by omega, fun r2 H2 hr2 s2 e2 => ?_⟩
      have ln : (nmB z).length ≤ 41 := by unfold nmB; rw [List.length_cons, List.length_map, len_tl]; omega
      refine e_catI (xs := [4]) (s2 _ _ upd_same) e2 (by show 1 + _ ≤ _; omega) fun r3 H3 hr3 s3 e3 => ?_
      walk_at "go"
      rename_i r4 hr4
      have s4 := same_new (o := .lst [.int i]) hr4
      refine e_catI (ys := [i]) (s4 _ _ e3) upd_same (by rw [List.length_append]; show 1 + _ + 1 ≤ _; omega) fun r5 H5 hr5 s5 e5 => ?_
      walk_at "go"
      refine ⟨_, rfl, bnum c, rfl, hcs, fun r6 H6 hr6 s6 e6 => ?_⟩
      rw [hcb] at e6
      walk_at "go"
      refine ⟨_, rfl, r6, c, rfl, .inl (SqL.of e6), by omega, fun r7 H7 hr7 s7 e7 => ?_⟩
      have s17 := (((s1.trans s2).trans (s3.trans s4)).trans ((s5.trans s6).trans s7))
      refine e_catI (s7 _ _ (s6 _ _ e5)) e7 (by simp only [List.length_append, List.length_cons, List.length_nil]; omega) fun r8 H8 hr8 s8 e8 => ?_
      refine k r8 H8 (s17.free hr8) (s17.trans s8) ?_
      have ee : Lt.B (.req z i c) = [4] ++ nmB z ++ [i] ++ ((c.length : Int) :: c) := by show 4 :: (nmB z ++ ([i] ++ rwB c)) = _; unfold rwB; simp
      rw [ee]; exact e8
    | block c w =>
      obtain ⟨dt, hT, hW⟩ := hT
      obtain ⟨o3, o4⟩ := hO
      have hcb := bbytes_bnum o3
      have hcs : 0 < bsize (bnum c) := by rw [bsize_bnum o3]; have := o3.h1; omega
      have h4 := o3.h4
      have h5 := o4.h4
      walk_at "go"
      refine e_ixT hT rfl ?_
      walk_at "go"
      refine i_d (fun z => absurd z (by decide +kernel)) (fun _ => ?_)
      walk_at "go"
      refine i_d (fun z => absurd z (by decide +kernel)) (fun _ => ?_)
      walk_at "go"
      refine i_d (fun z => absurd z (by decide +kernel)) (fun _ => ?_)
      walk_at "go"
      refine i_d (fun z => absurd z (by decide +kernel)) (fun _ => ?_)
      walk_at "go"
      refine i_d (fun _ => ?_) (fun z => absurd rfl z)
      walk_at "go"
      rename_i p hp
      have s1 := same_new (o := .lst [.int 5]) hp
      refine ⟨_, rfl, bnum c, rfl, hcs, fun r2 H2 hr2 s2 e2 => ?_⟩
      rw [hcb] at e2
      walk_at "go"
      refine ⟨_, rfl, r2, c, rfl, .inl (SqL.of e2), by omega, fun r3 H3 hr3 s3 e3 => ?_⟩
      refine e_catI (xs := [5]) (s3 _ _ (s2 _ _ upd_same)) e3 (by show 1 + (c.length + 1) ≤ _; omega) fun r4 H4 hr4 s4 e4 => ?_
      have s14 := ((s1.trans s2).trans s3).trans s4
      walk_at "go"
      refine ⟨_, rfl, dt, w, rfl, .inr (same_tup s14 hW), by omega, fun r5 H5 hr5 s5 e5 => ?_⟩
      refine e_catI (s5 _ _ e4) e5 (by simp only [List.length_append, List.length_cons, List.length_nil]; omega) fun r6 H6 hr6 s6 e6 => ?_
      refine k r6 H6 ((s14.trans s5).free hr6) ((s14.trans s5).trans s6) ?_
      have ee : Lt.B (.block c w) = [5] ++ ((c.length : Int) :: c) ++ ((w.length : Int) :: w) := by show 5 :: (rwB c ++ rwB w) = _; unfold rwB; simp
      rw [ee]; exact e6
    | refd c =>
      have hT : SqT K H q [.str "refused", .int (bnum c)] := hT
      have o3 : Piece c := hO
      have hcb := bbytes_bnum o3
      have hcs : 0 < bsize (bnum c) := by rw [bsize_bnum o3]; have := o3.h1; omega
      have h4 := o3.h4
      walk_at "go"
      refine e_ixT hT rfl ?_
      walk_at "go"
      refine i_d (fun z => absurd z (by decide +kernel)) (fun _ => ?_)
      walk_at "go"
      refine i_d (fun z => absurd z (by decide +kernel)) (fun _ => ?_)
      walk_at "go"
      refine i_d (fun z => absurd z (by decide +kernel)) (fun _ => ?_)
      walk_at "go"
      refine i_d (fun z => absurd z (by decide +kernel)) (fun _ => ?_)
      walk_at "go"
      refine i_d (fun z => absurd z (by decide +kernel)) (fun _ => ?_)
      walk_at "go"
      rename_i p hp
      have s1 := same_new (o := .lst [.int 6]) hp
      refine e_ixT (same_tup s1 hT) rfl ?_
      walk_at "go"
      refine ⟨_, rfl, bnum c, rfl, hcs, fun r2 H2 hr2 s2 e2 => ?_⟩
      rw [hcb] at e2
      walk_at "go"
      refine ⟨_, rfl, r2, c, rfl, .inl (SqL.of e2), by omega, fun r3 H3 hr3 s3 e3 => ?_⟩
      refine e_catI (xs := [6]) (s3 _ _ (s2 _ _ upd_same)) e3 (by show 1 + (c.length + 1) ≤ _; omega) fun r4 H4 hr4 s4 e4 => ?_
      exact k r4 H4 (((s1.trans s2).trans s3).free hr4) (((s1.trans s2).trans s3).trans s4) e4
theorem ok_entries_bytes (T : Txt K mg)  (c_number_bytes : Cal P w K mg base 1 "number_bytes" (sp_number_bytes K)) (c_entry_bytes : Cal P w K mg base 3 "entry_bytes" (sp_entry_bytes K)) {f : Addr} {fd : FuncData} (F : FnP K "_entries_bytes" s_entries_bytes f fd) : FnOk P w K mg base CX0 4 f fd ["letter"] (sp_entries_bytes K) := by
  refine F.ok sc_entries_bytes (fun vs H Q E h => ?_) (fun cdv A outer s H vs Q E hr h => ?_)
  · obtain ⟨_, rfl, _⟩ := h
    rfl
  · have S := sc_entries_bytes
    refine ⟨_, PSs.nox (pss_cons (ps_asg (pv 0) (pg_tup rfl (pgs_cons (pg_name (i := 1) S.nd rfl (by first | exact .inl rfl | exact .inr rfl)) (pgs_cons (pg_name (i := 2) S.nd rfl (by first | exact .inl rfl | exact .inr rfl)) (pgs_cons (pg_name (i := 3) S.nd rfl (by first | exact .inl rfl | exact .inr rfl)) (pgs_cons (pg_name (i := 4) S.nd rfl (by first | exact .inl rfl | exact .inr rfl)) pgs_nil))))))
    (pss_cons (ps_set (i := 5) S.nd rfl (by first | exact .inl rfl | exact .inr rfl) (pe_op op_cat (pe_op op_cat (pe_lst (pa_cons (C8.pe_gc (by rfl) T.c__ENTRIES) pa_nil)) (pe_c c_number_bytes hr (by decide) (by rfl) (pa_cons (pv 2) pa_nil))) (pe_c c_number_bytes hr (by decide) (by rfl) (pa_cons (pv 3) pa_nil))))
    (pss_cons (ps_expr (pe_bm PySem.F.plainAttrs_list PySem.F.slot_list_extend PySem.F.type_list_extend mt_extend (pv 5) (pa_cons (pe_lst (pa_cons (pe_op op_fdivW (pe_callB call_len_seq (by rfl) T.f_len (by first | rfl | decide +kernel) (pa_cons (pv 4) pa_nil)) pe_int) (pa_cons (pe_op op_mod (pe_callB call_len_seq (by rfl) T.f_len (by first | rfl | decide +kernel) (pa_cons (pv 4) pa_nil)) pe_int) pa_nil))) pa_nil)))
    (pss_cons (ps_for PassesOwn.never rfl (pi_tup (pv 4)) (pg_tup rfl (pgs_cons (pg_name (i := 6) S.nd rfl (by first | exact .inl rfl | exact .inr rfl)) (pgs_cons (pg_name (i := 7) S.nd rfl (by first | exact .inl rfl | exact .inr rfl)) pgs_nil)))
    (pss_one (ps_expr (pe_bm PySem.F.plainAttrs_list PySem.F.slot_list_extend PySem.F.type_list_extend mt_extend (pv 5) (pa_cons (pe_c c_entry_bytes hr (by decide) (by rfl) (pa_cons (pv 6) (pa_cons (pv 7) pa_nil))) pa_nil)))))
    (pss_one (ps_ret (pv 5))))))), ?_⟩
    try dsimp only [cxOf, Cx.nox]
    obtain ⟨_, rfl, q, b, u, es, rfl, hT, hO, hl, k⟩ := h
    obtain ⟨pr, ps, h1, h2, h3⟩ := id hT
    obtain ⟨o1, o2, o3, o4⟩ := hO
    have lp := paired_len h3
    walk_at "go"
    rename_i r1 hr1
    have s1 := same_new (o := .lst [.int 3]) hr1
    refine ⟨_, rfl, b, rfl, fun r2 H2 hr2 s2 e2 => ?_⟩
    refine e_catI (xs := [3]) (s2 _ _ upd_same) e2 (by rw [wd_len]; decide) fun r3 H3 hr3 s3 e3 => ?_
    walk_at "go"
    refine ⟨_, rfl, u, rfl, fun r4 H4 hr4 s4 e4 => ?_⟩
    refine e_catI (s4 _ _ e3) e4 (by rw [List.length_append, wd_len, wd_len]; decide) fun r5 H5 hr5 s5 e5 => ?_
    have s15 := ((s1.trans s2).trans (s3.trans s4)).trans s5
    have n5 : H r5 = none := ((s1.trans s2).trans (s3.trans s4)).free hr5
    have h2' := same_tup s15 h2
    clear s1 s2 s3 s4 s5 e2 e3 e4 hr1 hr2 hr3 hr4
    walk_at "go"
    rename_i r6 hr6
    have s6 := same_new (o := .lst [.int (((ps.map V.ref).length : Nat) / 256 : Int), .int (((ps.map V.ref).length : Nat) % 256 : Int)]) hr6
    refine e_extI (ys := [((ps.map V.ref).length : Int) / 256, ((ps.map V.ref).length : Int) % 256]) (s6 _ _ e5) upd_same (by simp only [List.length_append, wd_len, List.length_cons, List.length_nil]; omega) fun H7 f7 e7 => ?_
    have s7 := same_fr (s15.trans s6) n5 f7
    rw [List.length_map, lp] at e7
    have ee : Lt.B (.ents b u es) = ([3] ++ wd b 4 ++ wd u 4 ++ [(es.length : Int) / 256, (es.length : Int) % 256]) ++ esB es := by
      show 3 :: (wd b 4 ++ (wd u 4 ++ ([(es.length : Int) / 256, (es.length : Int) % 256] ++ esB es))) = _
      simp
    have lx : ([3] ++ wd b 4 ++ wd u 4 ++ [(es.length : Int) / 256, (es.length : Int) % 256]).length = 11 := by simp only [List.length_append, wd_len, List.length_cons, List.length_nil]
    rw [ee, List.length_append] at hl
    rw [ee] at k
    generalize [3] ++ wd b 4 ++ wd u 4 ++ [(es.length : Int) / 256, (es.length : Int) % 256] = X at e7 lx hl k
    have h2b := same_tup s7 h2
    clear e5 s15 s6 f7 h2'
    walk_at "go"
    refine for_tup (K := K) (xs := ps.map V.ref) (fun i σ H1 => (∃ v6 v7, σ = [some (.ref q), some (.str "entries"), some (.int b), some (.int u), some (.ref pr), some (.ref r5), v6, v7]) ∧ Same H H1 ∧ LstI H1 r5 (X ++ esB (es.take i))) ⟨⟨_, _, rfl⟩, s7, by simpa [esB] using e7⟩ (fun i σ H1 _ q => same_tup q.2.1 h2) (fun i x σ H1 hx q => ?_) (fun σ H1 q => ?_)
    · obtain ⟨⟨v6, v7, rfl⟩, s8, e8⟩ := q
      rw [List.getElem?_map] at hx
      obtain ⟨p, hp, rfl⟩ := Option.map_eq_some_iff.mp hx
      obtain ⟨x, hx, ea, hT1, hE⟩ := paired_get h3 i p hp
      have hx4 := o4 x (List.mem_of_getElem? hx)
      have hT2 := same_tup s8 hT1
      have hE2 := hE.same s8
      have lt := esB_take es i
      have le := okE_len hx4
      walk_at "go"
      refine ⟨_, _, rfl, ea, false, x.1, x.2.1, rfl, rfl, hE2, hx4.nm.2.1, hx4.vc.2.1, okE_b hx4, fun r9 H9 hr9 s9 e9 => ?_⟩
      walk_at "go"
      refine e_extJ (s9 _ _ e8) e9 (by rw [List.length_append]; omega) fun H10 f10 e10 => ?_
      refine ⟨⟨_, _, rfl⟩, same_fr (s8.trans s9) n5 f10, ?_⟩
      rw [esB_step hx, ← List.append_assoc]
      exact e10
    · obtain ⟨⟨v6, v7, rfl⟩, s8, e8⟩ := q
      rw [List.length_map, lp, List.take_length] at e8
      walk_at "go"
      exact k r5 H1 n5 s8 e8
theorem ok_decode (T : Txt K mg) (c_Reader : C8.Mak P w K mg base 1 "Reader" (He.ga K "Reader") (sp_Reader___init__ K) []) (cd_Reader : C8.Mak P w K mg base 1 "Reader" (He.ga K "Reader") (sp_Reader___init__ K) [.int 0])  (c_next_letter : CalX P w K mg base 8 "_next_letter" (sp_next_letter K)) {f : Addr} {fd : FuncData} (F : FnP K "decode" s_decode f fd) : FnOk P w K mg base (L2.CX P w) 9 f fd ["data"] (sp_decode K) := by
  refine F.ok sc_decode (fun vs H Q E h => ?_) (fun cdv A outer s H vs Q E hr h => ?_)
  · obtain ⟨_, rfl, _⟩ := h
    rfl
  · have S := sc_decode
    refine ⟨_, (pss_cons (ps_set (i := 1) S.nd rfl (by first | exact .inl rfl | exact .inr rfl) (C8.pe_mk cd_Reader hr (by decide) (by rfl) (pa_cons (pv 0) pa_nil)))
    (pss_cons (ps_set (i := 2) S.nd rfl (by first | exact .inl rfl | exact .inr rfl) (pe_cX c_next_letter hr (by decide) (takes_of rfl rfl rfl rfl) (by rfl) (pa_cons (pv 1) pa_nil)))
    (pss_cons (ps_if (pt_cmpR op_lt (pe_fld (pv 1) rfl) (pe_callB call_len_seq (by rfl) T.f_len (by first | rfl | decide +kernel) (pa_cons (pv 0) pa_nil)) (nomark _))
    (pss_one (ps_raiseErr rfl T.er_InvalidBytes.er hr (takes_of rfl rfl rfl rfl) (pa_cons (pe_fld (pv 1) rfl) pa_nil)))
    pss_nil)
    (PSs.nox (pss_one (ps_ret (pv 2))))))), ?_⟩
    try dsimp only [cxOf, Cx.nox]
    obtain ⟨_, rfl, l, d, rfl, hl, k1, k2⟩ := h
    have rt0 : RDT K := ⟨T.cl_Reader, T.no_Reader__data, T.no_Reader_at⟩
    walk_at "go"
    refine e_mkRd hl fun a dl H1 s1 na hR => ?_
    walk_at "go"
    refine ⟨_, rfl, a, dl, d, 0, rfl, hR, fun t q1 e1 r1 H2 f2 hR2 hr1 => ?_, fun n e H2 f2 hq => k2 n (by unfold pDec; rw [e]) H2 (same_fr s1 na f2)⟩
    obtain ⟨q, rfl, hL⟩ := hr1
    have hL := hL a rfl
    have s2 := same_fr s1 na f2
    obtain ⟨dx, fs, x⟩ := id hR2
    walk_at "go"
    refine ⟨l, _, rfl, .inl (SqL.of (s2 _ _ hl)), ?_⟩
    rw [List.length_map]
    walk_at "go"
    refine i_d (fun h => ?_) (fun h => ?_)
    · walk_at "go"
      exact ⟨_, rfl, k2 q1 (by unfold pDec; rw [e1]; exact if_pos (by omega)) H2 s2⟩
    · walk_at "go"
      exact k1 t (by unfold pDec; rw [e1]; exact if_neg (by omega)) q H2 s2 hL.weak
theorem ok_decode_all (T : Txt K mg) (c_Reader : C8.Mak P w K mg base 1 "Reader" (He.ga K "Reader") (sp_Reader___init__ K) []) (cd_Reader : C8.Mak P w K mg base 1 "Reader" (He.ga K "Reader") (sp_Reader___init__ K) [.int 0])  (c_next_letter : CalX P w K mg base 8 "_next_letter" (sp_next_letter K)) {f : Addr} {fd : FuncData} (F : FnP K "decode_all" s_decode_all f fd) : FnOk P w K mg base (L2.CX P w) 9 f fd ["data"] (sp_decode_all K) := by
  refine F.ok sc_decode_all (fun vs H Q E h => ?_) (fun cdv A outer s H vs Q E hr h => ?_)
  · obtain ⟨_, rfl, _⟩ := h
    rfl
  · have S := sc_decode_all
    refine ⟨_, (pss_cons (ps_set (i := 1) S.nd rfl (by first | exact .inl rfl | exact .inr rfl) (C8.pe_mk cd_Reader hr (by decide) (by rfl) (pa_cons (pv 0) pa_nil)))
    (pss_cons (ps_set (i := 2) S.nd rfl (by first | exact .inl rfl | exact .inr rfl) (pe_lst pa_nil))
    (pss_cons (ps_while (passes_of rfl) (pt_cmpR op_lt (pe_fld (pv 1) rfl) (pe_callB call_len_seq (by rfl) T.f_len (by first | rfl | decide +kernel) (pa_cons (pv 0) pa_nil)) (nomark _))
    (pss_one (ps_expr (pe_bm PySem.F.plainAttrs_list PySem.F.slot_list_append PySem.F.type_list_append mt_append (pv 2) (pa_cons (pe_cX c_next_letter hr (by decide) (takes_of rfl rfl rfl rfl) (by rfl) (pa_cons (pv 1) pa_nil)) pa_nil)))))
    (PSs.nox (pss_one (ps_ret (pv 2))))))), ?_⟩
    try dsimp only [cxOf, Cx.nox]
    obtain ⟨_, rfl, l, d, rfl, hl, hn, k1, k2⟩ := h
    have rt0 : RDT K := ⟨T.cl_Reader, T.no_Reader__data, T.no_Reader_at⟩
    walk_at "go"
    refine e_mkRd hl fun a dl H1 s1 na hR => ?_
    walk_at "go"
    rename_i D hD
    have nD := hR.free hD
    refine e_tWhile ⟨DaW K l a dl D d H1, ⟨_, 0, [], [], d.length + 1, rfl, Nat.zero_le _, Nat.le_refl _, Nat.le_refl _, all_start d, rfl, Fr.of (same_new hD), hR.same (same_new hD), upd_same, .nil⟩, fun m σ H2 q => ?_⟩
    obtain ⟨p, ts, qs, k, rfl, hp, hk, lt, eP, rfl, f2, hR2, eD, hP⟩ := q
    have s2 := same_fr s1 na f2
    obtain ⟨dx, fs, x⟩ := id hR2
    obtain ⟨k, rfl⟩ : ∃ j, k = j + 1 := ⟨k - 1, by omega⟩
    walk_at "go"
    refine ⟨l, _, rfl, .inl (SqL.of (s2 _ _ hl)), ?_⟩
    rw [List.length_map]
    walk_at "go"
    refine i_d (fun h => ?_) (fun h => ?_)
    · refine ⟨fun σ' H' => ∃ m', m' < d.length - p ∧ DaW K l a dl D d H1 m' σ' H', fun σ' H' q => q, ?_⟩
      have hlt : p < d.length := by omega
      walk_at "go"
      refine ⟨_, rfl, a, dl, d, p, rfl, hR2, fun t q e r H3 f3 hR3 hr => ?_, fun n e H3 f3 hq => k2 n (all_err hlt e eP) H3 (same_fr s1 na (f2.trans f3))⟩
      obtain ⟨ta, rfl, hL⟩ := hr
      have hL := hL a rfl
      have hadv := let_adv e hp
      have eD3 := hR2.lst f3 eD
      walk_at "go"
      refine e_app eD3 (by rw [List.length_map, paired_len hP]; exact Nat.lt_of_le_of_lt (by omega : _ ≤ 1000000) (by decide)) ?_
      refine ⟨d.length - q, by omega, q, ts ++ [t], qs ++ [ta], k, rfl, hadv.2, by omega, by rw [List.length_append, List.length_singleton]; omega, all_ok hlt e eP, rfl, (f2.trans f3).mut hD, hR3.mut nD, by rw [upd_same, List.map_append]; rfl, ?_⟩
      exact paired_snoc (paired_imp (fun _ _ z => LtH.frLA (LtH.frA z f3 hR2.nt) fr_put eD3) hP) (LtH.frLA hL fr_put eD3)
    · walk_at "go"
      exact k1 ts p (all_fin (by omega) eP) D qs H2 s2 eD (paired_imp (fun _ _ z => LtH.weak z) hP)
theorem ok_next_letter (T : Txt K mg)  (m_Reader_byte : MetXD P w K mg base 3 (He.ga K "Reader") "byte" (sp_Reader_byte K) []) (m1_Reader_byte : MetXD P w K mg base 3 (He.ga K "Reader") "byte" (sp_Reader_byte K) [.int 255]) (m2_Reader_byte : MetXD P w K mg base 3 (He.ga K "Reader") "byte" (sp_Reader_byte K) [.int 0, .int 255]) (m_Reader_device : MetXD P w K mg base 4 (He.ga K "Reader") "device" (sp_Reader_device K) []) (m_Reader_number : MetXD P w K mg base 4 (He.ga K "Reader") "number" (sp_Reader_number K) []) (m1_Reader_number : MetXD P w K mg base 4 (He.ga K "Reader") "number" (sp_Reader_number K) [.int 0]) (c_next_entries : CalX P w K mg base 7 "_next_entries" (sp_next_entries K)) (m_Reader_block : MetXD P w K mg base 5 (He.ga K "Reader") "block" (sp_Reader_block K) []) (m_Reader_name : MetXD P w K mg base 5 (He.ga K "Reader") "name" (sp_Reader_name K) []) (m_Reader_row : MetXD P w K mg base 4 (He.ga K "Reader") "row" (sp_Reader_row K) []) (m1_Reader_row : MetXD P w K mg base 4 (He.ga K "Reader") "row" (sp_Reader_row K) [.int 1]) {f : Addr} {fd : FuncData} (F : FnP K "_next_letter" s_next_letter f fd) : FnOk P w K mg base (L2.CX P w) 8 f fd ["reader"] (sp_next_letter K) := by
  refine F.ok sc_next_letter (fun vs H Q E h => ?_) (fun cdv A outer s H vs Q E hr h => ?_)
  · obtain ⟨_, rfl, _⟩ := h
    rfl
  · have S := sc_next_letter
    refine ⟨_, (pss_cons (ps_set (i := 1) S.nd rfl (by first | exact .inl rfl | exact .inr rfl) (pe_mtXD m_Reader_byte hr (by decide) (takes_of rfl rfl rfl rfl) (pv 0) (pa_cons (C8.pe_gc (by rfl) T.c__HELLO) (pa_cons (C8.pe_gc (by rfl) T.c__REFUSED) pa_nil))))
    (pss_cons (ps_if (pt_cmpR op_eq (pv 1) (C8.pe_gc (by rfl) T.c__HELLO) (nomark _))
    (pss_one (ps_ret (pe_tup (pa_cons pe_str (pa_cons (pe_mtXD0 m_Reader_device hr (by decide) (takes_of rfl rfl rfl rfl) (pv 0)) pa_nil)))))
    pss_nil)
    (pss_cons (ps_if (pt_cmpR op_eq (pv 1) (C8.pe_gc (by rfl) T.c__ASK) (nomark _))
    (pss_one (ps_ret (pe_tup (pa_cons pe_str (pa_cons (pe_mtXD0 m1_Reader_number hr (by decide) (takes_of rfl rfl rfl rfl) (pv 0)) pa_nil)))))
    pss_nil)
    (pss_cons (ps_if (pt_cmpR op_eq (pv 1) (C8.pe_gc (by rfl) T.c__ENTRIES) (nomark _))
    (pss_one (ps_ret (pe_cX c_next_entries hr (by decide) (takes_of rfl rfl rfl rfl) (by rfl) (pa_cons (pv 0) pa_nil))))
    pss_nil)
    (pss_cons (ps_if (pt_cmpR op_eq (pv 1) (C8.pe_gc (by rfl) T.c__REQUEST) (nomark _))
    (pss_one (ps_ret (pe_tup (pa_cons pe_str (pa_cons (pe_mtXD0 m_Reader_name hr (by decide) (takes_of rfl rfl rfl rfl) (pv 0)) (pa_cons (pe_mtXD m_Reader_byte hr (by decide) (takes_of rfl rfl rfl rfl) (pv 0) (pa_cons pe_int (pa_cons (C8.pe_gc (by rfl) T.c__MOST_INDEX) pa_nil))) (pa_cons (pe_mtXD0 m_Reader_block hr (by decide) (takes_of rfl rfl rfl rfl) (pv 0)) pa_nil)))))))
    pss_nil)
    (pss_cons (ps_if (pt_cmpR op_eq (pv 1) (C8.pe_gc (by rfl) T.c__BLOCK) (nomark _))
    (pss_one (ps_ret (pe_tup (pa_cons pe_str (pa_cons (pe_mtXD0 m_Reader_block hr (by decide) (takes_of rfl rfl rfl rfl) (pv 0)) (pa_cons (pe_callTy call_tuple_of (by rfl) T.f_tuple (by first | rfl | decide +kernel) (pa_cons (pe_mtXD0 m1_Reader_row hr (by decide) (takes_of rfl rfl rfl rfl) (pv 0)) pa_nil)) pa_nil))))))
    pss_nil)
    (pss_one (ps_ret (pe_tup (pa_cons pe_str (pa_cons (pe_mtXD0 m_Reader_block hr (by decide) (takes_of rfl rfl rfl rfl) (pv 0)) pa_nil))))))))))), ?_⟩
    try dsimp only [cxOf, Cx.nox]
    obtain ⟨_, rfl, a, dl, d, p, rfl, hR, k1, k2⟩ := h
    walk_at "go"
    refine ⟨_, _, _, rfl, 1, 6, rfl, rfl, a, dl, d, p, rfl, hR, fun kd q1 e1 r1 H1 f1 hR1 hr1 => ?_, fun n e => k2 n (then_err e)⟩
    have hr1 : r1 = V.int kd := hr1
    subst hr1
    have k1 : ∀ t q, pLt1 kd d q1 = .ok (t, q) → ∀ r H', Fr [a] H1 H' → Rd K H' a dl d q → RLa K H' a r t → Q (.ref r) H' := fun t q e r H' f hR' hL => k1 t q ((then_ok e1).trans e) (.ref r) H' (f1.trans f) hR' ⟨r, rfl, fun a' ea => by cases ea; exact hL⟩
    have k2 : ∀ n, pLt1 kd d q1 = .error n → ∀ H', Fr [a] H1 H' → (∃ q, Rd K H' a dl d q) → InvB K n H' E := fun n e H' f hq => k2 n ((then_ok e1).trans e) H' (f1.trans f) hq
    walk_at "go"
    refine i_d (fun h => ?_) (fun h => ?_)
    · have e9 : pLt1 kd = thenP pDev (fun d => retP (.hello d)) := by unfold pLt1; rw [if_pos h]
      rw [e9] at k1 k2
      walk_at "go"
      refine ⟨_, rfl, a, dl, d, q1, rfl, hR1, fun v q2 e2 r2 H2 f2 hR2 hr2 => ?_, fun n e H2 f2 hq => k2 n (then_err e) H2 f2 hq⟩
      have hr2 : r2 = V.int v := hr2
      subst hr2
      walk_at "go"
      rename_i t ht
      have s3 := same_new (o := .tup [.str "hello", .int v]) ht
      exact k1 (.hello v) q2 (then_ok e2) t _ (f2.same s3) (hR2.same s3) (SqT.of upd_same)
    walk_at "go"
    refine i_d (fun h2 => ?_) (fun h2 => ?_)
    · have e9 : pLt1 kd = thenP (pNum 0) (fun n => retP (.ask n)) := by unfold pLt1; rw [if_neg h, if_pos h2]
      rw [e9] at k1 k2
      walk_at "go"
      refine ⟨_, _, rfl, 0, rfl, by decide, a, dl, d, q1, rfl, hR1, fun v q2 e2 r2 H2 f2 hR2 hr2 => ?_, fun n e H2 f2 hq => k2 n (then_err e) H2 f2 hq⟩
      have hr2 : r2 = V.int v := hr2
      subst hr2
      walk_at "go"
      rename_i t ht
      have s3 := same_new (o := .tup [.str "ask", .int v]) ht
      exact k1 (.ask v) q2 (then_ok e2) t _ (f2.same s3) (hR2.same s3) (SqT.of upd_same)
    walk_at "go"
    refine i_d (fun h3 => ?_) (fun h3 => ?_)
    · have e9 : pLt1 kd = pEnts := by unfold pLt1; rw [if_neg h, if_neg h2, if_pos h3]
      rw [e9] at k1 k2
      walk_at "go"
      refine ⟨_, rfl, a, dl, d, q1, rfl, hR1, fun v q2 e2 r2 H2 f2 hR2 hr2 => ?_, fun n e H2 f2 hq => k2 n e H2 f2 hq⟩
      obtain ⟨qa, rfl, hL⟩ := hr2
      walk_at "go"
      exact k1 v q2 e2 qa H2 f2 hR2 (hL a rfl)
    walk_at "go"
    refine i_d (fun h4 => ?_) (fun h4 => ?_)
    · have e9 : pLt1 kd = thenP pName (fun z => thenP (pByte 0 254) fun i => thenP (pRow 1) fun c => retP (.req z i c)) := by unfold pLt1; rw [if_neg h, if_neg h2, if_neg h3, if_pos h4]
      rw [e9] at k1 k2
      walk_at "go"
      refine ⟨_, rfl, a, dl, d, q1, rfl, hR1, fun z q2 e2 r2 H2 f2 hR2 hr2 => ?_, fun n e H2 f2 hq => k2 n (then_err e) H2 f2 hq⟩
      have hr2 : r2 = V.str z := hr2
      subst hr2
      walk_at "go"
      refine ⟨_, _, _, rfl, 0, 254, rfl, rfl, a, dl, d, q2, rfl, hR2, fun i q3 e3 r3 H3 f3 hR3 hr3 => ?_, fun n e H3 f3 hq => k2 n ((then_ok e2).trans (then_err e)) H3 (f2.trans f3) hq⟩
      have hr3 : r3 = V.int i := hr3
      subst hr3
      walk_at "go"
      refine ⟨_, rfl, a, dl, d, q3, rfl, hR3, fun c q4 e4 r4 H4 f4 hR4 hr4 => ?_, fun n e H4 f4 hq => k2 n ((then_ok e2).trans ((then_ok e3).trans (then_err e))) H4 ((f2.trans f3).trans f4) hq⟩
      have hr4 : r4 = V.int (bnum c) := hr4
      subst hr4
      walk_at "go"
      rename_i t ht
      have s5 := same_new (o := .tup [.str "request", .str z, .int i, .int (bnum c)]) ht
      exact k1 (.req z i c) q4 ((then_ok e2).trans ((then_ok e3).trans (then_ok e4))) t _ (((f2.trans f3).trans f4).same s5) (hR4.same s5) (SqT.of upd_same)
    walk_at "go"
    refine i_d (fun h5 => ?_) (fun h5 => ?_)
    · have e9 : pLt1 kd = thenP (pRow 1) (fun c => thenP (pRow 1) fun w => retP (.block c w)) := by unfold pLt1; rw [if_neg h, if_neg h2, if_neg h3, if_neg h4, if_pos h5]
      rw [e9] at k1 k2
      walk_at "go"
      refine ⟨_, rfl, a, dl, d, q1, rfl, hR1, fun c q2 e2 r2 H2 f2 hR2 hr2 => ?_, fun n e H2 f2 hq => k2 n (then_err e) H2 f2 hq⟩
      have hr2 : r2 = V.int (bnum c) := hr2
      subst hr2
      walk_at "go"
      refine ⟨_, _, rfl, 1, rfl, by decide, a, dl, d, q2, rfl, hR2, fun w q3 e3 r3 H3 f3 hR3 hr3 => ?_, fun n e H3 f3 hq => k2 n ((then_ok e2).trans (then_err e)) H3 (f2.trans f3) hq⟩
      obtain ⟨wa, rfl, ew⟩ := hr3
      walk_at "go"
      refine ⟨wa, _, rfl, .inl ⟨SqL.of ew, fun l hl => ?_⟩⟩
      have s4 := same_new (o := .tup (w.map V.int)) hl
      walk_at "go"
      rename_i t ht
      have s5 := same_new (o := .tup [.str "block", .int (bnum c), .ref l]) ht
      exact k1 (.block c w) q3 ((then_ok e2).trans (then_ok e3)) t _ ((f2.trans f3).same (s4.trans s5)) (hR3.same (s4.trans s5)) ⟨l, SqT.of upd_same, SqT.of (s5 _ _ upd_same)⟩
    · have e9 : pLt1 kd = thenP (pRow 1) (fun c => retP (.refd c)) := by unfold pLt1; rw [if_neg h, if_neg h2, if_neg h3, if_neg h4, if_neg h5]
      rw [e9] at k1 k2
      walk_at "go"
      refine ⟨_, rfl, a, dl, d, q1, rfl, hR1, fun c q2 e2 r2 H2 f2 hR2 hr2 => ?_, fun n e H2 f2 hq => k2 n (then_err e) H2 f2 hq⟩
      have hr2 : r2 = V.int (bnum c) := hr2
      subst hr2
      walk_at "go"
      rename_i t ht
      have s3 := same_new (o := .tup [.str "refused", .int (bnum c)]) ht
      exact k1 (.refd c) q2 (then_ok e2) t _ (f2.same s3) (hR2.same s3) (SqT.of upd_same)
theorem ok_next_entries (T : Txt K mg)  (m_Reader_number : MetXD P w K mg base 4 (He.ga K "Reader") "number" (sp_Reader_number K) []) (m1_Reader_number : MetXD P w K mg base 4 (He.ga K "Reader") "number" (sp_Reader_number K) [.int 0]) (m_Reader_byte : MetXD P w K mg base 3 (He.ga K "Reader") "byte" (sp_Reader_byte K) []) (m1_Reader_byte : MetXD P w K mg base 3 (He.ga K "Reader") "byte" (sp_Reader_byte K) [.int 255]) (m2_Reader_byte : MetXD P w K mg base 3 (He.ga K "Reader") "byte" (sp_Reader_byte K) [.int 0, .int 255]) (m_Reader_entry : MetXD P w K mg base 6 (He.ga K "Reader") "entry" (sp_Reader_entry K) []) {f : Addr} {fd : FuncData} (F : FnP K "_next_entries" s_next_entries f fd) : FnOk P w K mg base (L2.CX P w) 7 f fd ["reader"] (sp_next_entries K) := by
  refine F.ok sc_next_entries (fun vs H Q E h => ?_) (fun cdv A outer s H vs Q E hr h => ?_)
  · obtain ⟨_, rfl, _⟩ := h
    rfl
  · have S := sc_next_entries
    refine ⟨_, (pss_cons (ps_set (i := 1) S.nd rfl (by first | exact .inl rfl | exact .inr rfl) (pe_mtXD0 m1_Reader_number hr (by decide) (takes_of rfl rfl rfl rfl) (pv 0)))
    (pss_cons (ps_set (i := 2) S.nd rfl (by first | exact .inl rfl | exact .inr rfl) (pe_mtXD0 m1_Reader_number hr (by decide) (takes_of rfl rfl rfl rfl) (pv 0)))
    (pss_cons (ps_set (i := 3) S.nd rfl (by first | exact .inl rfl | exact .inr rfl) (pe_op op_add (pe_op op_mul (pe_mtXD0 m2_Reader_byte hr (by decide) (takes_of rfl rfl rfl rfl) (pv 0)) pe_int) (pe_mtXD0 m2_Reader_byte hr (by decide) (takes_of rfl rfl rfl rfl) (pv 0))))
    (pss_one (ps_ret (pe_tup (pa_cons pe_str (pa_cons (pv 1) (pa_cons (pv 2) (pa_cons (pe_callTy call_tuple_of (by rfl) T.f_tuple (by first | rfl | decide +kernel) (pa_cons (pe_lcX (own := [("_", 4)]) (g := gName 4) rfl S.nd (takes_of rfl rfl rfl rfl) rfl rfl (pi_range1 (by rfl) T.f_range (pa_cons (pv 3) pa_nil)) (blkOk_by (N := N_next_entries) (sc := defScope s_next_entries) (by decide +kernel)) (fun _ _ _ _ _ => (pg_name (i := 4) S.nd rfl (by first | exact .inl rfl | exact .inr rfl))) (fun _ _ _ _ _ _ _ hx => (pe_mtA0 m_Reader_entry hr (by decide) hx (pv 0)))) pa_nil)) pa_nil)))))))))), ?_⟩
    try dsimp only [cxOf, Cx.nox]
    obtain ⟨_, rfl, a, dl, d, p, rfl, hR, k1, k2⟩ := h
    walk_at "go"
    refine ⟨_, _, rfl, 0, rfl, by decide, a, dl, d, p, rfl, hR, fun b q1 e1 r1 H1 f1 hR1 hr1 => ?_, fun n e H9 f hq => k2 n (then_err e) H9 f hq⟩
    have hr1 : r1 = V.int b := hr1
    subst hr1
    walk_at "go"
    refine ⟨_, _, rfl, 0, rfl, by decide, a, dl, d, q1, rfl, hR1, fun u q2 e2 r2 H2 f2 hR2 hr2 => ?_, fun n e H9 f hq => k2 n ((then_ok e1).trans (then_err e)) H9 (f1.trans f) hq⟩
    have hr2 : r2 = V.int u := hr2
    subst hr2
    walk_at "go"
    refine ⟨_, _, _, rfl, 0, 255, rfl, rfl, a, dl, d, q2, rfl, hR2, fun x q3 e3 r3 H3 f3 hR3 hr3 => ?_, fun n e H9 f hq => k2 n ((then_ok e1).trans ((then_ok e2).trans (then_err e))) H9 ((f1.trans f2).trans f) hq⟩
    have hr3 : r3 = V.int x := hr3
    subst hr3
    have hx := byte_ok e3
    walk_at "go"
    refine ⟨_, _, _, rfl, 0, 255, rfl, rfl, a, dl, d, q3, rfl, hR3, fun y q4 e4 r4 H4 f4 hR4 hr4 => ?_, fun n e H9 f hq => k2 n ((then_ok e1).trans ((then_ok e2).trans ((then_ok e3).trans (then_err e)))) H9 (((f1.trans f2).trans f3).trans f) hq⟩
    have hr4 : r4 = V.int y := hr4
    subst hr4
    have hy := byte_ok e4
    walk_at "go"
    intro D hD
    have nD := hR4.free hD
    have f14 := (((f1.trans f2).trans f3).trans f4)
    refine lc_rng (fun i H5 => Fr [a] H4 H5 ∧ ∃ (es : List ET2) (ps : List Addr) (r : Nat), Rd K H5 a dl d r ∧ es.length = i ∧ pMany pEntry (x * 256 + y).toNat d q4 = mapP (es ++ ·) (pMany pEntry ((x * 256 + y).toNat - i) d r) ∧ H5 D = some (.lst (ps.map V.ref)) ∧ Paired (ENa K H5 a) ps es) ⟨Fr.of (same_new hD), [], [], q4, hR4.same (same_new hD), rfl, many_start _ _ _ _, upd_same, .nil⟩ (fun i H5 hi q => ?_) (fun H5 q => ?_)
    · obtain ⟨f5, es, ps, r, hR5, le, eP, e5, hP⟩ := q
      walk_at "go"
      refine ⟨_, rfl, a, dl, d, r, rfl, hR5, fun v q5 e6 r6 H6 f6 hR6 hr6 => ?_, fun n e H6 f6 hq => k2 n ((then_ok e1).trans ((then_ok e2).trans ((then_ok e3).trans ((then_ok e4).trans (then_err (many_err hi e eP)))))) H6 ((f14.trans f5).trans f6) hq⟩
      obtain ⟨qa, ea, rfl, hT, hE, hne⟩ := hr6
      have nea : ea ≠ a := fun z => by obtain ⟨dx, fs, g⟩ := hR5.ins; rw [z, g] at hne; cases hne
      have e7 := hR5.lst f6 e5
      have hP6 := paired_imp (fun _ _ z => ENa.fr z f6 hR5.nt) hP
      refine ⟨_, e7, by rw [List.length_map, paired_len hP]; exact Nat.lt_of_le_of_lt (by omega : _ ≤ 100000) (by decide), (f5.trans f6).mut hD, es ++ [v], ps ++ [qa], q5, hR6.mut nD, by rw [List.length_append, le]; rfl, many_ok hi e6 eP, by rw [upd_same, List.map_append]; rfl, paired_snoc (paired_imp (fun _ _ z => ENa.frL z fr_put e7) hP6) (ENa.frL ⟨ea, hT, hE, nea⟩ fr_put e7)⟩
    · obtain ⟨f5, es, ps, r, hR5, le, eP, e5, hP⟩ := q
      walk_at "go"
      refine ⟨D, _, rfl, .inl ⟨SqL.of e5, fun l hl => ?_⟩⟩
      have s6 := same_new (o := .tup (ps.map V.ref)) hl
      walk_at "go"
      rename_i t ht
      have s7 := same_new (o := .tup [.str "entries", .int b, .int u, .ref l]) ht
      exact k1 (.ents b u es) r ((then_ok e1).trans ((then_ok e2).trans ((then_ok e3).trans ((then_ok e4).trans (then_ok (many_end eP)))))) _ _ ((f14.trans f5).same (s6.trans s7)) (hR5.same (s6.trans s7)) ⟨t, rfl, fun a' ea => by cases ea; exact ⟨l, ps, SqT.of upd_same, SqT.of (s7 _ _ upd_same), paired_imp (fun _ _ z => ENa.same z (s6.trans s7)) hP⟩⟩
theorem ok_law_draw (T : Txt K mg)   {f : Addr} {fd : FuncData} (F : FnP K "_law_draw" s_law_draw f fd) : FnOk P w K mg base CX0 1 f fd ["state", "script", "size"] (spDraw K) := by
  refine F.ok sc_law_draw (fun vs H Q E h => ?_) (fun cdv A outer s H vs Q E hr h => ?_)
  · obtain ⟨_, _, _, rfl, _⟩ := h
    rfl
  · have S := sc_law_draw
    refine ⟨_, PSs.nox (C8.pss_cut (ps_if (pt_cmpR op_eq (pe_ix ix_list (pv 0) pe_int (fun _ _ => rfl)) pe_int (nomark _))
    (pss_cons (ps_set (i := 3) S.nd rfl (by first | exact .inl rfl | exact .inr rfl) (pe_ix ix_list (pv 0) pe_int (fun _ _ => rfl)))
      (pss_cons (ps_set (i := 4) S.nd rfl (by first | exact .inl rfl | exact .inr rfl) pe_int)
      (C8.pss_cut (ps_if (pt_cmpR op_gt (pe_callB call_len_seq (by rfl) T.f_len (by first | rfl | decide +kernel) (pa_cons (pv 1) pa_nil)) pe_int (nomark _))
      (pss_one (ps_set (i := 4) S.nd rfl (by first | exact .inl rfl | exact .inr rfl) (pe_callTy call_int1 (by rfl) T.f_int (by first | rfl | decide +kernel) (pa_cons (pe_ix ix_list (pv 1) (pe_op op_mod (pv 3) (pe_callB call_len_seq (by rfl) T.f_len (by first | rfl | decide +kernel) (pa_cons (pv 1) pa_nil))) (fun _ _ => rfl)) pa_nil))))
      pss_nil)
      (C8.pss_cut (ps_if (pt_cmpR op_lt (pv 4) pe_int (nomark _))
      (pss_one (ps_set (i := 4) S.nd rfl (by first | exact .inl rfl | exact .inr rfl) (pe_op op_sub pe_int (pe_op op_mul pe_int (pv 4)))))
      pss_nil)
      (C8.pss_cut (ps_if (pw_and (pt_cmpR op_ge (pv 4) (pe_op op_pow pe_int pe_int) (nomark _)) (pw_and1 (pt_cmpR op_lt (pv 3) (pe_callB call_len_seq (by rfl) T.f_len (by first | rfl | decide +kernel) (pa_cons (pv 1) pa_nil)) (nomark _)))).pt
      (pss_one (ps_asg (pv 4) (pg_sub (pv 0) pe_int set_list)))
      (pss_cons (ps_set (i := 5) S.nd rfl (by first | exact .inl rfl | exact .inr rfl) (pe_op op_mod (pe_callTy call_int1 (by rfl) T.f_int (by first | rfl | decide +kernel) (pa_cons (pe_op op_add (pe_op op_add (pe_op op_mul (pv 4) pe_int) (pe_op op_mul (pv 3) pe_int)) pe_int) pa_nil)) pe_int))
        (pss_one (ps_asg (pe_op op_add pe_int (pe_op op_mod (pe_callTy call_int1 (by rfl) T.f_int (by first | rfl | decide +kernel) (pa_cons (pe_op op_add (pe_op op_mul (pv 5) pe_int) (pe_op op_mul (pv 3) pe_int)) pa_nil)) pe_int)) (pg_sub (pv 0) pe_int set_list)))))
      (pss_one (ps_asg (pe_op op_add (pv 3) pe_int) (pg_sub (pv 0) pe_int set_list))))))))
    pss_nil)
    (pss_cons (ps_set (i := 6) S.nd rfl (by first | exact .inl rfl | exact .inr rfl) (pe_op op_mod (pe_callTy call_int1 (by rfl) T.f_int (by first | rfl | decide +kernel) (pa_cons (pe_ix ix_list (pv 0) pe_int (fun _ _ => rfl)) pa_nil)) (pv 2)))
    (pss_cons (ps_asg (pe_op op_fdivW (pe_ix ix_list (pv 0) pe_int (fun _ _ => rfl)) (pv 2)) (pg_sub (pv 0) pe_int set_list))
    (pss_one (ps_ret (pv 6)))))), ?_⟩
    try dsimp only [cxOf, Cx.nox]
    obtain ⟨_, _, _, rfl, st, sc, ns, n, rfl, rfl, rfl, d, hn0, hn1, k⟩ := h
    obtain ⟨ia, ib, ha0, hb0, hs⟩ := d.s
    have h1 : ∀ (x y : Int), 0 ≤ x → 0 ≤ y → Kp st H (upd H st (.lst [.int x, .int y])) ∧ Dr K st sc ns (upd H st (.lst [.int x, .int y])) := fun x y hx hy =>
      have k1 : Kp st H (upd H st (.lst [.int x, .int y])) := Kp.put (Kp.refl st H)
      ⟨k1, d.kp k1 ⟨x, y, hx, hy, upd_same⟩⟩
    refine e_cut (Mid := fun σ' H' => ∃ (v3 v4 v5 : Option V), σ' = [some (.ref st), some (.ref sc), some (.int n), v3, v4, v5, none] ∧ Kp st H H' ∧ Dr K st sc ns H') ?_ ?_
    · walk_at "go"
      refine e_ixL (SqL.of hs) rfl ?_
      walk_at "go"
      refine i_d (fun e => ?_) (fun e => ?_)
      · walk_at "go"
        refine e_ixL (SqL.of hs) rfl ?_
        walk_at "go"
        -- cell = int(script[at % len(script)])
        refine e_cut (Mid := fun σ' H' => ∃ c : Int, σ' = [some (.ref st), some (.ref sc), some (.int n), some (.int ia), some (.int c), none, none] ∧ H' = H) ?_ ?_
        · walk_at "go"
          refine i_d (fun e2 => ?_) (fun e2 => ?_)
          · walk_at "go"
            have hm : 0 ≤ ia % (((ns.map V.int).length : Nat) : Int) := Int.emod_nonneg _ (by omega)
            have hm2 : ia % (((ns.map V.int).length : Nat) : Int) < (((ns.map V.int).length : Nat) : Int) := Int.emod_lt_of_pos _ (by omega)
            have hlt : (ia % (((ns.map V.int).length : Nat) : Int)).toNat < ns.length := by rw [List.length_map] at hm hm2 ⊢; omega
            refine e_ixL (v := .int ns[(ia % (((ns.map V.int).length : Nat) : Int)).toNat]) d.seq (at_of (j := (ia % (((ns.map V.int).length : Nat) : Int)).toNat) (by omega) (by rw [List.getElem?_map, List.getElem?_eq_getElem hlt]; rfl)) ?_
            walk_at "go"
            exact ⟨_, rfl, rfl⟩
          · walk_at "go"
            exact ⟨_, rfl, rfl⟩
        · rintro σ' H' ⟨c, rfl, rfl⟩
          refine e_cut (Mid := fun σ' H'' => ∃ c : Int, 0 ≤ c ∧ σ' = [some (.ref st), some (.ref sc), some (.int n), some (.int ia), some (.int c), none, none] ∧ H'' = H') ?_ ?_
          · walk_at "go"
            refine i_d (fun e2 => ?_) (fun e2 => ?_)
            · walk_at "go"
              exact ⟨_, by omega, rfl, rfl⟩
            · walk_at "go"
              exact ⟨_, by omega, rfl, rfl⟩
          · rintro σ' H'' ⟨c, hc, rfl, rfl⟩
            refine e_cut (Mid := fun σ' H3 => ∃ (v5 : Option V) (b : Int), 0 ≤ b ∧ σ' = [some (.ref st), some (.ref sc), some (.int n), some (.int ia), some (.int c), v5, none] ∧ H3 = upd H'' st (.lst [.int ia, .int b])) ?_ ?_
            · walk_at "go"
              have fin : ∀ (v5 : Option V) (b : Int), 0 ≤ b → ∃ (v5' : Option V) (b' : Int), 0 ≤ b' ∧ [some (V.ref st), some (V.ref sc), some (V.int n), some (V.int ia), some (V.int c), v5, none] = [some (.ref st), some (.ref sc), some (.int n), some (.int ia), some (.int c), v5', none] ∧ upd H'' st (HO.lst [V.int ia, V.int b]) = upd H'' st (.lst [.int ia, .int b']) := fun v5 b hb => ⟨v5, b, hb, rfl, rfl⟩
              have other : ∀ x : Int, 0 ≤ 1 + x % 2305843009213693951 := fun x => by
                have := Int.emod_nonneg x (show (2305843009213693951 : Int) ≠ 0 by decide)
                omega
              refine i_d (fun e2 => ?_) (fun e2 => ?_)
              · walk_at "go"
                refine i_d (fun e3 => ?_) (fun e3 => ?_)
                · walk_at "go"
                  refine e_setL hs rfl ?_
                  exact ⟨none, c, hc, rfl, by rw [e]; rfl⟩
                · walk_at "go"
                  refine e_setL hs rfl ?_
                  exact ⟨_, _, other _, rfl, rfl⟩
              · walk_at "go"
                refine e_setL hs rfl ?_
                exact ⟨_, _, other _, rfl, rfl⟩
            · rintro σ' H3 ⟨v5, b, hb, rfl, rfl⟩
              walk_at "go"
              refine e_setL upd_same rfl ?_
              rw [upd_upd]
              obtain ⟨k1, d1⟩ := h1 (ia + 1) b (by omega) hb
              exact ⟨_, _, _, rfl, k1, d1⟩
      · walk_at "go"
        exact ⟨_, _, _, rfl, Kp.refl _ _, d⟩
    · rintro σ' H' ⟨v3, v4, v5, rfl, k1, d1⟩
      obtain ⟨ja, jb, hja, hjb, hs1⟩ := d1.s
      walk_at "go"
      refine e_ixL (SqL.of hs1) rfl ?_
      walk_at "go"
      refine e_ixL (SqL.of hs1) rfl ?_
      walk_at "go"
      refine e_setL hs1 rfl ?_
      have hj2 : 0 ≤ jb / n := Int.ediv_nonneg hjb (by omega)
      have k2 : Kp st H (upd H' st (.lst [.int ja, .int (jb / n)])) := k1.put
      walk_at "go"
      exact k _ _ (Int.emod_nonneg _ (by omega)) (Int.emod_lt_of_pos _ hn0) k2 (d.kp k2 ⟨ja, jb / n, hja, hj2, upd_same⟩)
theorem ok_law_all (T : Txt K mg)   {f : Addr} {fd : FuncData} (F : FnP K "_law_all" s_law_all f fd) : FnOk P w K mg base CX0 1 f fd [] (sp_law_all K) := by
  refine F.ok sc_law_all (fun vs H Q E h => ?_) (fun cdv A outer s H vs Q E hr h => ?_)
  · obtain ⟨rfl, _⟩ := h
    rfl
  · have S := sc_law_all
    refine ⟨_, PSs.nox (pss_one (ps_ret pe_str)), ?_⟩
    try dsimp only [cxOf, Cx.nox]
    obtain ⟨rfl, k⟩ := h
    walk_at "go"
    exact k
theorem ok_law_count (T : Txt K mg)  (c_law_draw : Cal P w K mg base 1 "_law_draw" (spDraw K)) {f : Addr} {fd : FuncData} (F : FnP K "_law_count" s_law_count f fd) : FnOk P w K mg base CX0 2 f fd ["state", "script", "least"] (sp_law_count K) := by
  refine F.ok sc_law_count (fun vs H Q E h => ?_) (fun cdv A outer s H vs Q E hr h => ?_)
  · obtain ⟨_, _, _, rfl, _⟩ := h
    rfl
  · have S := sc_law_count
    refine ⟨_, PSs.nox (pss_cons (ps_set (i := 3) S.nd rfl (by first | exact .inl rfl | exact .inr rfl) (pe_c c_law_draw hr (by decide) (by rfl) (pa_cons (pv 0) (pa_cons (pv 1) (pa_cons pe_int pa_nil)))))
    (pss_cons (ps_if (pt_cmpR op_eq (pv 3) pe_int (nomark _))
    (pss_one (ps_ret (pe_ix ix_list (pe_lst (pa_cons pe_int (pa_cons pe_int (pa_cons pe_int (pa_cons pe_int (pa_cons pe_int (pa_cons pe_int (pa_cons pe_int (pa_cons (pv 2) pa_nil))))))))) (pe_c c_law_draw hr (by decide) (by rfl) (pa_cons (pv 0) (pa_cons (pv 1) (pa_cons pe_int pa_nil)))) (fun _ _ => rfl))))
    pss_nil)
    (pss_cons (ps_if (pt_cmpR op_eq (pv 3) pe_int (nomark _))
    (pss_one (ps_ret (pe_op op_add (pv 2) (pe_c c_law_draw hr (by decide) (by rfl) (pa_cons (pv 0) (pa_cons (pv 1) (pa_cons (pe_op op_sub pe_int (pv 2)) pa_nil)))))))
    pss_nil)
    (pss_one (ps_ret (pe_op op_add (pv 2) (pe_c c_law_draw hr (by decide) (by rfl) (pa_cons (pv 0) (pa_cons (pv 1) (pa_cons pe_int pa_nil)))))))))), ?_⟩
    try dsimp only [cxOf, Cx.nox]
    obtain ⟨_, _, _, rfl, st, sc, ns, l, rfl, rfl, rfl, l0, l1, d, k⟩ := h
    walk_at "go"
    intro v1 H1 a1 b1 k1 d1
    walk_at "go"
    refine i_d (fun h1 => ?_) (fun h1 => ?_)
    · walk_at "go"
      rename_i r hr
      intro v2 H2 a2 b2 k2 d2
      have e2 := k2 r _ (d1.ne hr) upd_same
      refine e_ixM [1, 255, 256, 65535, 65536, 16777216, 4294967295, l] (SqL.of e2) a2 b2 fun x hx => ?_
      simp only [List.mem_cons, List.not_mem_nil, or_false] at hx
      exact k x H2 (by omega) (by omega) ((k1.trans (Kp.new hr)).trans k2) d2
    walk_at "go"
    refine i_d (fun h2 => ?_) (fun h2 => ?_)
    · walk_at "go"
      intro v2 H2 a2 b2 k2 d2
      walk_at "go"
      exact k _ H2 (by omega) (by omega) (k1.trans k2) d2
    · walk_at "go"
      intro v2 H2 a2 b2 k2 d2
      walk_at "go"
      exact k _ H2 (by omega) (by omega) (k1.trans k2) d2
theorem ok_law_name (T : Txt K mg)  (c_law_draw : Cal P w K mg base 1 "_law_draw" (spDraw K)) (c_law_all : Cal P w K mg base 1 "_law_all" (sp_law_all K)) {f : Addr} {fd : FuncData} (F : FnP K "_law_name" s_law_name f fd) : FnOk P w K mg base CX0 2 f fd ["state", "script"] (sp_law_name K) := by
  refine F.ok sc_law_name (fun vs H Q E h => ?_) (fun cdv A outer s H vs Q E hr h => ?_)
  · obtain ⟨_, _, rfl, _⟩ := h
    rfl
  · have S := sc_law_name
    refine ⟨_, PSs.nox (pss_cons (ps_set (i := 2) S.nd rfl (by first | exact .inl rfl | exact .inr rfl) (pe_op op_add pe_int (pe_c c_law_draw hr (by decide) (by rfl) (pa_cons (pv 0) (pa_cons (pv 1) (pa_cons pe_int pa_nil))))))
    (C8.pss_cut (ps_if (pt_cmpR op_eq (pe_c c_law_draw hr (by decide) (by rfl) (pa_cons (pv 0) (pa_cons (pv 1) (pa_cons pe_int pa_nil)))) pe_int (nomark _))
    (pss_one (ps_set (i := 2) S.nd rfl (by first | exact .inl rfl | exact .inr rfl) (pe_op op_sub pe_int (pe_c c_law_draw hr (by decide) (by rfl) (pa_cons (pv 0) (pa_cons (pv 1) (pa_cons pe_int pa_nil)))))))
    pss_nil)
    (pss_one (ps_ret (pe_join pe_str (pe_lc (own := [("k", 3)]) (g := gName 3) (tt := tYes) rfl S.nd (pi_range1 (by rfl) T.f_range (pa_cons (pv 2) pa_nil)) (blkOk_by (N := N_law_name) (sc := defScope s_law_name) (by decide +kernel)) (fun _ _ _ _ _ => (pg_name (i := 3) S.nd rfl (by first | exact .inl rfl | exact .inr rfl))) (fun _ _ _ _ _ => pts_nil) (fun _ _ _ _ _ => (pe_ix ix_str (pe_c0 c_law_all hr (by decide) (by rfl)) (pe_c c_law_draw hr (by decide) (by rfl) (pa_cons (pv 0) (pa_cons (pv 1) (pa_cons pe_int pa_nil)))) (fun _ _ => rfl))))))))), ?_⟩
    try dsimp only [cxOf, Cx.nox]
    obtain ⟨_, _, rfl, st, sc, ns, rfl, rfl, d, k⟩ := h
    walk_at "go"
    intro v1 H1 a1 b1 k1 d1
    walk_at "go"
    refine e_cut (Mid := fun σ' H' => ∃ n : Nat, 1 ≤ n ∧ n ≤ 40 ∧ σ' = [some (.ref st), some (.ref sc), some (.int (n : Nat)), none] ∧ Kp st H H' ∧ Dr K st sc ns H') ?_ fun σ' H2 q => ?_
    · walk_at "go"
      intro v2 H2 a2 b2 k2 d2
      walk_at "go"
      refine i_d (fun h1 => ?_) (fun h1 => ?_)
      · walk_at "go"
        intro v3 H3 a3 b3 k3 d3
        walk_at "go"
        refine ⟨(40 - v3).toNat, by omega, by omega, by rw [show (((40 - v3).toNat : Nat) : Int) = 40 - v3 by omega]; rfl, (k1.trans k2).trans k3, d3⟩
      · walk_at "go"
        refine ⟨(1 + v1).toNat, by omega, by omega, by rw [show (((1 + v1).toNat : Nat) : Int) = 1 + v1 by omega]; rfl, k1.trans k2, d2⟩
    obtain ⟨n, n1, n40, rfl, k2, d2⟩ := q
    walk_at "go"
    intro D hD
    rw [Int.toNat_natCast]
    refine lc_dr d2 hD (by omega) (fun y => ∃ c : Nat, y = .str ⟨#[c]⟩ ∧ c ∈ CH) (fun i H3 C E hi k3 d3 hC => ?_) (fun H3 xs k3 d3 eD lx hx => ?_)
    · walk_at "go"
      refine ⟨rfl, ?_⟩
      walk_at "go"
      intro v H4 v0 v1 k4 d4
      have hl : CH.length = 67 := by decide +kernel
      have hg := List.getElem?_eq_getElem (l := CH) (i := v.toNat) (by omega)
      have hv : v = (v.toNat : Int) := by omega
      have ha : atI CH v = some (CH[v.toNat]'(by omega)) := at_ofA hv hg
      refine e_ixS (by decide +kernel) ha ?_
      exact hC _ H4 k4 d4 ⟨_, rfl, List.mem_of_getElem? hg⟩
    · obtain ⟨cs, rfl, hc⟩ := strs_chr hx
      rw [List.length_map] at lx
      refine ⟨_, D, cs.map (fun c => (⟨#[c]⟩ : Str)), rfl, rfl, .inl (SqL.of (by rw [eD, List.map_map]; rfl)), ?_, ?_⟩
      · rw [List.map_map, List.length_map, chr_sum cs]
        show _ + _ * 0 ≤ _
        omega
      · have ej := joinC ⟨cs.toArray⟩
        rw [show (⟨cs.toArray⟩ : Str).cps.toList = cs from rfl] at ej
        rw [ej]
        exact k _ H3 ⟨by show 1 ≤ cs.length; omega, by show cs.length ≤ 40; omega, hc⟩ (k2.trans k3) d3
theorem ok_law_vector (T : Txt K mg)  (c_law_draw : Cal P w K mg base 1 "_law_draw" (spDraw K)) (c_law_count : Cal P w K mg base 2 "_law_count" (sp_law_count K)) {f : Addr} {fd : FuncData} (F : FnP K "_law_vector" s_law_vector f fd) : FnOk P w K mg base CX0 3 f fd ["state", "script"] (sp_law_vector K) := by
  refine F.ok sc_law_vector (fun vs H Q E h => ?_) (fun cdv A outer s H vs Q E hr h => ?_)
  · obtain ⟨_, _, rfl, _⟩ := h
    rfl
  · have S := sc_law_vector
    refine ⟨_, PSs.nox (pss_cons (ps_set (i := 2) S.nd rfl (by first | exact .inl rfl | exact .inr rfl) (pe_op op_add pe_int (pe_c c_law_draw hr (by decide) (by rfl) (pa_cons (pv 0) (pa_cons (pv 1) (pa_cons pe_int pa_nil))))))
    (C8.pss_cut (ps_if (pt_cmpR op_gt (pe_c c_law_draw hr (by decide) (by rfl) (pa_cons (pv 0) (pa_cons (pv 1) (pa_cons pe_int pa_nil)))) pe_int (nomark _))
    (pss_one (ps_set (i := 2) S.nd rfl (by first | exact .inl rfl | exact .inr rfl) (pe_op op_shl pe_int (pe_c c_law_draw hr (by decide) (by rfl) (pa_cons (pv 0) (pa_cons (pv 1) (pa_cons pe_int pa_nil)))))))
    pss_nil)
    (pss_one (ps_ret (pe_callTy call_tuple_of (by rfl) T.f_tuple (by first | rfl | decide +kernel) (pa_cons (pe_lc (own := [("k", 3)]) (g := gName 3) rfl S.nd (pi_range1 (by rfl) T.f_range (pa_cons pe_int pa_nil)) (blkOk_by (N := N_law_vector) (sc := defScope s_law_vector) (by decide +kernel)) (fun _ _ _ _ _ => (pg_name (i := 3) S.nd rfl (by first | exact .inl rfl | exact .inr rfl))) (fun _ _ _ _ _ => (pts_one (pt_cmpR op_eq (pe_op op_andM (pe_op op_shr (pv 2) (pv 3)) pe_int) pe_int (nomark _)))) (fun _ _ _ _ _ => (pe_tup (pa_cons (pe_op op_add (pv 3) pe_int) (pa_cons (pe_c c_law_count hr (by decide) (by rfl) (pa_cons (pv 0) (pa_cons (pv 1) (pa_cons pe_int pa_nil)))) pa_nil))))) pa_nil)))))), ?_⟩
    try dsimp only [cxOf, Cx.nox]
    obtain ⟨_, _, rfl, st, sc, ns, rfl, rfl, d, k⟩ := h
    walk_at "go"
    intro v1 H1 a1 b1 k1 d1
    walk_at "go"
    refine e_cut (Mid := fun σ' H' => ∃ m : Int, 1 ≤ m ∧ m < 512 ∧ σ' = [some (.ref st), some (.ref sc), some (.int m), none] ∧ Kp st H H' ∧ Dr K st sc ns H') ?_ fun σ' H2 q => ?_
    · walk_at "go"
      intro v2 H2 a2 b2 k2 d2
      walk_at "go"
      refine i_d (fun h1 => ?_) (fun h1 => ?_)
      · walk_at "go"
        intro v3 H3 a3 b3 k3 d3
        walk_at "go"
        have h9 : v3 = 0 ∨ v3 = 1 ∨ v3 = 2 ∨ v3 = 3 ∨ v3 = 4 ∨ v3 = 5 ∨ v3 = 6 ∨ v3 = 7 ∨ v3 = 8 := by omega
        rcases h9 with h9 | h9 | h9 | h9 | h9 | h9 | h9 | h9 | h9 <;> subst h9 <;> refine e_I (by exact ⟨by decide, by decide, by decide⟩) ?_ <;> walk_at "go" <;> exact ⟨_, by decide, by decide, rfl, (k1.trans k2).trans k3, d3⟩
      · walk_at "go"
        exact ⟨1 + v1, by omega, by omega, rfl, k1.trans k2, d2⟩
    obtain ⟨m, m1, m2, rfl, k2, d2⟩ := q
    walk_at "go"
    intro D hD
    have nD := d2.ne hD
    refine lc_rng (fun i H3 => Kp st H2 H3 ∧ Dr K st sc ns H3 ∧ ∃ ps v, H3 D = some (.lst (ps.map V.ref)) ∧ Prs K H3 ps v ∧ VI i v ∧ (v = [] → ∀ j, j < i → m / 2 ^ j % 2 ≠ 1)) ⟨Kp.new hD, d2.same (same_new hD), [], [], upd_same, .nil, ⟨.nil, fun c hc => by cases hc⟩, fun _ j hj => absurd hj (Nat.not_lt_zero j)⟩ (fun i H3 hi q => ?_) (fun H3 q => ?_)
    · obtain ⟨k3, d3, ps, v, eD, hP, hv, hb⟩ := q
      walk_at "go"
      refine ⟨_, 1, rfl, rfl, ?_⟩
      rw [show (0 + (i : Int)).toNat = i by omega]
      walk_at "go"
      have hi : i < 9 := hi
      have lv := vi_len (d := 0) (v := v) (by decide) hv.1 fun c hc => ⟨(hv.2 c hc).1, by have := (hv.2 c hc).2.1; omega⟩
      refine i_d (fun h => ?_) (fun h => ?_)
      · walk_at "go"
        refine ⟨_, _, _, rfl, st, sc, ns, 1, rfl, rfl, rfl, by decide, by decide, d3, fun x H4 x0 x1 k4 d4 => ?_⟩
        have e4 := k4 D _ nD eD
        have hP4 : Prs K H4 ps v := paired_imp (fun _ _ q => sqT_kpD d3 k4 q) hP
        walk_at "go"
        rename_i t ht
        have s5 := same_new (o := .tup [.int (0 + (i : Int) + 1), .int x]) ht
        have e5 := s5 _ _ e4
        have k5 := (k3.trans k4).trans (Kp.of s5)
        refine ⟨_, e5, by rw [List.length_map, paired_len hP]; exact Nat.lt_of_le_of_lt (by omega : _ ≤ 100) (by decide), k5.mut hD, d2.mut (d4.same s5) hD k5, ps ++ [t], v ++ [(1 + (i : Int), x)], by rw [upd_same, List.map_append]; rfl, ?_, ?_, fun z => by simp at z⟩
        · refine paired_snoc (prs_updE (prs_same s5 hP4) e5) (sq_updE (SqT.of ?_) e5)
          rw [show (1 + (i : Int)) = 0 + (i : Int) + 1 by omega]
          exact upd_same
        · have := hv.snoc (x := x) (by omega) x0 x1
          rw [show ((i + 1 : Nat) : Int) = 1 + (i : Int) by omega]
          exact this
      · refine ⟨k3, d3, ps, v, eD, hP, ?_, fun z j hj => ?_⟩
        · rw [show ((i + 1 : Nat) : Int) = 1 + (i : Int) by omega]
          exact hv.up
        · by_cases e : j = i
          · rw [e]; exact h
          · exact hb z j (by omega)
    · obtain ⟨k3, d3, ps, v, eD, hP, hv, hb⟩ := q
      have hv : VI 9 v := hv
      have hne : v.length ≠ 0 := fun z => by
        have z : v = [] := List.eq_nil_of_length_eq_zero z
        have hb : ∀ j, j < 9 → m / 2 ^ j % 2 ≠ 1 := hb z
        have b0 := hb 0 (by decide)
        have b1 := hb 1 (by decide)
        have b2 := hb 2 (by decide)
        have b3 := hb 3 (by decide)
        have b4 := hb 4 (by decide)
        have b5 := hb 5 (by decide)
        have b6 := hb 6 (by decide)
        have b7 := hb 7 (by decide)
        have b8 := hb 8 (by decide)
        have p0 : (2 : Int) ^ 0 = 1 := by decide
        have p1 : (2 : Int) ^ 1 = 2 := by decide
        have p2 : (2 : Int) ^ 2 = 4 := by decide
        have p3 : (2 : Int) ^ 3 = 8 := by decide
        have p4 : (2 : Int) ^ 4 = 16 := by decide
        have p5 : (2 : Int) ^ 5 = 32 := by decide
        have p6 : (2 : Int) ^ 6 = 64 := by decide
        have p7 : (2 : Int) ^ 7 = 128 := by decide
        have p8 : (2 : Int) ^ 8 = 256 := by decide
        rw [p0] at b0
        rw [p1] at b1
        rw [p2] at b2
        rw [p3] at b3
        rw [p4] at b4
        rw [p5] at b5
        rw [p6] at b6
        rw [p7] at b7
        rw [p8] at b8
        omega
      walk_at "go"
      refine ⟨D, _, rfl, .inl ⟨SqL.of eD, fun l hl => ?_⟩⟩
      have s5 := same_new (o := .tup (ps.map V.ref)) hl
      exact k l v _ ((k2.trans k3).trans (Kp.of s5)) (d3.same s5) ⟨ps, SqT.of upd_same, prs_same s5 hP⟩ (hv.ok hne)
theorem ok_law_block (T : Txt K mg)   {f : Addr} {fd : FuncData} (F : FnP K "_law_block" s_law_block f fd) : FnOk P w K mg base CX0 1 f fd ["row"] (sp_law_block K) := by
  refine F.ok sc_law_block (fun vs H Q E h => ?_) (fun cdv A outer s H vs Q E hr h => ?_)
  · obtain ⟨_, rfl, _⟩ := h
    rfl
  · have S := sc_law_block
    refine ⟨_, PSs.nox (pss_cons (ps_set (i := 1) S.nd rfl (by first | exact .inl rfl | exact .inr rfl) pe_int)
    (pss_cons (ps_for PassesOwn.never rfl (pi_list (pv 0)) (pg_name (i := 2) S.nd rfl (by first | exact .inl rfl | exact .inr rfl))
    (pss_one (ps_set (i := 1) S.nd rfl (by first | exact .inl rfl | exact .inr rfl) (pe_op op_add (pe_op op_mul pe_int (pv 1)) (pv 2)))))
    (pss_one (ps_ret (pe_op op_add (pv 1) (pe_ix ix_list (pe_lst (pa_cons pe_int (pa_cons pe_int (pa_cons pe_int (pa_cons pe_int (pa_cons pe_int pa_nil)))))) (pe_callB call_len_seq (by rfl) T.f_len (by first | rfl | decide +kernel) (pa_cons (pv 0) pa_nil)) (fun _ _ => rfl))))))), ?_⟩
    try dsimp only [cxOf, Cx.nox]
    obtain ⟨_, rfl, a, xs, rfl, ha, l1, l4, k⟩ := h
    have hS := SqL.of (K := K) ha
    walk_at "go"
    refine for_ints (ns := xs) (fun pre σ H1 => (∃ v, σ = [some (.ref a), some (.int (num pre)), v]) ∧ H1 = H) ⟨⟨_, rfl⟩, rfl⟩ (fun pre σ H1 q => by rw [q.2]; exact hS) (fun pre x post σ H1 e q => ?_) (fun σ H1 q => ?_)
    · obtain ⟨⟨v, rfl⟩, rfl⟩ := q
      walk_at "go"
      rw [num_snoc]
      exact ⟨⟨some (.int x), by rw [Int.mul_comm]; rfl⟩, rfl⟩
    · obtain ⟨⟨v, rfl⟩, rfl⟩ := q
      walk_at "go"
      rename_i r hr
      have s1 := same_new (o := .lst [.int 0, .int 256, .int 65536, .int 16777216, .int 4294967296]) hr
      refine ⟨a, _, rfl, .inl (SqL.of (s1 _ _ ha)), ?_⟩
      rw [List.length_map]
      have hn := num_bnum xs
      have h4 : xs.length = 1 ∨ xs.length = 2 ∨ xs.length = 3 ∨ xs.length = 4 := by omega
      rcases h4 with h4 | h4 | h4 | h4 <;> rw [h4] at hn ⊢
      · refine e_ixL (v := .int 256) (SqL.of upd_same) rfl ?_
        walk_at "go"
        have := k _ s1
        rw [← hn] at this
        exact this
      · refine e_ixL (v := .int 65536) (SqL.of upd_same) rfl ?_
        walk_at "go"
        have := k _ s1
        rw [← hn] at this
        exact this
      · refine e_ixL (v := .int 16777216) (SqL.of upd_same) rfl ?_
        walk_at "go"
        have := k _ s1
        rw [← hn] at this
        exact this
      · refine e_ixL (v := .int 4294967296) (SqL.of upd_same) rfl ?_
        walk_at "go"
        have := k _ s1
        rw [← hn] at this
        exact this
theorem ok_law_row (T : Txt K mg)  (c_law_draw : Cal P w K mg base 1 "_law_draw" (spDraw K)) {f : Addr} {fd : FuncData} (F : FnP K "_law_row" s_law_row f fd) : FnOk P w K mg base CX0 2 f fd ["state", "script", "size"] (sp_law_row K) := by
  refine F.ok sc_law_row (fun vs H Q E h => ?_) (fun cdv A outer s H vs Q E hr h => ?_)
  · obtain ⟨_, _, _, rfl, _⟩ := h
    rfl
  · have S := sc_law_row
    refine ⟨_, PSs.nox (pss_one (ps_ret (pe_lc (own := [("k", 3)]) (g := gName 3) (tt := tYes) rfl S.nd (pi_range1 (by rfl) T.f_range (pa_cons (pv 2) pa_nil)) (blkOk_by (N := N_law_row) (sc := defScope s_law_row) (by decide +kernel)) (fun _ _ _ _ _ => (pg_name (i := 3) S.nd rfl (by first | exact .inl rfl | exact .inr rfl))) (fun _ _ _ _ _ => pts_nil) (fun _ _ _ _ _ => (pe_ix (ixL K) (pe_lst (pa_cons pe_int (pa_cons pe_int (pa_cons (pe_c c_law_draw hr (by decide) (by rfl) (pa_cons (pv 0) (pa_cons (pv 1) (pa_cons pe_int pa_nil)))) pa_nil)))) (pe_c c_law_draw hr (by decide) (by rfl) (pa_cons (pv 0) (pa_cons (pv 1) (pa_cons pe_int pa_nil)))) (fun _ _ => rfl)))))), ?_⟩
    try dsimp only [cxOf, Cx.nox]
    obtain ⟨_, _, _, rfl, st, sc, ns, n, rfl, rfl, rfl, hn, d, k⟩ := h
    walk_at "go"
    intro D hD
    rw [Int.toNat_natCast]
    refine lc_dr d hD (by omega) (fun y => ∃ n : Int, y = .int n ∧ 0 ≤ n ∧ n < 256) (fun i H2 C E hi k2 d2 hC => ?_) (fun H2 xs k2 d2 eD lx hx => ?_)
    · walk_at "go"
      intro v H3 v0 v1 k3 d3
      walk_at "go"
      rename_i r hr
      intro w H4 w0 w1 k4 d4
      have e4 := k4 r _ (d3.ne hr) upd_same
      refine e_ix3 (SqL.of e4) w0 w1 fun x hx => ?_
      exact hC _ H4 ((k3.trans (Kp.new hr)).trans k4) d4 ⟨x, rfl, by omega, by omega⟩
    · obtain ⟨qs, rfl, hq⟩ := ints_rg xs hx
      rw [List.length_map] at lx
      exact k D qs H2 hD eD hq lx k2 d2
theorem ok_law_entry (T : Txt K mg)  (c_law_draw : Cal P w K mg base 1 "_law_draw" (spDraw K)) (c_law_row : Cal P w K mg base 2 "_law_row" (sp_law_row K)) (c_law_count : Cal P w K mg base 2 "_law_count" (sp_law_count K)) (c_law_vector : Cal P w K mg base 3 "_law_vector" (sp_law_vector K)) (c_law_name : Cal P w K mg base 2 "_law_name" (sp_law_name K)) (c_law_block : Cal P w K mg base 1 "_law_block" (sp_law_block K)) {f : Addr} {fd : FuncData} (F : FnP K "_law_entry" s_law_entry f fd) : FnOk P w K mg base CX0 4 f fd ["state", "script"] (sp_law_entry K) := by
  refine F.ok sc_law_entry (fun vs H Q E h => ?_) (fun cdv A outer s H vs Q E hr h => ?_)
  · obtain ⟨_, _, rfl, _⟩ := h
    rfl
  · have S := sc_law_entry
    refine ⟨_, PSs.nox (pss_cons (ps_set (i := 2) S.nd rfl (by first | exact .inl rfl | exact .inr rfl) (pe_cmpR op_eq (pe_c c_law_draw hr (by decide) (by rfl) (pa_cons (pv 0) (pa_cons (pv 1) (pa_cons pe_int pa_nil)))) pe_int (nomark _)))
    (pss_cons (ps_set (i := 3) S.nd rfl (by first | exact .inl rfl | exact .inr rfl) (pe_lst pa_nil))
    (C8.pss_cut (ps_if (pt_not (pt_val (pv 2)))
    (pss_cons (ps_setLc (i := 3) (own := [("k", 6)]) (g := gName 6) (tt := tYes) rfl S.nd rfl rfl (sw_true rfl rfl rfl (by decide +kernel)) (pi_range1 (by rfl) T.f_range (pa_cons (pe_c c_law_draw hr (by decide) (by rfl) (pa_cons (pv 0) (pa_cons (pv 1) (pa_cons pe_int pa_nil)))) pa_nil)) (blkOk_by (N := N_law_entry) (sc := defScope s_law_entry) (by decide +kernel)) (fun _ _ _ _ _ => (pg_name (i := 6) S.nd rfl (by first | exact .inl rfl | exact .inr rfl))) (fun _ _ _ _ _ => pts_nil) (fun _ _ _ _ _ => (pe_c c_law_row hr (by decide) (by rfl) (pa_cons (pv 0) (pa_cons (pv 1) (pa_cons pe_int pa_nil))))))
      (C8.pss_cut (ps_if (pt_cmpR op_eq (pe_c c_law_draw hr (by decide) (by rfl) (pa_cons (pv 0) (pa_cons (pv 1) (pa_cons pe_int pa_nil)))) pe_int (nomark _))
      (pss_one (ps_set (i := 3) S.nd rfl (by first | exact .inl rfl | exact .inr rfl) (pe_op op_cat (pv 3) (pe_lc (own := [("k", 6)]) (g := gName 6) (tt := tYes) rfl S.nd (pi_range1 (by rfl) T.f_range (pa_cons (pe_op op_add pe_int (pe_c c_law_draw hr (by decide) (by rfl) (pa_cons (pv 0) (pa_cons (pv 1) (pa_cons pe_int pa_nil))))) pa_nil)) (blkOk_by (N := N_law_entry) (sc := defScope s_law_entry) (by decide +kernel)) (fun _ _ _ _ _ => (pg_name (i := 6) S.nd rfl (by first | exact .inl rfl | exact .inr rfl))) (fun _ _ _ _ _ => pts_nil) (fun _ _ _ _ _ => (pe_lst (pa_cons (pe_op op_mod (pv 6) pe_int) (pa_cons pe_int (pa_cons pe_int (pa_cons (pe_op op_sub pe_int (pe_op op_mod (pv 6) pe_int)) pa_nil))))))))))
      pss_nil)
      (pss_cons (ps_expr (pe_bm PySem.F.plainAttrs_list PySem.F.slot_list_append PySem.F.type_list_append mt_append (pv 3) (pa_cons (pe_c c_law_row hr (by decide) (by rfl) (pa_cons (pv 0) (pa_cons (pv 1) (pa_cons (pe_op op_add pe_int (pe_c c_law_draw hr (by decide) (by rfl) (pa_cons (pv 0) (pa_cons (pv 1) (pa_cons pe_int pa_nil))))) pa_nil)))) pa_nil)))
      (pss_one (ps_if (pt_cmpR op_eq (pe_c c_law_draw hr (by decide) (by rfl) (pa_cons (pv 0) (pa_cons (pv 1) (pa_cons pe_int pa_nil)))) pe_int (nomark _))
      (pss_one (ps_set (i := 3) S.nd rfl (by first | exact .inl rfl | exact .inr rfl) (pe_lst pa_nil)))
      pss_nil)))))
    pss_nil)
    (pss_cons (ps_set (i := 4) S.nd rfl (by first | exact .inl rfl | exact .inr rfl) (pe_tup (pa_cons (pe_op op_add pe_int (pe_c c_law_draw hr (by decide) (by rfl) (pa_cons (pv 0) (pa_cons (pv 1) (pa_cons pe_int pa_nil))))) (pa_cons (pe_c c_law_count hr (by decide) (by rfl) (pa_cons (pv 0) (pa_cons (pv 1) (pa_cons pe_int pa_nil)))) pa_nil))))
    (pss_cons (ps_set (i := 5) S.nd rfl (by first | exact .inl rfl | exact .inr rfl) (pe_tup (pa_cons (pe_c c_law_name hr (by decide) (by rfl) (pa_cons (pv 0) (pa_cons (pv 1) pa_nil))) (pa_cons (pe_c c_law_vector hr (by decide) (by rfl) (pa_cons (pv 0) (pa_cons (pv 1) pa_nil))) (pa_cons (pe_c c_law_count hr (by decide) (by rfl) (pa_cons (pv 0) (pa_cons (pv 1) (pa_cons pe_int pa_nil)))) (pa_cons (pv 4) (pa_cons (pv 2) pa_nil)))))))
    (pss_cons (ps_set (i := 5) S.nd rfl (by first | exact .inl rfl | exact .inr rfl) (pe_op op_catA (pv 5) (pe_tup (pa_cons (pe_c c_law_count hr (by decide) (by rfl) (pa_cons (pv 0) (pa_cons (pv 1) (pa_cons pe_int pa_nil)))) (pa_cons (pe_callTy call_tuple_of (by rfl) T.f_tuple (by first | rfl | decide +kernel) (pa_cons (pe_lc (own := [("row", 7)]) (g := gName 7) (tt := tYes) rfl S.nd (pi_list (pv 3)) (blkOk_by (N := N_law_entry) (sc := defScope s_law_entry) (by decide +kernel)) (fun _ _ _ _ _ => (pg_name (i := 7) S.nd rfl (by first | exact .inl rfl | exact .inr rfl))) (fun _ _ _ _ _ => pts_nil) (fun _ _ _ _ _ => (pe_c c_law_block hr (by decide) (by rfl) (pa_cons (pv 7) pa_nil)))) pa_nil)) pa_nil)))))
    (pss_one (ps_ret (pe_tup (pa_cons (pv 5) (pa_cons (pe_c c_law_count hr (by decide) (by rfl) (pa_cons (pv 0) (pa_cons (pv 1) (pa_cons pe_int pa_nil)))) pa_nil))))))))))), ?_⟩
    try dsimp only [cxOf, Cx.nox]
    obtain ⟨_, _, rfl, st, sc, ns, rfl, rfl, d, k⟩ := h
    walk_at "go"
    intro v1 H1 a1 b1 k1 d1
    walk_at "go"
    rename_i R hR
    have nR := d1.ne hR
    have sR := same_new (o := .lst []) hR
    have dR := d1.same sR
    have kR := k1.trans (Kp.of sR)
    refine e_cut (Mid := fun σ' H' => ∃ (R : Addr) (qs : List Addr) (cs : List (List Int)) (v10 v11 : Option V), σ' = [some (.ref st), some (.ref sc), some (.bl (decide (v1 = 0))), some (.ref R), none, none, v10, v11] ∧ Kp st H H' ∧ Dr K st sc ns H' ∧ H' R = some (.lst (qs.map V.ref)) ∧ Paired (fun q c => LstI H' q c ∧ q ≠ st) qs cs ∧ OkC cs ∧ (v1 = 0 → cs = []) ∧ R ≠ st) ?_ fun σ' H2 q => ?_
    · walk_at "go"
      refine i_nd (fun h => ?_) (fun h => ?_)
      rotate_left
      · walk_at "go"
        exact ⟨R, [], [], _, _, rfl, kR, dR, upd_same, .nil, okc_nil, fun _ => rfl, nR⟩
      walk_at "go"
      intro m H2 m0 m1 k2 d2
      walk_at "go"
      intro D hD
      have nD := d2.ne hD
      refine lc_rng (fun i H3 => Kp st H2 H3 ∧ Dr K st sc ns H3 ∧ ∃ (qs : List Addr) (cs : List (List Int)), H3 D = some (.lst (qs.map V.ref)) ∧ Rw st D H3 qs cs ∧ cs.length = i ∧ Q4 cs) ⟨Kp.new hD, d2.same (same_new hD), [], [], upd_same, .nil, rfl, fun c hc => by cases hc⟩ (fun i H3 hi q => ?_) (fun H3 q => ?_)
      · obtain ⟨k3, d3, qs, cs, eD, hP, lc, h4⟩ := q
        walk_at "go"
        refine ⟨_, _, _, rfl, st, sc, ns, 4, rfl, rfl, rfl, by decide, d3, fun q xs H4 nq e4 hb hl k4 d4 => ?_⟩
        have eD4 := k4 _ _ nD eD
        have nqD : q ≠ D := fun z => by rw [z, eD] at nq; cases nq
        have nqs : q ≠ st := d3.ne nq
        refine ⟨_, eD4, by rw [List.length_map, paired_len hP]; exact Nat.lt_of_le_of_lt (by omega : _ ≤ 100) (by decide), (k3.trans k4).mut hD, d2.mut d4 hD (k3.trans k4), qs ++ [q], cs ++ [xs], by rw [upd_same, List.map_append]; rfl, paired_snoc (hP.kp k4).up ⟨by unfold LstI; rw [upd_ne nqD]; exact e4, nqs, nqD⟩, by rw [List.length_append, lc]; rfl, h4.snoc hb hl⟩
      obtain ⟨k3, d3, qs, cs, eD, hP, lc, h4⟩ := q
      have lc2 : cs.length ≤ 2 := by omega
      have k13 := kR.trans (k2.trans k3)
      have hD0 := kp_none (kR.trans k2) d2 hD
      clear k1 k2 k3 kR lc
      refine e_cut (Mid := fun σ' H' => ∃ (R : Addr) (qs : List Addr) (cs : List (List Int)) (v6 v7 : Option V), σ' = [some (.ref st), some (.ref sc), some (.bl (decide (v1 = 0))), some (.ref R), none, none, v6, v7] ∧ Kp st H H' ∧ Dr K st sc ns H' ∧ H' R = some (.lst (qs.map V.ref)) ∧ Rw st R H' qs cs ∧ cs.length ≤ 254 ∧ Q4 cs ∧ R ≠ st ∧ H R = none) ?_ fun σ' H4 q => ?_
      · walk_at "go"
        intro u H4 u0 u1 k4 d4
        have eD4 := k4 _ _ nD eD
        have hP4 := hP.kp k4
        walk_at "go"
        refine i_d (fun h2 => ?_) (fun h2 => ?_)
        · walk_at "go"
          intro y H5 y0 y1 k5 d5
          have eD5 := k5 _ _ nD eD4
          have hP5 := hP4.kp k5
          walk_at "go"
          intro D2 hD2
          refine lc_rng (fun i H6 => Same H5 H6 ∧ ∃ (qs2 : List Addr) (cs2 : List (List Int)), H6 D2 = some (.lst (qs2.map V.ref)) ∧ Rw st D2 H6 qs2 cs2 ∧ cs2.length = i ∧ Q4 cs2) ⟨same_new hD2, [], [], upd_same, .nil, rfl, fun c hc => by cases hc⟩ (fun i H6 hi q => ?_) (fun H6 q => ?_)
          · obtain ⟨s6, qs2, cs2, e6, hP6, lc6, h6⟩ := q
            walk_at "go"
            rename_i q hq
            have s7 := same_new (o := .lst [.int ((0 + (i : Int)) % 256), .int 0, .int 7, .int (255 - (0 + (i : Int)) % 256)]) hq
            have e7 := s7 _ _ e6
            have nq2 : q ≠ D2 := fun z => by rw [z, e6] at hq; cases hq
            have nqs : q ≠ st := (d5.same s6).ne hq
            refine ⟨_, e7, by rw [List.length_map, paired_len hP6]; exact Nat.lt_of_le_of_lt (by omega : _ ≤ 1000) (by decide), Same.mut (s6.trans s7) hD2, qs2 ++ [q], cs2 ++ [[(0 + (i : Int)) % 256, 0, 7, 255 - (0 + (i : Int)) % 256]], by rw [upd_same, List.map_append]; rfl, paired_snoc (hP6.kp (Kp.of s7)).up ⟨by unfold LstI; rw [upd_ne nq2, upd_same]; rfl, nqs, nq2⟩, by rw [List.length_append, lc6]; rfl, h6.snoc (fun b hb => ?_) rfl⟩
            simp only [List.mem_cons, List.not_mem_nil, or_false] at hb
            omega
          obtain ⟨s6, qs2, cs2, e6, hP6, lc6, h6⟩ := q
          have lp := paired_len hP
          have lp6 := paired_len hP6
          refine e_cat (s6 _ _ eD5) e6 (by rw [List.length_map, List.length_map]; omega) fun r hr => ?_
          have s7 := same_new (o := .lst (qs.map V.ref ++ qs2.map V.ref)) hr
          walk_at "go"
          have k57 : Kp st H (upd H6 r (.lst (qs.map V.ref ++ qs2.map V.ref))) := k13.trans (k4.trans (k5.trans ((Kp.of s6).trans (Kp.of s7))))
          refine ⟨r, qs ++ qs2, cs ++ cs2, _, _, rfl, k57, (d5.same s6).same s7, by rw [upd_same, List.map_append], ?_, by rw [List.length_append]; omega, h4.app h6, (d5.same s6).ne hr, kp_none (k13.trans (k4.trans (k5.trans (Kp.of s6)))) (d5.same s6) hr⟩
          exact paired_app (((hP5.kp (Kp.of s6)).re hr).up) ((hP6.re hr).up)
        · walk_at "go"
          exact ⟨D, qs, cs, _, _, rfl, k13.trans k4, d4, eD4, hP4, by omega, h4, nD, hD0⟩
      obtain ⟨R3, qs3, cs3, v6, v7, rfl, k4, d4, e4, hP4, l4, h44, nR3, hR3⟩ := q
      walk_at "go"
      intro u H5 u0 u1 k5 d5
      have e5 := k5 _ _ nR3 e4
      have hP5 := hP4.kp k5
      walk_at "go"
      obtain ⟨u, rfl⟩ : ∃ n : Nat, u = n := ⟨u.toNat, by omega⟩
      refine ⟨_, _, _, rfl, st, sc, ns, 1 + u, rfl, rfl, by rw [show ((1 + u : Nat) : Int) = 1 + (u : Int) by omega], by omega, d5, fun q xs H6 nq e6 hb hl k6 d6 => ?_⟩
      have e6' := k6 _ _ nR3 e5
      have nqR : q ≠ R3 := fun z => by rw [z, e5] at nq; cases nq
      have nqs : q ≠ st := d5.ne nq
      have hpc : Piece xs := ⟨hb, by omega, by omega⟩
      walk_at "go"
      refine e_app e6' (by rw [List.length_map, paired_len hP4]; exact Nat.lt_of_le_of_lt (by omega : _ ≤ 1000) (by decide)) ?_
      have hP7 : Rw st R3 (upd H6 R3 (.lst (qs3.map V.ref ++ [.ref q]))) (qs3 ++ [q]) (cs3 ++ [xs]) := paired_snoc (hP5.kp k6).up ⟨by unfold LstI; rw [upd_ne nqR]; exact e6, nqs, nqR⟩
      have k46 := k4.trans (k5.trans k6)
      have d7 : Dr K st sc ns (upd H6 R3 (.lst (qs3.map V.ref ++ [.ref q]))) := d.mut d6 hR3 k46
      have k7 : Kp st H (upd H6 R3 (.lst (qs3.map V.ref ++ [.ref q]))) := k46.mut hR3
      walk_at "go"
      intro w H8 w0 w1 k8 d8
      walk_at "go"
      refine i_d (fun h3 => ?_) (fun h3 => ?_)
      · walk_at "go"
        rename_i r hr
        exact ⟨r, [], [], _, _, rfl, (k7.trans k8).trans (Kp.new hr), d8.same (same_new hr), upd_same, .nil, okc_nil, fun _ => rfl, d8.ne hr⟩
      · walk_at "go"
        exact ⟨R3, qs3 ++ [q], cs3 ++ [xs], _, _, rfl, k7.trans k8, d8, k8 _ _ nR3 (by rw [upd_same, List.map_append]; rfl), paired_imp (fun _ _ z => ⟨z.1, z.2.1⟩) (hP7.kp k8), h44.ok hpc l4, fun z => absurd z h, nR3⟩
    obtain ⟨R, qs, cs, v10, v11, rfl, k2, d2, eR, hP, hO, hz, nR⟩ := q
    walk_at "go"
    intro dv H3 dv0 dv1 k3 d3
    have eR3 := k3 _ _ nR eR
    have hP3 : Paired (fun q c => LstI H3 q c ∧ q ≠ st) qs cs := paired_imp (fun _ _ q => ⟨k3 _ _ q.2 q.1, q.2⟩) hP
    walk_at "go"
    refine ⟨_, _, _, rfl, st, sc, ns, 1, rfl, rfl, rfl, by decide, by decide, d3, fun mn H4 mn0 mn1 k4 d4 => ?_⟩
    walk_at "go"
    rename_i mp hmp
    have s5 := same_new (o := .tup [.int (1 + dv), .int mn]) hmp
    have M5 : SqT K (upd H4 mp (.tup [.int (1 + dv), .int mn])) mp [.int (1 + dv), .int mn] := SqT.of upd_same
    have d5 := d4.same s5
    have k5 := k3.trans (k4.trans (Kp.of s5))
    generalize upd H4 mp (.tup [.int (1 + dv), .int mn]) = H5 at M5 d5 k5 s5 ⊢
    refine ⟨_, _, rfl, st, sc, ns, rfl, rfl, d5, fun z H6 hz6 k6 d6 => ?_⟩
    walk_at "go"
    refine ⟨_, _, rfl, st, sc, ns, rfl, rfl, d6, fun va v H7 k7 d7 V7 hv7 => ?_⟩
    walk_at "go"
    refine ⟨_, _, _, rfl, st, sc, ns, 1, rfl, rfl, rfl, by decide, by decide, d7, fun ht H8 ht0 ht1 k8 d8 => ?_⟩
    walk_at "go"
    rename_i f1 hf1
    have s9 := same_new (o := .tup [.str z, .ref va, .int ht, .ref mp, .bl (decide (v1 = 0))]) hf1
    have F9 : SqT K (upd H8 f1 (.tup [.str z, .ref va, .int ht, .ref mp, .bl (decide (v1 = 0))])) f1 [.str z, .ref va, .int ht, .ref mp, .bl (decide (v1 = 0))] := SqT.of upd_same
    have d9 := d8.same s9
    generalize upd H8 f1 (.tup [.str z, .ref va, .int ht, .ref mp, .bl (decide (v1 = 0))]) = H9 at s9 F9 d9 ⊢
    refine ⟨_, _, _, rfl, st, sc, ns, 0, rfl, rfl, rfl, by decide, by decide, d9, fun tm HA tm0 tm1 kA dA => ?_⟩
    have k3A := k5.trans (k6.trans (k7.trans (k8.trans ((Kp.of s9).trans kA))))
    have eRA := k3A _ _ nR eR
    have hPA : Paired (fun q c => LstI HA q c ∧ q ≠ st) qs cs := paired_imp (fun _ _ q => ⟨k3A _ _ q.2 q.1, q.2⟩) hP
    have MA := sqT_kp (sqT_kp (sqT_kp (same_tup s9 (sqT_kp (sqT_kp (sqT_kp M5 d5 k6) d6 k7) d7 k8)) d9 kA) dA (Kp.refl _ _)) dA (Kp.refl _ _)
    have VA := vec_kp d9 kA ((vec_kp d7 k8 V7).same s9)
    have FA := sqT_kp F9 d9 kA
    clear M5 V7 F9 hP3 eR3
    walk_at "go"
    intro D hD
    have lp := paired_len hPA
    refine lc_map_lstI (SqL.of eRA) hD (by rw [List.length_map, lp]; have := hO.l; omega) (fun i => .int (bnum (cs.getD i []))) (fun i x H2 C E hx s2 hC => ?_) (fun HB sB eB => ?_)
    · rw [List.getElem?_map] at hx
      obtain ⟨q, hq, rfl⟩ := Option.map_eq_some_iff.mp hx
      obtain ⟨c, hc, hqc⟩ := paired_get hPA i q hq
      have hp := hO.p c (List.mem_of_getElem? hc)
      walk_at "go"
      refine ⟨_, rfl, q, c, rfl, s2 _ _ hqc.1, hp.h1, hp.h4, fun H3 s3 => ?_⟩
      have := hC H3 s3
      rw [show cs.getD i [] = c by rw [List.getD_eq_getElem?_getD, hc]; rfl] at this
      exact this
    have eB : HB D = some (.lst ((cs.map bnum).map V.int)) := by
      rw [eB]
      congr 2
      rw [List.length_map, lp, List.map_map]
      refine List.ext_getElem? fun i => ?_
      rw [List.getElem?_map, List.getElem?_map]
      by_cases hi : i < cs.length
      · rw [List.getElem?_range hi, List.getElem?_eq_getElem hi, Option.map_some, Option.map_some, List.getD_eq_getElem?_getD, List.getElem?_eq_getElem hi]
        rfl
      · rw [List.getElem?_eq_none (by simpa using hi), List.getElem?_eq_none (by omega)]
        rfl
    refine ⟨D, _, rfl, .inl ⟨SqL.of eB, fun bt hbt => ?_⟩⟩
    have sC := same_new (o := .tup ((cs.map bnum).map V.int)) hbt
    have eC : upd HB bt (.tup ((cs.map bnum).map V.int)) bt = some (.tup ((cs.map bnum).map V.int)) := upd_same
    generalize upd HB bt (.tup ((cs.map bnum).map V.int)) = HC at sC eC ⊢
    walk_at "go"
    rename_i f2 hf2
    have sD := same_new (o := .tup [.int tm, .ref bt]) hf2
    refine e_catA (same_tup sD (same_tup sC (same_tup sB FA))) (SqT.of upd_same) (by show 5 + 2 ≤ _; decide) fun ff HE sE FE => ?_
    have sAE := (sB.trans sC).trans (sD.trans sE)
    have dE := dA.same sAE
    have eE := (sD.trans sE) _ _ eC
    walk_at "go"
    refine ⟨_, _, _, rfl, st, sc, ns, 1, rfl, rfl, rfl, by decide, by decide, dE, fun nn HF n0 n1 kF dF => ?_⟩
    walk_at "go"
    rename_i q hq
    have sq := same_new (o := .tup [.ref ff, .int nn]) hq
    refine k q ⟨z, v, ht, (1 + dv, mn), decide (v1 = 0), tm, cs.map bnum⟩ nn cs _ ((k2.trans k3A).trans ((Kp.of sAE).trans (kF.trans (Kp.of sq)))) (dF.same sq) ⟨hz6, hv7, ⟨ht0, ht1⟩, ⟨by show 1 ≤ 1 + dv; omega, by show 1 + dv ≤ 9; omega, mn0, mn1⟩, fun e => hz (of_decide_eq_true e), ⟨tm0, tm1⟩, rfl, hO, ⟨n0, n1⟩⟩ ?_
    refine ⟨ff, SqT.of upd_same, va, mp, bt, ?_, ?_, ?_, ?_⟩
    · exact same_tup sq (sqT_kp FE dE kF)
    · exact (vec_kp dE kF (VA.same sAE)).same sq
    · exact same_tup sq (sqT_kp (same_tup sAE MA) dE kF)
    · exact same_tup sq (sqT_kp (SqT.of eE) dE kF)
theorem ok_law_four (T : Txt K mg)   {f : Addr} {fd : FuncData} (F : FnP K "_law_four" s_law_four f fd) : FnOk P w K mg base CX0 1 f fd ["number"] (sp_law_four K) := by
  refine F.ok sc_law_four (fun vs H Q E h => ?_) (fun cdv A outer s H vs Q E hr h => ?_)
  · obtain ⟨_, rfl, _⟩ := h
    rfl
  · have S := sc_law_four
    refine ⟨_, PSs.nox (pss_one (ps_ret (pe_lst (pa_cons (pe_op op_fdivW (pv 0) pe_int) (pa_cons (pe_op op_mod (pe_op op_fdivW (pv 0) pe_int) pe_int) (pa_cons (pe_op op_mod (pe_op op_fdivW (pv 0) pe_int) pe_int) (pa_cons (pe_op op_mod (pv 0) pe_int) pa_nil))))))), ?_⟩
    try dsimp only [cxOf, Cx.nox]
    obtain ⟨_, rfl, n, rfl, n0, n1, k⟩ := h
    walk_at "go"
    rename_i r hr
    refine k r _ hr (same_new hr) ?_
    unfold LstI
    rw [upd_same, wd4, show n / 1 % 256 = n % 256 by omega, show n / 16777216 % 256 = n / 16777216 by omega]
    rfl
theorem ok_law_name_written (T : Txt K mg)   {f : Addr} {fd : FuncData} (F : FnP K "_law_name_written" s_law_name_written f fd) : FnOk P w K mg base CX0 1 f fd ["name"] (sp_law_name_written K) := by
  refine F.ok sc_law_name_written (fun vs H Q E h => ?_) (fun cdv A outer s H vs Q E hr h => ?_)
  · obtain ⟨_, rfl, _⟩ := h
    rfl
  · have S := sc_law_name_written
    refine ⟨_, PSs.nox (pss_one (ps_ret (pe_op op_cat (pe_lst (pa_cons (pe_callB call_len_str (by rfl) T.f_len (by first | rfl | decide +kernel) (pa_cons (pv 0) pa_nil)) pa_nil)) (pe_lc (own := [("char", 1)]) (g := gName 1) (tt := tYes) rfl S.nd (pi_str (pv 0)) (blkOk_by (N := N_law_name_written) (sc := defScope s_law_name_written) (by decide +kernel)) (fun _ _ _ _ _ => (pg_name (i := 1) S.nd rfl (by first | exact .inl rfl | exact .inr rfl))) (fun _ _ _ _ _ => pts_nil) (fun _ _ _ _ _ => (pe_callB call_ord (by rfl) T.f_ord (by first | rfl | decide +kernel) (pa_cons (pv 1) pa_nil))))))), ?_⟩
    try dsimp only [cxOf, Cx.nox]
    obtain ⟨_, rfl, z, rfl, hl, k⟩ := h
    walk_at "go"
    rename_i p hp
    intro D hD
    have s0 := same_new (o := .lst [.int (z.length : Int)]) hp
    refine lc_str (fun pre H1 => Same (upd H p (.lst [.int (z.length : Int)])) H1 ∧ H1 D = some (.lst (pre.map fun c : Nat => V.int (c : Int))) ∧ pre.length ≤ 1000) ⟨same_new hD, upd_same, Nat.zero_le _⟩ (fun pre c post H1 e q => ?_) (fun H1 q => ?_)
    · obtain ⟨s1, e1, l1⟩ := q
      walk_at "go"
      refine ⟨_, rfl, rfl, ?_⟩
      have l2 : pre.length + 1 ≤ 1000 := by
        have h2 : z.cps.toList.length = z.length := by simp [Str.length]
        rw [e, List.length_append, List.length_cons] at h2
        omega
      refine ⟨_, e1, by rw [List.length_map]; exact Nat.lt_of_le_of_lt l1 (by decide), Same.mut s1 hD, ?_, by rw [List.length_append]; exact l2⟩
      rw [upd_same, List.map_append]
      rfl
    · obtain ⟨s1, e1, l1⟩ := q
      refine e_cat (s1 _ _ upd_same) e1 (by rw [List.length_map]; show 1 + _ ≤ _; omega) fun r hr => ?_
      refine k r _ ((s0.trans s1).free hr) ((s0.trans s1).trans (same_new hr)) ?_
      unfold LstI nmB
      rw [upd_same, List.map_cons, List.map_map]
      rfl
theorem ok_law_vector_written (T : Txt K mg)  (c_law_four : Cal P w K mg base 1 "_law_four" (sp_law_four K)) {f : Addr} {fd : FuncData} (F : FnP K "_law_vector_written" s_law_vector_written f fd) : FnOk P w K mg base CX0 2 f fd ["vector"] (sp_law_vector_written K) := by
  refine F.ok sc_law_vector_written (fun vs H Q E h => ?_) (fun cdv A outer s H vs Q E hr h => ?_)
  · obtain ⟨_, rfl, _⟩ := h
    rfl
  · have S := sc_law_vector_written
    refine ⟨_, PSs.nox (pss_cons (ps_set (i := 1) S.nd rfl (by first | exact .inl rfl | exact .inr rfl) (pe_lst (pa_cons (pe_callB call_len_seq (by rfl) T.f_len (by first | rfl | decide +kernel) (pa_cons (pv 0) pa_nil)) pa_nil)))
    (pss_cons (ps_for PassesOwn.never rfl (pi_tup (pv 0)) (pg_tup rfl (pgs_cons (pg_name (i := 2) S.nd rfl (by first | exact .inl rfl | exact .inr rfl)) (pgs_cons (pg_name (i := 3) S.nd rfl (by first | exact .inl rfl | exact .inr rfl)) pgs_nil)))
    (pss_one (ps_set (i := 1) S.nd rfl (by first | exact .inl rfl | exact .inr rfl) (pe_op op_cat (pe_op op_cat (pv 1) (pe_lst (pa_cons (pv 2) pa_nil))) (pe_c c_law_four hr (by decide) (by rfl) (pa_cons (pv 3) pa_nil))))))
    (pss_one (ps_ret (pv 1))))), ?_⟩
    try dsimp only [cxOf, Cx.nox]
    obtain ⟨_, rfl, a, v, rfl, hv, hO, k⟩ := h
    obtain ⟨ps, hS, hP⟩ := hv
    have lp : ps.length = v.length := paired_len hP
    walk_at "go"
    rename_i p hp
    have s0 := same_new (o := .lst [.int ((ps.map V.ref).length : Nat)]) hp
    refine ⟨a, rfl, ⟨_, same_tup s0 hS⟩, ?_⟩
    refine for_vec hS hP (fun pre σ H1 => (∃ r v3 v4, σ = [some (.ref a), some (.ref r), v3, v4] ∧ LstI H1 r ((v.length : Int) :: pre.flatMap fun c => c.1 :: wd c.2 4) ∧ H r = none) ∧ Same H H1) ⟨⟨p, _, _, rfl, by unfold LstI; rw [upd_same, List.length_map, lp]; rfl, hp⟩, s0⟩ (fun pre σ H1 q => q.2) (fun pre c post t σ H1 e q ht => ?_) (fun σ H1 q => ?_)
    · obtain ⟨⟨r, v3, v4, rfl, e1, nr⟩, s1⟩ := q
      have hc := okv_get hO.2.2 pre.length c (by rw [e]; simp)
      have lv := hO.2.1
      have hle : pre.length + 1 ≤ v.length := by rw [e, List.length_append, List.length_cons]; omega
      walk_at "go"
      rename_i q1 hq1
      have s2 := same_new (o := .lst [.int c.1]) hq1
      refine e_catI (ys := [c.1]) (s2 _ _ e1) upd_same (by rw [List.length_cons, fm_len]; show _ + 1 ≤ _; omega) fun r2 H3 hr2 s3 e3 => ?_
      walk_at "go"
      refine ⟨_, rfl, c.2, rfl, by omega, by omega, fun r4 H4 hr4 s4 e4 => ?_⟩
      refine e_catI (s4 _ _ e3) e4 (by rw [List.length_append, List.length_cons, fm_len, wd_len]; show _ + 1 + 4 ≤ _; omega) fun r5 H5 hr5 s5 e5 => ?_
      refine ⟨⟨r5, _, _, rfl, ?_, (((s1.trans s2).trans s3).trans s4).free hr5⟩, (((s1.trans s2).trans s3).trans s4).trans s5⟩
      rw [List.flatMap_append]
      have ee : ((v.length : Int) :: (pre.flatMap fun c => c.1 :: wd c.2 4)) ++ [c.1] ++ wd c.2 4 = (v.length : Int) :: ((pre.flatMap fun c => c.1 :: wd c.2 4) ++ ([c].flatMap fun c => c.1 :: wd c.2 4)) := by simp
      rw [ee] at e5
      exact e5
    · obtain ⟨⟨r, v3, v4, rfl, e1, nr⟩, s1⟩ := q
      walk_at "go"
      exact k r H1 nr s1 e1
theorem ok_law_block_written (T : Txt K mg)   {f : Addr} {fd : FuncData} (F : FnP K "_law_block_written" s_law_block_written f fd) : FnOk P w K mg base CX0 1 f fd ["block"] (sp_law_block_written K) := by
  refine F.ok sc_law_block_written (fun vs H Q E h => ?_) (fun cdv A outer s H vs Q E hr h => ?_)
  · obtain ⟨_, rfl, _⟩ := h
    rfl
  · have S := sc_law_block_written
    refine ⟨_, PSs.nox (pss_cons (ps_set (i := 1) S.nd rfl (by first | exact .inl rfl | exact .inr rfl) (pe_lst pa_nil))
    (pss_cons (ps_for PassesOwn.never rfl (pi_range1 (by rfl) T.f_range (pa_cons pe_int pa_nil)) (pg_name (i := 2) S.nd rfl (by first | exact .inl rfl | exact .inr rfl))
    (pss_one (ps_if (pt_cmpR op_gt (pv 0) pe_int (nomark _))
      (pss_cons (ps_set (i := 1) S.nd rfl (by first | exact .inl rfl | exact .inr rfl) (pe_op op_cat (pe_lst (pa_cons (pe_op op_mod (pe_callTy call_int1 (by rfl) T.f_int (by first | rfl | decide +kernel) (pa_cons (pv 0) pa_nil)) pe_int) pa_nil)) (pv 1)))
        (pss_one (ps_set (i := 0) S.nd rfl (by first | exact .inl rfl | exact .inr rfl) (pe_op op_fdivW (pv 0) pe_int))))
      pss_nil)))
    (pss_one (ps_ret (pe_op op_cat (pe_lst (pa_cons (pe_callB call_len_seq (by rfl) T.f_len (by first | rfl | decide +kernel) (pa_cons (pv 1) pa_nil)) pa_nil)) (pv 1)))))), ?_⟩
    try dsimp only [cxOf, Cx.nox]
    obtain ⟨_, rfl, c, rfl, hc, k⟩ := h
    walk_at "go"
    rename_i r hr
    refine for_rng (fun i σ H1 => ∃ (q : Addr) (v3 : Option V), σ = [some (.int (bnum (c.take (c.length - i)))), some (.ref q), v3] ∧ H q = none ∧ Same H H1 ∧ LstI H1 q (c.drop (c.length - i))) ⟨r, none, by rw [Nat.sub_zero, List.take_length]; rfl, hr, same_new hr, by rw [Nat.sub_zero, List.drop_length]; exact upd_same⟩ (fun i σ H1 hi q => ?_) (fun σ H1 q => ?_)
    · obtain ⟨q, v3, rfl, nq, s1, e1⟩ := q
      walk_at "go"
      refine i_d (fun h => ?_) (fun h => ?_)
      · walk_at "go"
        rename_i p hp
        have hi2 : c.length - i ≠ 0 := fun z => by
          rw [z, List.take_zero] at h
          exact absurd h (by decide)
        obtain ⟨x, hx1, hx2, hx3, hx4⟩ := blk_step hc (i := i) (by omega)
        have s2 := same_new (o := .lst [.int (bnum (c.take (c.length - i)) % 256)]) hp
        refine e_catI (xs := [bnum (c.take (c.length - i)) % 256]) upd_same (s2 _ _ e1) (by have := hc.h4; rw [List.length_drop]; show 1 + _ ≤ _; omega) fun r2 H3 hr2 s3 e3 => ?_
        walk_at "go"
        refine ⟨r2, _, by rw [← hx2]; rfl, (s1.trans s2).free hr2, (s1.trans s2).trans s3, ?_⟩
        rw [hx1] at e3
        rw [hx3]
        exact e3
      · walk_at "go"
        have hi2 : c.length - i = 0 := Nat.eq_zero_of_not_pos fun z => h (by
          obtain ⟨x, hx1, hx2, hx3, hx4⟩ := blk_step hc (i := i) z
          exact hx4)
        have hi3 : c.length - (i + 1) = 0 := by omega
        rw [hi2] at e1
        rw [hi2, hi3]
        exact ⟨q, _, rfl, nq, s1, e1⟩
    · obtain ⟨q, v3, rfl, nq, s1, e1⟩ := q
      have e4 : c.length - (4 : Int).toNat = 0 := by have := hc.h4; show c.length - 4 = 0; omega
      rw [e4, List.drop_zero] at e1
      walk_at "go"
      rename_i p hp
      have s2 := same_new (o := .lst [.int ((c.map V.int).length : Nat)]) hp
      refine e_cat upd_same (s2 _ _ e1) (by rw [List.length_map]; have := hc.h4; show 1 + _ ≤ _; omega) fun r2 hr2 => ?_
      refine k r2 _ ((s1.trans s2).free hr2) ((s1.trans s2).trans (same_new hr2)) ?_
      unfold LstI
      rw [upd_same, List.map_cons, List.length_map]
      rfl
theorem ok_law_entry_written (T : Txt K mg)  (c_law_four : Cal P w K mg base 1 "_law_four" (sp_law_four K)) (c_law_name_written : Cal P w K mg base 1 "_law_name_written" (sp_law_name_written K)) (c_law_vector_written : Cal P w K mg base 2 "_law_vector_written" (sp_law_vector_written K)) (c_law_block_written : Cal P w K mg base 1 "_law_block_written" (sp_law_block_written K)) {f : Addr} {fd : FuncData} (F : FnP K "_law_entry_written" s_law_entry_written f fd) : FnOk P w K mg base CX0 3 f fd ["fields", "number"] (sp_law_entry_written K) := by
  refine F.ok sc_law_entry_written (fun vs H Q E h => ?_) (fun cdv A outer s H vs Q E hr h => ?_)
  · obtain ⟨_, _, rfl, _⟩ := h
    rfl
  · have S := sc_law_entry_written
    refine ⟨_, PSs.nox (pss_cons (ps_asg (pv 0) (pg_tup rfl (pgs_cons (pg_name (i := 2) S.nd rfl (by first | exact .inl rfl | exact .inr rfl)) (pgs_cons (pg_name (i := 3) S.nd rfl (by first | exact .inl rfl | exact .inr rfl)) (pgs_cons (pg_name (i := 4) S.nd rfl (by first | exact .inl rfl | exact .inr rfl)) (pgs_cons (pg_name (i := 5) S.nd rfl (by first | exact .inl rfl | exact .inr rfl)) (pgs_cons (pg_name (i := 6) S.nd rfl (by first | exact .inl rfl | exact .inr rfl)) (pgs_cons (pg_name (i := 7) S.nd rfl (by first | exact .inl rfl | exact .inr rfl)) (pgs_cons (pg_name (i := 8) S.nd rfl (by first | exact .inl rfl | exact .inr rfl)) pgs_nil)))))))))
    (pss_cons (ps_set (i := 9) S.nd rfl (by first | exact .inl rfl | exact .inr rfl) (pe_op op_cat (pe_op op_cat (pe_op op_cat (pe_c c_law_four hr (by decide) (by rfl) (pa_cons (pv 1) pa_nil)) (pe_c c_law_name_written hr (by decide) (by rfl) (pa_cons (pv 2) pa_nil))) (pe_c c_law_vector_written hr (by decide) (by rfl) (pa_cons (pv 3) pa_nil))) (pe_c c_law_four hr (by decide) (by rfl) (pa_cons (pv 4) pa_nil))))
    (pss_cons (ps_set (i := 9) S.nd rfl (by first | exact .inl rfl | exact .inr rfl) (pe_op op_cat (pe_op op_cat (pe_op op_cat (pe_op op_cat (pe_op op_cat (pv 9) (pe_lst (pa_cons (pe_ix ix_tup (pv 5) pe_int (fun _ _ => rfl)) pa_nil))) (pe_c c_law_four hr (by decide) (by rfl) (pa_cons (pe_ix ix_tup (pv 5) pe_int (fun _ _ => rfl)) pa_nil))) (pe_lst (pa_cons (pe_callTy call_int1 (by rfl) T.f_int (by first | rfl | decide +kernel) (pa_cons (pv 6) pa_nil)) pa_nil))) (pe_c c_law_four hr (by decide) (by rfl) (pa_cons (pv 7) pa_nil))) (pe_lst (pa_cons (pe_callB call_len_seq (by rfl) T.f_len (by first | rfl | decide +kernel) (pa_cons (pv 8) pa_nil)) pa_nil))))
    (pss_cons (ps_for PassesOwn.never rfl (pi_tup (pv 8)) (pg_name (i := 10) S.nd rfl (by first | exact .inl rfl | exact .inr rfl))
    (pss_one (ps_expr (pe_bm PySem.F.plainAttrs_list PySem.F.slot_list_extend PySem.F.type_list_extend mt_extend (pv 9) (pa_cons (pe_c c_law_block_written hr (by decide) (by rfl) (pa_cons (pv 10) pa_nil)) pa_nil)))))
    (pss_one (ps_ret (pv 9))))))), ?_⟩
    try dsimp only [cxOf, Cx.nox]
    obtain ⟨_, _, rfl, a, e, n, cs, rfl, rfl, hF, hO, k⟩ := h
    obtain ⟨v, m, bb, h1, h2, h3, h4⟩ := hF
    walk_at "go"
    refine ⟨_, rfl, n, rfl, by have := hO.n; omega, hO.n.2, fun r1 H1 hr1 s1 e1 => ?_⟩
    walk_at "go"
    refine ⟨_, rfl, e.nm, rfl, by have := hO.nm.2.1; omega, fun r2 H2 hr2 s2 e2 => ?_⟩
    have ln : (nmB e.nm).length ≤ 41 := by unfold nmB; rw [List.length_cons, List.length_map, len_tl]; have := hO.nm.2.1; omega
    have lv := vc_len e.vc
    have lv9 := hO.vc.2.1
    refine e_catI (s2 _ _ e1) e2 (by rw [wd_len]; omega) fun r3 H3 hr3 s3 e3 => ?_
    walk_at "go"
    refine ⟨_, rfl, v, e.vc, rfl, h2.same ((s1.trans s2).trans s3), hO.vc, fun r4 H4 hr4 s4 e4 => ?_⟩
    refine e_catI (s4 _ _ e3) e4 (by rw [List.length_append, wd_len]; omega) fun r5 H5 hr5 s5 e5 => ?_
    walk_at "go"
    refine ⟨_, rfl, e.ht, rfl, by have := hO.ht.1; omega, hO.ht.2, fun r6 H6 hr6 s6 e6 => ?_⟩
    refine e_catI (s6 _ _ e5) e6 (by simp only [List.length_append, wd_len]; omega) fun r7 H7 hr7 s7 e7 => ?_
    have s07 := (((s1.trans s2).trans s3).trans (s4.trans s5)).trans (s6.trans s7)
    have hr7 : H r7 = none := ((((s1.trans s2).trans s3).trans (s4.trans s5)).trans s6).free hr7
    have l7 : (wd n 4 ++ nmB e.nm ++ vcB e.vc ++ wd e.ht 4).length ≤ 200 := by simp only [List.length_append, wd_len]; omega
    clear s1 s2 s3 s4 s5 s6 s7 e1 e2 e3 e4 e5 e6
    generalize hx1 : wd n 4 ++ nmB e.nm ++ vcB e.vc ++ wd e.ht 4 = x1 at e7 l7
    have M7 := same_tup s07 h3
    walk_at "go"
    refine e_ixT M7 rfl ?_
    walk_at "go"
    rename_i r8 hr8
    have s8 := same_new (o := .lst [.int e.mr.1]) hr8
    refine e_catI (ys := [e.mr.1]) (s8 _ _ e7) upd_same (by show _ + 1 ≤ _; omega) fun r9 H9 hr9 s9 e9 => ?_
    walk_at "go"
    refine e_ixT (same_tup (s8.trans s9) M7) rfl ?_
    walk_at "go"
    refine ⟨_, rfl, e.mr.2, rfl, by have := hO.mr; omega, hO.mr.2.2.2, fun r10 H10 hr10 s10 e10 => ?_⟩
    refine e_catI (s10 _ _ e9) e10 (by simp only [List.length_append, wd_len, List.length_cons, List.length_nil]; omega) fun r11 H11 hr11 s11 e11 => ?_
    walk_at "go"
    refine .inr ⟨_, rfl, ?_⟩
    walk_at "go"
    rename_i r12 hr12
    have s12 := same_new (o := .lst [.int (if e.dl = true then 1 else 0)]) hr12
    refine e_catI (ys := [if e.dl = true then 1 else 0]) (s12 _ _ e11) upd_same (by simp only [List.length_append, wd_len, List.length_cons, List.length_nil]; omega) fun r13 H13 hr13 s13 e13 => ?_
    walk_at "go"
    refine ⟨_, rfl, e.tm, rfl, hO.tm.1, hO.tm.2, fun r14 H14 hr14 s14 e14 => ?_⟩
    refine e_catI (s14 _ _ e13) e14 (by simp only [List.length_append, wd_len, List.length_cons, List.length_nil]; omega) fun r15 H15 hr15 s15 e15 => ?_
    have s15a := s07.trans (((s8.trans s9).trans (s10.trans s11)).trans ((s12.trans s13).trans (s14.trans s15)))
    have B15 := same_tup s15a h4
    walk_at "go"
    rename_i r16 hr16
    have s16 := same_new (o := .lst [.int ((e.bl.map V.int).length : Nat)]) hr16
    refine e_catI (ys := [((e.bl.map V.int).length : Int)]) (s16 _ _ e15) upd_same (by simp only [List.length_append, wd_len, List.length_cons, List.length_nil]; omega) fun r17 H17 hr17 s17 e17 => ?_
    have s17a := s15a.trans (s16.trans s17)
    have nr17 : H r17 = none := (s15a.trans s16).free hr17
    have B17 := same_tup s17a h4
    rw [List.length_map] at e17
    have ke : enB e n = x1 ++ [e.mr.1] ++ wd e.mr.2 4 ++ [if e.dl = true then 1 else 0] ++ wd e.tm 4 ++ [(e.bl.length : Int)] ++ cs.flatMap fun c => (c.length : Int) :: c := by
      have := enB_eq hO
      unfold bcB at this
      rw [this, ← hx1, hO.bl, List.length_map]
      simp only [List.append_assoc, List.cons_append, List.nil_append]
    have lb : (x1 ++ [e.mr.1] ++ wd e.mr.2 4 ++ [if e.dl = true then 1 else 0] ++ wd e.tm 4 ++ [(e.bl.length : Int)]).length ≤ 300 := by simp only [List.length_append, wd_len, List.length_cons, List.length_nil]; omega
    generalize x1 ++ [e.mr.1] ++ wd e.mr.2 4 ++ [if e.dl = true then 1 else 0] ++ wd e.tm 4 ++ [(e.bl.length : Int)] = x2 at e17 lb ke
    clear s8 s9 s10 s11 s12 s13 s14 s15 s16 s17 e7 e9 e10 e11 e13 e14 e15 M7 B15 s15a s07
    walk_at "go"
    refine for_tup (K := K) (xs := e.bl.map V.int) (fun i σ H1 => (∃ v10, σ = [some (.ref a), some (.int n), some (.str e.nm), some (.ref v), some (.int e.ht), some (.ref m), some (.bl e.dl), some (.int e.tm), some (.ref bb), some (.ref r17), v10]) ∧ Same H H1 ∧ LstI H1 r17 (x2 ++ (cs.take i).flatMap fun c => (c.length : Int) :: c)) ⟨⟨_, rfl⟩, s17a, by simpa using e17⟩ (fun i σ H1 _ q => same_tup q.2.1 h4) (fun i x σ H1 hx q => ?_) (fun σ H1 q => ?_)
    · obtain ⟨⟨v10, rfl⟩, s18, e18⟩ := q
      rw [hO.bl, List.getElem?_map, List.getElem?_map] at hx
      obtain ⟨b, hb, rfl⟩ := Option.map_eq_some_iff.mp hx
      obtain ⟨c, hc, rfl⟩ := Option.map_eq_some_iff.mp hb
      have hcp := hO.cs.p c (List.mem_of_getElem? hc)
      have hcl := (List.getElem?_eq_some_iff.mp hc).1
      have hl255 := hO.cs.l
      have lf : ((cs.take i).flatMap fun c => (c.length : Int) :: c).length ≤ 5 * i := by
        have key : ∀ ds : List (List Int), (∀ c ∈ ds, Piece c) → (ds.flatMap fun c => (c.length : Int) :: c).length ≤ 5 * ds.length := fun ds => by
          induction ds with
          | nil => intro _; exact Nat.zero_le _
          | cons d ds ih =>
            intro hd
            have h1 := (hd d (List.mem_cons_self ..)).h4
            have h2 := ih fun x m => hd x (List.mem_cons_of_mem _ m)
            rw [List.flatMap_cons, List.length_append, List.length_cons, List.length_cons]
            omega
        have := key (cs.take i) fun c m => hO.cs.p c (List.mem_of_mem_take m)
        rw [List.length_take] at this
        omega
      walk_at "go"
      refine ⟨_, rfl, c, rfl, hcp, fun r19 H19 hr19 s19 e19 => ?_⟩
      walk_at "go"
      refine e_extI (s19 _ _ e18) e19 (by have := hcp.h4; rw [List.length_append, List.length_cons]; omega) fun H21 f21 e21 => ?_
      refine ⟨⟨_, rfl⟩, same_fr (s18.trans s19) nr17 f21, ?_⟩
      rw [List.take_add_one, hc, List.flatMap_append, ← List.append_assoc]
      simpa using e21
    · obtain ⟨⟨v10, rfl⟩, s18, e18⟩ := q
      rw [List.length_map, hO.bl, List.length_map, List.take_length, ← ke] at e18
      walk_at "go"
      exact k r17 H1 nr17 s18 e18
theorem ok_law_fields (T : Txt K mg)   {f : Addr} {fd : FuncData} (F : FnP K "_law_fields" s_law_fields f fd) : FnOk P w K mg base CX0 1 f fd ["entry"] (sp_law_fields K) := by
  refine F.ok sc_law_fields (fun vs H Q E h => ?_) (fun cdv A outer s H vs Q E hr h => ?_)
  · obtain ⟨_, rfl, _⟩ := h
    rfl
  · have S := sc_law_fields
    refine ⟨_, PSs.nox (pss_cons (ps_if (pw_or (pt_not (pt_val (pe_callB call_isi (by rfl) T.f_isinstance (by first | rfl | decide +kernel) (pa_cons (pv 0) (pa_cons (pe_glob (v := V.ref (He.ga K "Entry")) (by rfl) T.g_Entry rfl) pa_nil))))) (pw_or1 (pt_not (pt_val (pe_callB call_isi (by rfl) T.f_isinstance (by first | rfl | decide +kernel) (pa_cons (pe_fld (pv 0) rfl) (pa_cons (pe_bltn (v := .ty "bool") (by rfl) T.f_bool (by first | rfl | decide +kernel) rfl) pa_nil))))))).pt
    (pss_one (ps_ret pe_non))
    pss_nil)
    (pss_one (ps_ret (pe_tup (pa_cons (pe_fld (pv 0) rfl) (pa_cons (pe_fld (pv 0) rfl) (pa_cons (pe_fld (pv 0) rfl) (pa_cons (pe_fld (pv 0) rfl) (pa_cons (pe_fld (pv 0) rfl) (pa_cons (pe_fld (pv 0) rfl) (pa_cons (pe_fld (pv 0) rfl) pa_nil))))))))))), ?_⟩
    try dsimp only [cxOf, Cx.nox]
    have t : ET K := ⟨T.cl_Entry, T.no_Entry_name, T.no_Entry_vector, T.no_Entry_height, T.no_Entry_maker, T.no_Entry_deleted, T.no_Entry_time, T.no_Entry_blocks⟩
    obtain ⟨_, rfl, a, q, e, rfl, hE, k⟩ := h
    have ct := T.ct_Entry
    obtain ⟨dx, _, _, _, fs, ha, _⟩ := id hE
    walk_at "go"
    refine ⟨.ref a, .ref _, _, _, true, rfl, .own _, .base (.ins ha T.cl_Entry ct.ha ct.hn ct.htk ct.hm), ct.own, ?_⟩
    walk_at "go"
    rename_i v1 w1 v2 w2 v3 w3 p hp
    have s1 := same_new (o := .tup [.str e.nm, .ref v1, .int e.ht, .ref v2, .bl e.dl, .int e.tm, .ref v3]) hp
    exact k p _ s1 ⟨v1, v2, v3, SqT.of upd_same, w1.1.same s1, same_tup s1 w2, same_tup s1 w3⟩
theorem ok_law_take (T : Txt K mg)   {f : Addr} {fd : FuncData} (F : FnP K "_law_take" s_law_take f fd) : FnOk P w K mg base CX0 1 f fd ["data", "box", "least", "most"] (sp_law_take K) := by
  refine F.ok sc_law_take (fun vs H Q E h => ?_) (fun cdv A outer s H vs Q E hr h => ?_)
  · obtain ⟨_, _, _, _, rfl, _⟩ := h
    rfl
  · have S := sc_law_take
    refine ⟨_, PSs.nox (C8.pss_cut (ps_if (pw_and (pt_cmpR op_lt (pe_ix ix_list (pv 1) pe_int (fun _ _ => rfl)) pe_int (nomark _)) (pw_and1 (pw_or (pt_cmpR op_ge (pe_ix ix_list (pv 1) pe_int (fun _ _ => rfl)) (pe_callB call_len_seq (by rfl) T.f_len (by first | rfl | decide +kernel) (pa_cons (pv 0) pa_nil)) (nomark _)) (pw_or1 (pt_not (pt_chain op_le op_le (pv 2) (pe_ix ix_list (pv 0) (pe_ix ix_list (pv 1) pe_int (fun _ _ => rfl)) (fun _ _ => rfl)) (pv 3))))).pt)).pt
    (pss_one (ps_asg (pe_ix ix_list (pv 1) pe_int (fun _ _ => rfl)) (pg_sub (pv 1) pe_int set_list)))
    pss_nil)
    (pss_cons (ps_if (pt_cmpR op_ge (pe_ix ix_list (pv 1) pe_int (fun _ _ => rfl)) pe_int (nomark _))
    (pss_one (ps_ret (pv 2)))
    pss_nil)
    (pss_cons (ps_asg (pe_op op_add (pe_ix ix_list (pv 1) pe_int (fun _ _ => rfl)) pe_int) (pg_sub (pv 1) pe_int set_list))
    (pss_one (ps_ret (pe_ix ix_list (pv 0) (pe_op op_sub (pe_ix ix_list (pv 1) pe_int (fun _ _ => rfl)) pe_int) (fun _ _ => rfl))))))), ?_⟩
    try dsimp only [cxOf, Cx.nox]
    obtain ⟨_, _, _, _, rfl, lo, hi, rfl, rfl, l, b, dd, s, rfl, rfl, hX, k⟩ := h
    obtain ⟨p, o⟩ := s
    have hS := SqL.of (K := K) hX.da
    have nlb := hX.ne
    have hle : p ≤ dd.length := hX.le
    refine e_cut (Mid := fun σ' H' => σ' = [some (.ref l), some (.ref b), some (.int lo), some (.int hi)] ∧ ((H' = H ∧ o = none ∧ ∃ v, pByte lo hi dd p = .ok (v, p + 1) ∧ dd[p]? = some v) ∨ ∃ n : Nat, H' b = some (.lst [.int (p : Nat), .int (n : Nat)]) ∧ Q (.int lo) H')) ?_ fun σ' H' q => ?_
    · cases o with
      | some n =>
        have hb : H b = some (.lst [.int (p : Nat), .int (n : Nat)]) := hX.bx
        walk_at "go"
        refine e_ixL (SqL.of hb) rfl ?_
        walk_at "go"
        refine i_d (fun z => by omega) (fun _ => ?_)
        walk_at "go"
        exact ⟨rfl, .inr ⟨n, hb, k (p, some n) none _ H ⟨n, rfl, .inl rfl⟩ (Fr.refl _ _) hX ⟨lo, rfl, (fun _ z => by cases z), fun _ => rfl⟩⟩⟩
      | none =>
        have hb : H b = some (.lst [.int (p : Nat), .int (-1)]) := hX.bx
        have bad : (∀ v, dd[p]? = some v → ¬ (lo ≤ v ∧ v ≤ hi)) → pByte lo hi dd p = .error p := fun z => by
          unfold pByte
          cases e : dd[p]? with
          | none =>
            have := List.getElem?_eq_none_iff.mp e
            show Except.error dd.length = Except.error p
            rw [show dd.length = p by omega]
          | some v => exact if_pos (by have := z v e; omega)
        have fin : (∀ v, dd[p]? = some v → ¬ (lo ≤ v ∧ v ≤ hi)) → Q (.int lo) (upd H b (.lst [.int (p : Nat), .int (p : Nat)])) := fun z => by
          refine k (p, some p) none _ _ ⟨p, rfl, .inr ⟨rfl, bad z⟩⟩ ((Fr.refl _ _).put (List.mem_cons_self ..)) ⟨?_, nlb, hX.B, hle, upd_same⟩ ⟨lo, rfl, (fun _ z => by cases z), fun _ => rfl⟩
          unfold LstI
          rw [upd_ne nlb]; exact hX.da
        walk_at "go"
        refine e_ixL (SqL.of hb) rfl ?_
        walk_at "go"
        refine i_d (fun _ => ?_) (fun z => absurd (by decide) z)
        walk_at "go"
        refine e_ixL (SqL.of hb) rfl ?_
        walk_at "go"
        rw [List.length_map]
        refine i_d (fun z => ?_) (fun z => ?_)
        · walk_at "go"
          refine e_ixL (SqL.of hb) rfl ?_
          walk_at "go"
          refine e_setL hb rfl ?_
          exact ⟨rfl, .inr ⟨p, upd_same, fin fun v gv => by rw [List.getElem?_eq_none (by omega)] at gv; cases gv⟩⟩
        have gp := List.getElem?_eq_getElem (l := dd) (i := p) (by omega)
        generalize dd[p]'(by omega) = v at gp
        walk_at "go"
        refine e_ixL (SqL.of hb) rfl ?_
        walk_at "go"
        refine e_ixL hS (at_of (j := p) rfl (by rw [List.getElem?_map, gp]; rfl)) ?_
        walk_at "go"
        refine i_d (fun z1 => ?_) (fun z1 => ?_)
        · walk_at "go"
          refine i_nd (fun z2 => ?_) (fun z2 => ?_)
          rotate_left
          · walk_at "go"
            exact ⟨rfl, .inl ⟨rfl, rfl, v, byte_yes gp z1 z2, gp⟩⟩
          · walk_at "go"
            refine e_ixL (SqL.of hb) rfl ?_
            walk_at "go"
            refine e_setL hb rfl ?_
            exact ⟨rfl, .inr ⟨p, upd_same, fin fun v2 gv c => by rw [gp] at gv; cases gv; exact z2 c.2⟩⟩
        · walk_at "go"
          refine e_ixL (SqL.of hb) rfl ?_
          walk_at "go"
          refine e_setL hb rfl ?_
          exact ⟨rfl, .inr ⟨p, upd_same, fin fun v2 gv c => by rw [gp] at gv; cases gv; exact z1 c.1⟩⟩
    · obtain ⟨rfl, q | q⟩ := q
      · obtain ⟨rfl, rfl, v, e1, gp⟩ := q
        have hb : H' b = some (.lst [.int (p : Nat), .int (-1)]) := hX.bx
        have hlt := (List.getElem?_eq_some_iff.mp gp).1
        walk_at "go"
        refine e_ixL (SqL.of hb) rfl ?_
        walk_at "go"
        refine i_d (fun z => absurd z (by decide)) (fun _ => ?_)
        walk_at "go"
        refine e_ixL (SqL.of hb) rfl ?_
        walk_at "go"
        refine e_setL hb rfl ?_
        walk_at "go"
        have hX2 : BxS (upd H' b (.lst [.int ((p : Nat) + 1 : Int), .int (-1)])) l b dd (p + 1, none) := ⟨by unfold LstI; rw [upd_ne nlb]; exact hX.da, nlb, hX.B, hlt, upd_same⟩
        refine e_ixL (SqL.of upd_same) rfl ?_
        walk_at "go"
        refine e_ixL (SqL.of hX2.da) (at_of (j := p) (by omega) (by rw [List.getElem?_map, gp]; rfl)) ?_
        exact k (p + 1, none) (some v) _ _ ⟨rfl, rfl, e1⟩ ((Fr.refl _ _).put (List.mem_cons_self ..)) hX2 ⟨v, rfl, (fun _ z => by cases z; rfl), (fun z => by cases z)⟩
      · obtain ⟨n, hb, q⟩ := q
        walk_at "go"
        refine e_ixL (SqL.of hb) rfl ?_
        walk_at "go"
        refine i_d (fun _ => ?_) (fun z => by omega)
        walk_at "go"
        exact q
theorem ok_law_number_read (T : Txt K mg)  (c_law_take : Cal P w K mg base 1 "_law_take" (sp_law_take K)) {f : Addr} {fd : FuncData} (F : FnP K "_law_number_read" s_law_number_read f fd) : FnOk P w K mg base CX0 2 f fd ["data", "box", "least"] (sp_law_number_read K) := by
  refine F.ok sc_law_number_read (fun vs H Q E h => ?_) (fun cdv A outer s H vs Q E hr h => ?_)
  · obtain ⟨_, _, _, rfl, _⟩ := h
    rfl
  · have S := sc_law_number_read
    refine ⟨_, PSs.nox (pss_cons (ps_set (i := 3) S.nd rfl (by first | exact .inl rfl | exact .inr rfl) pe_int)
    (pss_cons (ps_for PassesOwn.never rfl (pi_range1 (by rfl) T.f_range (pa_cons pe_int pa_nil)) (pg_name (i := 4) S.nd rfl (by first | exact .inl rfl | exact .inr rfl))
    (pss_one (ps_set (i := 3) S.nd rfl (by first | exact .inl rfl | exact .inr rfl) (pe_op op_add (pe_op op_mul pe_int (pv 3)) (pe_c c_law_take hr (by decide) (by rfl) (pa_cons (pv 0) (pa_cons (pv 1) (pa_cons pe_int (pa_cons pe_int pa_nil)))))))))
    (C8.pss_cut (ps_if (pt_cmpR op_gt (pv 3) pe_int (nomark _))
    (pss_one (ps_set (i := 2) S.nd rfl (by first | exact .inl rfl | exact .inr rfl) pe_int))
    pss_nil)
    (pss_one (ps_ret (pe_op op_add (pe_op op_mul pe_int (pv 3)) (pe_c c_law_take hr (by decide) (by rfl) (pa_cons (pv 0) (pa_cons (pv 1) (pa_cons (pv 2) (pa_cons pe_int pa_nil))))))))))), ?_⟩
    try dsimp only [cxOf, Cx.nox]
    obtain ⟨_, _, _, rfl, lo, rfl, lo0, lo1, l, b, dd, s, rfl, rfl, hX, k⟩ := h
    walk_at "go"
    refine for_rng (fun i σ H1 => ∃ (v : Int) (s1 : BS) (v4 : Option V), σ = [some (.ref l), some (.ref b), some (.int lo), some (.int v), v4] ∧ 0 ≤ v ∧ Fr [b] H H1 ∧ BxS H1 l b dd s1 ∧ Go (pNum lo dd s.1) (fun q => pNumL lo (4 - i) v dd q) s s1) ⟨0, s, none, rfl, by decide, Fr.refl _ _, hX, .start rfl⟩ (fun i σ H1 hi q => ?_) (fun σ H1 q => ?_)
    · obtain ⟨v, s1, v4, rfl, v0, f1, X1, G1⟩ := q
      have hi : i < 3 := hi
      have e4 : pNumL lo (4 - i) v = thenP (pByte 0 255) fun b => pNumL lo (4 - (i + 1)) (v * 256 + b) := by
        rw [show 4 - i = (4 - (i + 1)) + 1 by omega, pNumL, if_neg (by omega)]
      walk_at "go"
      refine ⟨_, _, _, _, rfl, 0, 255, rfl, rfl, l, b, dd, s1, rfl, rfl, X1, fun s2 o r H2 N2 f2 X2 hr => ?_⟩
      obtain ⟨w, rfl, hw1, hw2⟩ := hr
      have w0 : 0 ≤ w := by
        cases o with
        | none => rw [hw2 rfl]; decide
        | some x => rw [hw1 x rfl]; exact (byte_ok N2.2.2).1
      walk_at "go"
      refine ⟨256 * v + w, s2, _, rfl, by omega, f1.trans f2, X2, G1.step N2 (fun m e => ?_) fun x ex e => ?_⟩
      · show pNumL lo (4 - i) v dd s1.1 = _
        rw [e4]; exact then_err e
      · show pNumL lo (4 - i) v dd s1.1 = _
        rw [e4, then_ok e, hw1 x ex, Int.mul_comm v]
    · obtain ⟨v, s1, v4, rfl, v0, f1, X1, G1⟩ := q
      refine e_cut (Mid := fun σ' H' => σ' = [some (.ref l), some (.ref b), some (.int (if v = 0 then lo else 0)), some (.int v), v4] ∧ H' = H1) ?_ fun σ' H' q => ?_
      · walk_at "go"
        refine i_d (fun h => ?_) (fun h => ?_)
        · walk_at "go"
          rw [if_neg (by omega)]
          exact ⟨rfl, rfl⟩
        · walk_at "go"
          rw [if_pos (by omega)]
          exact ⟨rfl, rfl⟩
      obtain ⟨rfl, rfl⟩ := q
      have e4 : pNumL lo (4 - Int.toNat 3) v = thenP (pByte (if v = 0 then lo else 0) 255) fun b => retP (v * 256 + b) := by
        show thenP (pByte (if 0 = 0 ∧ v = 0 then lo else 0) 255) (fun b => pNumL lo 0 (v * 256 + b)) = _
        by_cases c : v = 0
        · rw [if_pos c, if_pos ⟨rfl, c⟩]; rfl
        · rw [if_neg c, if_neg fun z => c z.2]; rfl
      walk_at "go"
      refine ⟨_, _, _, _, rfl, (if v = 0 then lo else 0), 255, rfl, rfl, l, b, dd, s1, rfl, rfl, X1, fun s2 o r H2 N2 f2 X2 hr => ?_⟩
      obtain ⟨w, rfl, hw1, hw2⟩ := hr
      walk_at "go"
      obtain ⟨o2, N3, e3⟩ := Go.nx (f := pNum lo) (v := 256 * v + w) (C := fun q => .ok (256 * v + w, q)) (G1.step N2 (fun m e => by rw [e4]; exact then_err e) fun x ex e => by
        rw [e4, then_ok e, hw1 x ex, Int.mul_comm v]
        rfl) rfl
      exact k s2 o2 _ H2 N3 (f1.trans f2) X2 ⟨_, rfl, fun x e => (e3 x e).symm⟩
theorem ok_law_name_read (T : Txt K mg)  (c_law_take : Cal P w K mg base 1 "_law_take" (sp_law_take K)) (c_law_all : Cal P w K mg base 1 "_law_all" (sp_law_all K)) {f : Addr} {fd : FuncData} (F : FnP K "_law_name_read" s_law_name_read f fd) : FnOk P w K mg base CX0 2 f fd ["data", "box"] (sp_law_name_read K) := by
  refine F.ok sc_law_name_read (fun vs H Q E h => ?_) (fun cdv A outer s H vs Q E hr h => ?_)
  · obtain ⟨_, _, rfl, _⟩ := h
    rfl
  · have S := sc_law_name_read
    refine ⟨_, PSs.nox (pss_cons (ps_set (i := 2) S.nd rfl (by first | exact .inl rfl | exact .inr rfl) pe_str)
    (pss_cons (ps_for PassesOwn.never rfl (pi_range1 (by rfl) T.f_range (pa_cons (pe_c c_law_take hr (by decide) (by rfl) (pa_cons (pv 0) (pa_cons (pv 1) (pa_cons pe_int (pa_cons pe_int pa_nil))))) pa_nil)) (pg_name (i := 3) S.nd rfl (by first | exact .inl rfl | exact .inr rfl))
    (pss_cons (ps_set (i := 4) S.nd rfl (by first | exact .inl rfl | exact .inr rfl) (pe_c c_law_take hr (by decide) (by rfl) (pa_cons (pv 0) (pa_cons (pv 1) (pa_cons pe_int (pa_cons pe_int pa_nil))))))
      (pss_cons (ps_setLc (i := 5) (own := [("char", 6)]) (g := gName 6) rfl S.nd rfl rfl (sw_true rfl rfl rfl (by decide +kernel)) (pi_str (pe_c0 c_law_all hr (by decide) (by rfl))) (blkOk_by (N := N_law_name_read) (sc := defScope s_law_name_read) (by decide +kernel)) (fun _ _ _ _ _ => (pg_name (i := 6) S.nd rfl (by first | exact .inl rfl | exact .inr rfl))) (fun _ _ _ _ _ => (pts_one (pt_cmpR op_eq (pe_callB call_ord (by rfl) T.f_ord (by first | rfl | decide +kernel) (pa_cons (pv 6) pa_nil)) (pv 4) (nomark _)))) (fun _ _ _ _ _ => (pv 6)))
      (C8.pss_cut (ps_if (pw_and (pt_cmpR op_lt (pe_ix ix_list (pv 1) pe_int (fun _ _ => rfl)) pe_int (nomark _)) (pw_and1 (pt_cmpR op_eq (pe_callB call_len_seq (by rfl) T.f_len (by first | rfl | decide +kernel) (pa_cons (pv 5) pa_nil)) pe_int (nomark _)))).pt
      (pss_one (ps_asg (pe_op op_sub (pe_ix ix_list (pv 1) pe_int (fun _ _ => rfl)) pe_int) (pg_sub (pv 1) pe_int set_list)))
      pss_nil)
      (pss_one (ps_set (i := 2) S.nd rfl (by first | exact .inl rfl | exact .inr rfl) (pe_op op_add_str (pv 2) (pe_join pe_str (pv 5)))))))))
    (pss_one (ps_ret (pv 2))))), ?_⟩
    try dsimp only [cxOf, Cx.nox]
    obtain ⟨_, _, rfl, l, b, dd, s, rfl, rfl, hX, k⟩ := h
    walk_at "go"
    refine ⟨_, _, _, _, rfl, 1, 40, rfl, rfl, l, b, dd, s, rfl, rfl, hX, fun s1 o1 r1 H1 N1 f1 X1 hr1 => ?_⟩
    obtain ⟨m, rfl, hm1, hm2⟩ := hr1
    have hm : 1 ≤ m ∧ m ≤ 40 := by
      cases o1 with
      | none => rw [hm2 rfl]; decide
      | some x => rw [hm1 x rfl]; have := byte_ok N1.2.2; exact ⟨this.1, this.2.1⟩
    have G1 : Go (pName dd s.1) (fun q => thenP (pMany pChr m.toNat) (fun cs => retP (⟨cs.toArray⟩ : Str)) dd q) s s1 := (Go.start rfl).step N1 (fun n e => then_err e) fun x ex e => by
      rw [hm1 x ex]
      exact then_ok e
    walk_at "go"
    refine for_rng (fun i σ H2 => ∃ (z : Str) (s2 : BS) (v3 v4 v5 v6 : Option V), σ = [some (.ref l), some (.ref b), some (.str z), v3, v4, v5, v6] ∧ z.length ≤ i ∧ Fr [b] H H2 ∧ BxS H2 l b dd s2 ∧ Go (pName dd s.1) (fun q => mapP mkS (mapP (z.cps.toList ++ ·) (pMany pChr (m.toNat - i) dd q))) s s2) ⟨Str.ofString "", s1, none, none, none, none, rfl, ?_, f1, X1, ?_⟩ (fun i σ H2 hi q => ?_) (fun σ H2 q => ?_)
    · decide +kernel
    · refine G1.conv fun q => ?_
      rw [show (Str.ofString "").cps.toList = [] by decide +kernel, ← many_start]
      cases e : pMany pChr m.toNat dd q with
      | error n => exact then_err e
      | ok x => obtain ⟨cs, r⟩ := x; exact then_ok e
    · obtain ⟨z, s2, v3, v4, v5, v6, rfl, lz, f2, X2, G2⟩ := q
      walk_at "go"
      refine ⟨_, _, _, _, rfl, 45, 126, rfl, rfl, l, b, dd, s2, rfl, rfl, X2, fun s3 o r H3 N3 f3 X3 hr => ?_⟩
      obtain ⟨w, rfl, hw1, hw2⟩ := hr
      have hw : 45 ≤ w ∧ w ≤ 126 := by
        cases o with
        | none => rw [hw2 rfl]; decide
        | some x => rw [hw1 x rfl]; have := byte_ok N3.2.2; exact ⟨this.1, this.2.1⟩
      walk_at "go"
      refine ⟨rfl, ?_⟩
      walk_at "go"
      intro D hD
      have nD := X3.free hD
      refine lc_str (fun pre H4 => Same H3 H4 ∧ H4 D = some (.lst ((pre.filter fun c => decide (c = w.toNat)).map fun c => V.str ⟨#[c]⟩)) ∧ pre.length ≤ 100) ⟨same_new hD, upd_same, by decide⟩ (fun pre c post H4 e q => ?_) (fun H4 q => ?_)
      · obtain ⟨s4, e4, l4⟩ := q
        have l5 : pre.length + 1 ≤ 100 := by
          have h2 : CH.length ≤ 100 := by decide +kernel
          rw [show CH = pre ++ c :: post from e, List.length_append, List.length_cons] at h2
          omega
        walk_at "go"
        refine ⟨_, rfl, rfl, ?_⟩
        walk_at "go"
        show if decide (((c : Nat) : Int) = w) = true then _ else _
        refine i_d (fun h => ?_) (fun h => ?_)
        · walk_at "go"
          refine ⟨_, e4, by rw [List.length_map]; exact Nat.lt_of_le_of_lt (Nat.le_trans (List.length_filter_le ..) (by omega : _ ≤ 100)) (by decide), Same.mut s4 hD, ?_, by rw [List.length_append]; exact l5⟩
          rw [upd_same, List.filter_append, List.filter_cons_of_pos (by rw [decide_eq_true_iff]; omega), List.map_append]
          rfl
        · refine ⟨s4, ?_, by rw [List.length_append]; exact l5⟩
          rw [e4, List.filter_append, List.filter_cons_of_neg (by rw [decide_eq_true_iff]; omega), List.filter_nil, List.append_nil]
      obtain ⟨s4, e4, _⟩ := q
      have hfl := chr_flt w.toNat (by omega)
      have e4 : H4 D = some (.lst ((CH.filter fun c => decide (c = w.toNat)).map fun c => V.str ⟨#[c]⟩)) := e4
      rw [hfl] at e4
      have X4 := X3.same s4
      have f4 := (f2.trans f3).same s4
      walk_at "go"
      refine e_cut (Mid := fun σ' H' => ∃ (s5 : BS) (o5 : Option Nat) (fl : List Nat) (v3 v6 : Option V), σ' = [some (.ref l), some (.ref b), some (.str z), v3, some (.int w), some (.ref D), v6] ∧ fl.length ≤ 1 ∧ H' D = some (.lst (fl.map fun c => V.str ⟨#[c]⟩)) ∧ Fr [b] H H' ∧ BxS H' l b dd s5 ∧ Nx pChr dd s2 s5 o5 ∧ (∀ c, o5 = some c → fl = [c])) ?_ fun σ' H5 q => ?_
      · obtain ⟨p3, o3⟩ := s3
        cases o with
        | some x =>
          obtain ⟨hs2, hs3, e9⟩ := N3
          have hs3 : o3 = none := hs3
          subst hs3
          have hwx := hw1 x rfl
          subst hwx
          have hg := chr_good e9
          have hb : H4 b = some (.lst [.int (p3 : Nat), .int (-1)]) := X4.bx
          have hb9 := byte_ok e9
          have hp3 : p3 = s2.1 + 1 := hb9.2.2.1
          walk_at "go"
          refine e_ixL (SqL.of hb) rfl ?_
          walk_at "go"
          refine i_d (fun _ => ?_) (fun z => absurd (by decide) z)
          by_cases hc : w.toNat ∈ CH
          · rw [if_pos hc] at e4 hg
            walk_at "go"
            exact ⟨(p3, none), some w.toNat, [w.toNat], _, _, rfl, Nat.le_refl _, e4, f4, X4, ⟨hs2, rfl, hg⟩, fun c ec => by cases ec; rfl⟩
          · rw [if_neg hc] at e4 hg
            walk_at "go"
            refine i_d (fun _ => ?_) (fun z => absurd rfl z)
            walk_at "go"
            refine e_ixL (SqL.of hb) rfl ?_
            walk_at "go"
            refine e_setL hb rfl ?_
            refine ⟨(p3, some s2.1), none, [], _, _, rfl, by decide, ?_, f4.put (List.mem_cons_self ..), ⟨?_, X4.ne, X4.B, X4.le, ?_⟩, ⟨s2.1, rfl, .inr ⟨hs2, hg⟩⟩, fun c ec => by cases ec⟩
            · rw [upd_ne nD.2]; exact e4
            · unfold LstI; rw [upd_ne X4.ne]; exact X4.da
            · unfold LstI
              rw [upd_same, hp3]
              show some (HO.lst [V.int ((s2.1 + 1 : Nat) : Int), V.int (((s2.1 + 1 : Nat) : Int) - 1)]) = some (HO.lst [V.int ((s2.1 + 1 : Nat) : Int), V.int ((s2.1 : Nat) : Int)])
              rw [show ((s2.1 + 1 : Nat) : Int) - 1 = ((s2.1 : Nat) : Int) by omega]
        | none =>
          obtain ⟨n, hn, h9⟩ := N3
          have hn : o3 = some n := hn
          subst hn
          have hb : H4 b = some (.lst [.int (p3 : Nat), .int (n : Nat)]) := X4.bx
          walk_at "go"
          refine e_ixL (SqL.of hb) rfl ?_
          walk_at "go"
          refine i_d (fun z => by omega) (fun _ => ?_)
          walk_at "go"
          refine ⟨(p3, some n), none, _, _, _, rfl, ?_, e4, f4, X4, ⟨n, rfl, h9.imp id fun c => ⟨c.1, chr_bad hX.B c.2⟩⟩, fun c ec => by cases ec⟩
          split <;> simp
      obtain ⟨s5, o5, fl, v3, v6, rfl, lf, e5, f5, X5, N5, hfl5⟩ := q
      walk_at "go"
      have ej := joinC (mkS fl)
      rw [show (mkS fl).cps.toList = fl from rfl] at ej
      have lfl : (mkS fl).length = fl.length := rfl
      refine ⟨_, D, fl.map (fun c => (⟨#[c]⟩ : Str)), rfl, rfl, .inl (SqL.of (by rw [e5, List.map_map]; rfl)), ?_, ?_⟩
      · rw [List.map_map, List.length_map, chr_sum fl]
        show _ + _ * 0 ≤ _
        omega
      rw [ej]
      walk_at "go"
      refine ⟨_, _, rfl, rfl, sz_of (by omega), ?_⟩
      walk_at "go"
      have et : (z ++ mkS fl).cps.toList = z.cps.toList ++ fl := TL.tl_append _ _
      refine ⟨z ++ mkS fl, s5, _, _, _, _, rfl, by rw [len_app]; omega, f5, X5, G2.step N5 (fun n e => congrArg (mapP mkS) (many_err hi e rfl)) fun x ex e => ?_⟩
      rw [et, hfl5 x ex]
      exact congrArg (mapP mkS) (many_ok hi e rfl)
    · obtain ⟨z, s2, v3, v4, v5, v6, rfl, lz, f2, X2, G2⟩ := q
      walk_at "go"
      obtain ⟨o2, N3, e3⟩ := Go.nx G2 (v := z) ((congrArg (mapP mkS) (many_end rfl)).trans (by show Except.ok (mkS z.cps.toList, _) = _; rw [mkS_tl]))
      exact k s2 o2 _ H2 N3 f2 X2 ⟨z, rfl, fun x e => (e3 x e).symm⟩
theorem ok_law_vector_read (T : Txt K mg)  (c_law_take : Cal P w K mg base 1 "_law_take" (sp_law_take K)) (c_law_number_read : Cal P w K mg base 2 "_law_number_read" (sp_law_number_read K)) {f : Addr} {fd : FuncData} (F : FnP K "_law_vector_read" s_law_vector_read f fd) : FnOk P w K mg base CX0 3 f fd ["data", "box"] (sp_law_vector_read K) := by
  refine F.ok sc_law_vector_read (fun vs H Q E h => ?_) (fun cdv A outer s H vs Q E hr h => ?_)
  · obtain ⟨_, _, rfl, _⟩ := h
    rfl
  · have S := sc_law_vector_read
    refine ⟨_, PSs.nox (pss_cons (ps_set (i := 2) S.nd rfl (by first | exact .inl rfl | exact .inr rfl) (pe_lst pa_nil))
    (pss_cons (ps_set (i := 3) S.nd rfl (by first | exact .inl rfl | exact .inr rfl) pe_int)
    (pss_cons (ps_set (i := 4) S.nd rfl (by first | exact .inl rfl | exact .inr rfl) (pe_c c_law_take hr (by decide) (by rfl) (pa_cons (pv 0) (pa_cons (pv 1) (pa_cons pe_int (pa_cons pe_int pa_nil))))))
    (pss_cons (ps_for PassesOwn.never rfl (pi_range1 (by rfl) T.f_range (pa_cons (pv 4) pa_nil)) (pg_name (i := 5) S.nd rfl (by first | exact .inl rfl | exact .inr rfl))
    (pss_cons (ps_set (i := 3) S.nd rfl (by first | exact .inl rfl | exact .inr rfl) (pe_c c_law_take hr (by decide) (by rfl) (pa_cons (pv 0) (pa_cons (pv 1) (pa_cons (pe_op op_add (pv 3) pe_int) (pa_cons (pe_op op_add (pe_op op_sub pe_int (pv 4)) (pv 5)) pa_nil))))))
      (pss_one (ps_expr (pe_bm PySem.F.plainAttrs_list PySem.F.slot_list_append PySem.F.type_list_append mt_append (pv 2) (pa_cons (pe_tup (pa_cons (pv 3) (pa_cons (pe_c c_law_number_read hr (by decide) (by rfl) (pa_cons (pv 0) (pa_cons (pv 1) (pa_cons pe_int pa_nil)))) pa_nil))) pa_nil))))))
    (pss_one (ps_ret (pe_callTy call_tuple_of (by rfl) T.f_tuple (by first | rfl | decide +kernel) (pa_cons (pv 2) pa_nil)))))))), ?_⟩
    try dsimp only [cxOf, Cx.nox]
    obtain ⟨_, _, rfl, l, b, dd, s, rfl, rfl, hX, k⟩ := h
    walk_at "go"
    rename_i D hD
    have nD := hX.free hD
    have sD := same_new (o := .lst []) hD
    refine ⟨_, _, _, _, rfl, 1, 9, rfl, rfl, l, b, dd, s, rfl, rfl, hX.same sD, fun s1 o1 r1 H1 N1 f1 X1 hr1 => ?_⟩
    obtain ⟨m, rfl, hm1, hm2⟩ := hr1
    have hm : 1 ≤ m ∧ m ≤ 9 := by
      cases o1 with
      | none => rw [hm2 rfl]; decide
      | some x => rw [hm1 x rfl]; have := byte_ok N1.2.2; exact ⟨this.1, this.2.1⟩
    have eD1 := fr1_lst nD.2 f1 (upd_same (H := H) (a := D) (o := .lst []))
    have G1 : Go (pVec dd s.1) (fun q => pVecL m.toNat 0 dd q) s s1 := (Go.start rfl).step N1 (fun n e => then_err e) fun x ex e => by
      rw [hm1 x ex]
      exact then_ok e
    have f01 : Fr [b] H H1 := fun c o n e => f1 c o n (sD _ _ e)
    walk_at "go"
    refine for_rng (fun i σ H2 => ∃ (dv : Int) (v5 : Option V) (vs : Vc) (ps : List Addr) (s2 : BS), σ = [some (.ref l), some (.ref b), some (.ref D), some (.int dv), some (.int m), v5] ∧ Fr [b] H H2 ∧ BxS H2 l b dd s2 ∧ H2 D = some (.lst (ps.map V.ref)) ∧ Prs K H2 ps vs ∧ vs.length = i ∧ Go (pVec dd s.1) (fun q => mapP (vs ++ ·) (pVecL (m.toNat - i) dv dd q)) s s2) ⟨0, none, [], [], s1, rfl, f01, X1, eD1, .nil, rfl, G1.conv fun q => vec_start _ _ _ _⟩ (fun i σ H2 hi q => ?_) (fun σ H2 q => ?_)
    · obtain ⟨dv, v5, vs, ps, s2, rfl, f2, X2, eD, hP, lv, G2⟩ := q
      have hb3 : (10 : Int) - m + (0 + (i : Int)) = 9 - ((m.toNat - (i + 1) : Nat) : Int) := by omega
      walk_at "go"
      rw [hb3]
      refine ⟨_, _, _, _, rfl, _, _, rfl, rfl, l, b, dd, s2, rfl, rfl, X2, fun s3 o3 r3 H3 N3 f3 X3 hr3 => ?_⟩
      obtain ⟨c, rfl, hc1, hc2⟩ := hr3
      have eD3 := fr1_lst nD.2 f3 eD
      walk_at "go"
      refine ⟨_, _, _, rfl, 1, rfl, by decide, by decide, l, b, dd, s3, rfl, rfl, X3, fun s4 o4 r4 H4 N4 f4 X4 hr4 => ?_⟩
      obtain ⟨w, rfl, hw⟩ := hr4
      have eD4 := fr1_lst nD.2 f4 eD3
      walk_at "go"
      rename_i t ht
      have s5 := same_new (o := .tup [.int c, .int w]) ht
      have hP4 : Prs K H4 ps vs := paired_imp (fun _ _ q => sqT_fr (sqT_fr q f3 X2.nt) f4 X3.nt) hP
      refine e_app (s5 _ _ eD4) (by rw [List.length_map, paired_len hP]; exact Nat.lt_of_le_of_lt (by omega : _ ≤ 100) (by decide)) ?_
      refine ⟨c, _, vs ++ [(c, w)], ps ++ [t], s4, rfl, (((f2.trans f3).trans f4).same s5).mut hD, (X4.same s5).upd nD, by rw [upd_same, List.map_append]; rfl, paired_snoc (prs_updE (prs_same s5 hP4) (s5 _ _ eD4)) (sq_updE (SqT.of upd_same) (s5 _ _ eD4)), by rw [List.length_append, lv]; rfl, ?_⟩
      have G3 : Go (pVec dd s.1) (fun q => mapP (vs ++ ·) (thenP (pNum 1) (fun n => thenP (pVecL (m.toNat - (i + 1)) c) fun v => retP ((c, n) :: v)) dd q)) s s3 := G2.step N3 (fun n e => vec_err1 hi e rfl) fun x ex e => by
        show mapP _ (pVecL (m.toNat - i) dv dd s2.1) = _
        rw [show m.toNat - i = (m.toNat - (i + 1)) + 1 by omega, pVecL, then_ok e, hc1 x ex]
      refine G3.step N4 (fun n e => congrArg (mapP _) (then_err e)) fun x ex e => ?_
      rw [then_ok e, ← hw x ex]
      show mapP (vs ++ ·) (thenP (pVecL (m.toNat - (i + 1)) c) (fun v => retP ((c, w) :: v)) dd s4.1) = mapP ((vs ++ [(c, w)]) ++ ·) (pVecL (m.toNat - (i + 1)) c dd s4.1)
      cases g : pVecL (m.toNat - (i + 1)) c dd s4.1 with
      | error n => rw [then_err g]; rfl
      | ok y => obtain ⟨ys, r2⟩ := y; rw [then_ok g]; show Except.ok (vs ++ (c, w) :: ys, r2) = .ok ((vs ++ [(c, w)]) ++ ys, r2); rw [List.append_assoc]; rfl
    · obtain ⟨dv, v5, vs, ps, s2, rfl, f2, X2, eD, hP, lv, G2⟩ := q
      walk_at "go"
      refine ⟨D, _, rfl, .inl ⟨SqL.of eD, fun t ht => ?_⟩⟩
      have s5 := same_new (o := .tup (ps.map V.ref)) ht
      obtain ⟨o2, N3, e3⟩ := Go.nx G2 (v := vs) (vec_end rfl)
      exact k s2 o2 _ _ N3 (f2.same s5) (X2.same s5) ⟨t, rfl, fun x e => by rw [e3 x e]; exact ⟨ps, SqT.of upd_same, prs_same s5 hP⟩⟩
theorem ok_law_row_read (T : Txt K mg)  (c_law_take : Cal P w K mg base 1 "_law_take" (sp_law_take K)) {f : Addr} {fd : FuncData} (F : FnP K "_law_row_read" s_law_row_read f fd) : FnOk P w K mg base CX0 2 f fd ["data", "box", "least"] (sp_law_row_read K) := by
  refine F.ok sc_law_row_read (fun vs H Q E h => ?_) (fun cdv A outer s H vs Q E hr h => ?_)
  · obtain ⟨_, _, _, rfl, _⟩ := h
    rfl
  · have S := sc_law_row_read
    refine ⟨_, PSs.nox (pss_one (ps_ret (pe_lc (own := [("k", 3)]) (g := gName 3) (tt := tYes) rfl S.nd (pi_range1 (by rfl) T.f_range (pa_cons (pe_c c_law_take hr (by decide) (by rfl) (pa_cons (pv 0) (pa_cons (pv 1) (pa_cons (pv 2) (pa_cons pe_int pa_nil))))) pa_nil)) (blkOk_by (N := N_law_row_read) (sc := defScope s_law_row_read) (by decide +kernel)) (fun _ _ _ _ _ => (pg_name (i := 3) S.nd rfl (by first | exact .inl rfl | exact .inr rfl))) (fun _ _ _ _ _ => pts_nil) (fun _ _ _ _ _ => (pe_c c_law_take hr (by decide) (by rfl) (pa_cons (pv 0) (pa_cons (pv 1) (pa_cons pe_int (pa_cons pe_int pa_nil))))))))), ?_⟩
    try dsimp only [cxOf, Cx.nox]
    obtain ⟨_, _, _, rfl, lo, rfl, lo1, lo4, l, b, dd, s, rfl, rfl, hX, k⟩ := h
    walk_at "go"
    refine ⟨_, _, _, _, rfl, lo, 4, rfl, rfl, l, b, dd, s, rfl, rfl, hX, fun s1 o1 r1 H1 N1 f1 X1 hr1 => ?_⟩
    obtain ⟨m, rfl, hm1, hm2⟩ := hr1
    have hm : 1 ≤ m ∧ m ≤ 4 := by
      cases o1 with
      | none => rw [hm2 rfl]; exact ⟨lo1, lo4⟩
      | some x => rw [hm1 x rfl]; have := byte_ok N1.2.2; exact ⟨by omega, this.2.1⟩
    have G1 : Go (pRow lo dd s.1) (fun q => pMany (pByte 0 255) m.toNat dd q) s s1 := (Go.start rfl).step N1 (fun n e => then_err e) fun x ex e => by
      rw [hm1 x ex]
      exact then_ok e
    walk_at "go"
    intro D hD
    have nD := X1.free hD
    refine lc_rng (fun i H2 => ∃ (cs : List Int) (s2 : BS), Fr [b] H H2 ∧ BxS H2 l b dd s2 ∧ LstI H2 D cs ∧ cs.length = i ∧ Go (pRow lo dd s.1) (fun q => mapP (cs ++ ·) (pMany (pByte 0 255) (m.toNat - i) dd q)) s s2) ⟨[], s1, f1.same (same_new hD), X1.same (same_new hD), upd_same, rfl, ?_⟩ (fun i H2 hi q => ?_) (fun H2 q => ?_)
    · exact G1.conv fun q => many_start _ _ _ _
    · obtain ⟨cs, s2, f2, X2, eD, lc, G2⟩ := q
      walk_at "go"
      refine ⟨_, _, _, _, rfl, 0, 255, rfl, rfl, l, b, dd, s2, rfl, rfl, X2, fun s3 o r H3 N3 f3 X3 hr => ?_⟩
      obtain ⟨w, rfl, hw1, hw2⟩ := hr
      have eD3 := fr1_lst nD.2 f3 eD
      refine ⟨_, eD3, by rw [List.length_map]; exact Nat.lt_of_le_of_lt (by omega : _ ≤ 100) (by decide), cs ++ [w], s3, (f2.trans f3).mut (fr_none f1 nD.2 hD), X3.upd nD, by unfold LstI; rw [upd_same, List.map_append]; rfl, by rw [List.length_append, lc]; rfl, G2.step N3 (fun n e => many_err hi e rfl) fun x ex e => ?_⟩
      rw [hw1 x ex]
      exact many_ok hi e rfl
    · obtain ⟨cs, s2, f2, X2, eD, lc, G2⟩ := q
      obtain ⟨o2, N3, e3⟩ := Go.nx G2 (v := cs) (many_end rfl)
      exact k s2 o2 _ H2 N3 f2 X2 ⟨D, cs, rfl, eD, by omega, by omega, fun x e => (e3 x e).symm⟩
theorem ok_law_entry_read (T : Txt K mg)  (c_law_number_read : Cal P w K mg base 2 "_law_number_read" (sp_law_number_read K)) (c_law_name_read : Cal P w K mg base 2 "_law_name_read" (sp_law_name_read K)) (c_law_vector_read : Cal P w K mg base 3 "_law_vector_read" (sp_law_vector_read K)) (c_law_take : Cal P w K mg base 1 "_law_take" (sp_law_take K)) (c_law_block : Cal P w K mg base 1 "_law_block" (sp_law_block K)) (c_law_row_read : Cal P w K mg base 2 "_law_row_read" (sp_law_row_read K)) {f : Addr} {fd : FuncData} (F : FnP K "_law_entry_read" s_law_entry_read f fd) : FnOk P w K mg base CX0 4 f fd ["data", "box"] (sp_law_entry_read K) := by
  refine F.ok sc_law_entry_read (fun vs H Q E h => ?_) (fun cdv A outer s H vs Q E hr h => ?_)
  · obtain ⟨_, _, rfl, _⟩ := h
    rfl
  · have S := sc_law_entry_read
    refine ⟨_, PSs.nox (pss_cons (ps_set (i := 2) S.nd rfl (by first | exact .inl rfl | exact .inr rfl) (pe_c c_law_number_read hr (by decide) (by rfl) (pa_cons (pv 0) (pa_cons (pv 1) (pa_cons pe_int pa_nil)))))
    (pss_cons (ps_set (i := 3) S.nd rfl (by first | exact .inl rfl | exact .inr rfl) (pe_c c_law_name_read hr (by decide) (by rfl) (pa_cons (pv 0) (pa_cons (pv 1) pa_nil))))
    (pss_cons (ps_set (i := 4) S.nd rfl (by first | exact .inl rfl | exact .inr rfl) (pe_c c_law_vector_read hr (by decide) (by rfl) (pa_cons (pv 0) (pa_cons (pv 1) pa_nil))))
    (pss_cons (ps_set (i := 5) S.nd rfl (by first | exact .inl rfl | exact .inr rfl) (pe_c c_law_number_read hr (by decide) (by rfl) (pa_cons (pv 0) (pa_cons (pv 1) (pa_cons pe_int pa_nil)))))
    (pss_cons (ps_set (i := 6) S.nd rfl (by first | exact .inl rfl | exact .inr rfl) (pe_c c_law_take hr (by decide) (by rfl) (pa_cons (pv 0) (pa_cons (pv 1) (pa_cons pe_int (pa_cons pe_int pa_nil))))))
    (pss_cons (ps_set (i := 7) S.nd rfl (by first | exact .inl rfl | exact .inr rfl) (pe_tup (pa_cons (pv 6) (pa_cons (pe_c c_law_number_read hr (by decide) (by rfl) (pa_cons (pv 0) (pa_cons (pv 1) (pa_cons pe_int pa_nil)))) pa_nil))))
    (pss_cons (ps_set (i := 8) S.nd rfl (by first | exact .inl rfl | exact .inr rfl) (pe_c c_law_take hr (by decide) (by rfl) (pa_cons (pv 0) (pa_cons (pv 1) (pa_cons pe_int (pa_cons pe_int pa_nil))))))
    (pss_cons (ps_set (i := 9) S.nd rfl (by first | exact .inl rfl | exact .inr rfl) (pe_c c_law_number_read hr (by decide) (by rfl) (pa_cons (pv 0) (pa_cons (pv 1) (pa_cons pe_int pa_nil)))))
    (pss_cons (ps_set (i := 10) S.nd rfl (by first | exact .inl rfl | exact .inr rfl) (pe_c c_law_take hr (by decide) (by rfl) (pa_cons (pv 0) (pa_cons (pv 1) (pa_cons pe_int (pa_cons (pe_op op_mul pe_int (pe_op op_sub pe_int (pv 8))) pa_nil))))))
    (pss_cons (ps_set (i := 11) S.nd rfl (by first | exact .inl rfl | exact .inr rfl) (pe_lst pa_nil))
    (pss_cons (ps_for PassesOwn.never rfl (pi_range1 (by rfl) T.f_range (pa_cons (pv 10) pa_nil)) (pg_name (i := 12) S.nd rfl (by first | exact .inl rfl | exact .inr rfl))
    (pss_one (ps_expr (pe_bm PySem.F.plainAttrs_list PySem.F.slot_list_append PySem.F.type_list_append mt_append (pv 11) (pa_cons (pe_c c_law_block hr (by decide) (by rfl) (pa_cons (pe_c c_law_row_read hr (by decide) (by rfl) (pa_cons (pv 0) (pa_cons (pv 1) (pa_cons (pe_ix ix_list (pe_lst (pa_cons pe_int (pa_cons pe_int pa_nil))) (pe_callTy call_int1 (by rfl) T.f_int (by first | rfl | decide +kernel) (pa_cons (pe_cmpR op_eq (pv 12) (pe_op op_sub (pv 10) pe_int) (nomark _)) pa_nil)) (fun _ _ => rfl)) pa_nil)))) pa_nil)) pa_nil)))))
    (pss_one (ps_ret (pe_tup (pa_cons (pe_tup (pa_cons (pv 3) (pa_cons (pv 4) (pa_cons (pv 5) (pa_cons (pv 7) (pa_cons (pe_cmpR op_eq (pv 8) pe_int (nomark _)) (pa_cons (pv 9) (pa_cons (pe_callTy call_tuple_of (by rfl) T.f_tuple (by first | rfl | decide +kernel) (pa_cons (pv 11) pa_nil)) pa_nil)))))))) (pa_cons (pv 2) pa_nil)))))))))))))))), ?_⟩
    try dsimp only [cxOf, Cx.nox]
    obtain ⟨_, _, rfl, l, b, dd, s, rfl, rfl, hX, k⟩ := h
    walk_at "go"
    refine ⟨_, _, _, rfl, 1, rfl, by decide, by decide, l, b, dd, s, rfl, rfl, hX, fun s1 o1 r1 H1 N1 f1 X1 hr1 => ?_⟩
    obtain ⟨n, rfl, hn1⟩ := hr1
    walk_at "go"
    refine ⟨_, _, rfl, l, b, dd, s1, rfl, rfl, X1, fun s2 o2 r2 H2 N2 f2 X2 hr2 => ?_⟩
    obtain ⟨nm, rfl, hn2⟩ := hr2
    walk_at "go"
    refine ⟨_, _, rfl, l, b, dd, s2, rfl, rfl, X2, fun s3 o3 r3 H3 N3 f3 X3 hr3 => ?_⟩
    obtain ⟨va, rfl, hn3⟩ := hr3
    walk_at "go"
    refine ⟨_, _, _, rfl, 1, rfl, by decide, by decide, l, b, dd, s3, rfl, rfl, X3, fun s4 o4 r4 H4 N4 f4 X4 hr4 => ?_⟩
    obtain ⟨ht, rfl, hn4⟩ := hr4
    walk_at "go"
    refine ⟨_, _, _, _, rfl, 1, 9, rfl, rfl, l, b, dd, s4, rfl, rfl, X4, fun s5 o5 r5 H5 N5 f5 X5 hr5 => ?_⟩
    obtain ⟨dv, rfl, hn5, hm5⟩ := hr5
    walk_at "go"
    refine ⟨_, _, _, rfl, 1, rfl, by decide, by decide, l, b, dd, s5, rfl, rfl, X5, fun s6 o6 r6 H6 N6 f6 X6 hr6 => ?_⟩
    obtain ⟨mn, rfl, hn6⟩ := hr6
    walk_at "go"
    rename_i mp hmp
    have sm := same_new (o := .tup [.int dv, .int mn]) hmp
    have em : upd H6 mp (.tup [.int dv, .int mn]) mp = some (.tup [.int dv, .int mn]) := upd_same
    have X6m := X6.same sm
    generalize upd H6 mp (.tup [.int dv, .int mn]) = H6m at sm em X6m ⊢
    refine ⟨_, _, _, _, rfl, 0, 1, rfl, rfl, l, b, dd, s6, rfl, rfl, X6m, fun s7 o7 r7 H7 N7 f7 X7 hr7 => ?_⟩
    obtain ⟨dl, rfl, hn7, hm7⟩ := hr7
    have hdl : dl = 0 ∨ dl = 1 := by
      cases o7 with
      | none => exact .inl (hm7 rfl)
      | some x => rw [hn7 x rfl]; have := byte_ok N7.2.2; omega
    walk_at "go"
    refine ⟨_, _, _, rfl, 0, rfl, by decide, by decide, l, b, dd, s7, rfl, rfl, X7, fun s8 o8 r8 H8 N8 f8 X8 hr8 => ?_⟩
    obtain ⟨tm, rfl, hn8⟩ := hr8
    have c1 : CMul 255 (1 - dl) := .inl ⟨by decide, by decide⟩
    walk_at "go"
    refine ⟨_, _, _, _, rfl, 0, _, rfl, rfl, l, b, dd, s8, rfl, rfl, X8, fun s9 o9 r9 H9 N9 f9 X9 hr9 => ?_⟩
    obtain ⟨m, rfl, hn9, hm9⟩ := hr9
    have hm : 0 ≤ m ∧ m ≤ 255 := by
      cases o9 with
      | none => rw [hm9 rfl]; decide
      | some x => rw [hn9 x rfl]; have := byte_ok N9.2.2; omega
    have V3 : ∀ v, o3 = some v → Vec K H9 va v := fun v e => vec_fr (vec_fr (vec_fr ((vec_fr (vec_fr (vec_fr (hn3 v e) f4 X3.nt) f5 X4.nt) f6 X5.nt).same sm) f7 X6m.nt) f8 X7.nt) f9 X8.nt
    have M9 : SqT K H9 mp [.int dv, .int mn] := sqT_fr (sqT_fr (sqT_fr (SqT.of em) f7 X6m.nt) f8 X7.nt) f9 X8.nt
    have F9 : Fr [b] H H9 := (((((((f1.trans f2).trans f3).trans f4).trans f5).trans f6).same sm).trans f7).trans (f8.trans f9)
    walk_at "go"
    rename_i B hB
    have nB := X9.free hB
    have sB := same_new (o := .lst []) hB
    refine for_rng (fun i σ H1 => ∃ (v12 : Option V) (cs : List (List Int)) (s1 : BS), σ = [some (.ref l), some (.ref b), some (.int n), some (.str nm), some (.ref va), some (.int ht), some (.int dv), some (.ref mp), some (.int dl), some (.int tm), some (.int m), some (.ref B), v12] ∧ Fr [b] H9 H1 ∧ BxS H1 l b dd s1 ∧ LstI H1 B (cs.map bnum) ∧ cs.length = i ∧ Go (pBlkL m.toNat dd s9.1) (fun q => mapP (cs ++ ·) (pBlkL (m.toNat - i) dd q)) s9 s1) ⟨none, [], s9, rfl, Fr.of sB, X9.same sB, upd_same, rfl, (Go.start rfl).conv fun q => blk_start _ _ _⟩ (fun i σ H1 hi q => ?_) (fun σ H1 q => ?_)
    · obtain ⟨v12, cs, t1, rfl, g1, Y1, eB, lc, G1⟩ := q
      walk_at "go"
      rename_i p hp
      have s2 := same_new (o := .lst [.int 4, .int 1]) hp
      refine .inr ⟨_, rfl, ?_⟩
      have hif : (if 0 < m.toNat - (i + 1) then (4 : Int) else 1) = if decide (0 + (i : Int) = m - 1) = true then 1 else 4 := by
        by_cases c : 0 + (i : Int) = m - 1
        · rw [if_neg (by omega), if_pos (decide_eq_true c)]
        · rw [if_pos (by omega), if_neg (by rw [decide_eq_false c]; decide)]
      have hx : atI [V.int 4, V.int 1] (if decide (0 + (i : Int) = m - 1) = true then 1 else 0) = some (V.int (if 0 < m.toNat - (i + 1) then 4 else 1)) := by
        rw [hif]
        cases decide (0 + (i : Int) = m - 1) <;> rfl
      have hr : 1 ≤ (if 0 < m.toNat - (i + 1) then (4 : Int) else 1) ∧ (if 0 < m.toNat - (i + 1) then (4 : Int) else 1) ≤ 4 := by split <;> decide
      refine e_ixL (SqL.of upd_same) hx ?_
      walk_at "go"
      refine ⟨_, _, _, rfl, _, rfl, hr.1, hr.2, l, b, dd, t1, rfl, rfl, Y1.same s2, fun t2 o r H3 M2 g2 Y2 hr2 => ?_⟩
      obtain ⟨ra, xs, rfl, er, lx1, lx4, hxs⟩ := hr2
      have eB3 := fr1_lst nB.2 g2 (s2 _ _ eB)
      walk_at "go"
      refine ⟨_, rfl, ra, xs, rfl, er, lx1, lx4, fun H4 s4 => ?_⟩
      walk_at "go"
      refine e_appI (s4 _ _ eB3) (by rw [List.length_map]; omega) fun H5 g5 e5 => ?_
      have Y4 := Y2.same s4
      have Y5 : BxS H5 l b dd t2 := ⟨g5 _ _ (fun z => nB.1 (List.mem_singleton.mp z).symm) Y4.da, Y4.ne, Y4.B, Y4.le, g5 _ _ (fun z => nB.2 (List.mem_singleton.mp z).symm) Y4.bx⟩
      have g9 : Fr [b] H9 H5 := fun c o nc ec => g5 c o (fun z => by rw [List.mem_singleton.mp z, hB] at ec; cases ec) (s4 _ _ (g2 c o nc (s2 _ _ (g1 c o nc ec))))
      refine ⟨_, cs ++ [xs], t2, rfl, g9, Y5, by unfold LstI; rw [List.map_append]; exact e5, by rw [List.length_append, lc]; rfl, G1.step M2 (fun n e => blk_err hi e rfl) fun x ex e => ?_⟩
      rw [hxs x ex]
      exact blk_ok hi e rfl
    · obtain ⟨v12, cs, t1, rfl, g1, Y1, eB, lc, G1⟩ := q
      walk_at "go"
      refine ⟨B, _, rfl, .inl ⟨SqL.of eB, fun bt hbt => ?_⟩⟩
      have s2 := same_new (o := .tup ((cs.map bnum).map V.int)) hbt
      have eb2 : upd H1 bt (.tup ((cs.map bnum).map V.int)) bt = some (.tup ((cs.map bnum).map V.int)) := upd_same
      generalize upd H1 bt (.tup ((cs.map bnum).map V.int)) = H2 at s2 eb2 ⊢
      walk_at "go"
      rename_i ft hft q hq
      have s3 := same_new (o := .tup [.str nm, .ref va, .int ht, .ref mp, .bl (decide (dl = 1)), .int tm, .ref bt]) hft
      have s4 := same_new (o := .tup [.ref ft, .int n]) hq
      have s34 := s3.trans s4
      obtain ⟨o10, N10, h10⟩ := Go.nx (f := pBlkL m.toNat) G1 (v := cs) (blk_end rfl)
      have d9 := N10.dn
      have d8 := N9.dn.trans d9
      have d7 := N8.dn.trans d8
      have d6 := N7.dn.trans d7
      have d5 := N6.dn.trans d6
      have d4 := N5.dn.trans d5
      have d3 := N4.dn.trans d4
      have d2 := N3.dn.trans d3
      have d1 := N2.dn.trans d2
      have key : ∃ o, Nx pEntry dd s t1 o ∧ ∀ x, o = some x → ∃ vc, Vec K H9 va vc ∧ x = (⟨nm, vc, ht, (dv, mn), decide (dl = 1), tm, cs.map bnum⟩, n, cs) := by
        unfold pEntry
        refine Nx.seq N1 d1 fun v1 e1 => ?_
        have := hn1 v1 e1
        subst this
        refine Nx.seq N2 d2 fun v2 e2 => ?_
        have := hn2 v2 e2
        subst this
        refine Nx.seq N3 d3 fun v3 e3 => ?_
        refine Nx.seq N4 d4 fun v4 e4 => ?_
        have := hn4 v4 e4
        subst this
        refine Nx.seq N5 d5 fun v5 e5 => ?_
        have := hn5 v5 e5
        subst this
        refine Nx.seq N6 d6 fun v6 e6 => ?_
        have := hn6 v6 e6
        subst this
        refine Nx.seq N7 d7 fun v7 e7 => ?_
        have := hn7 v7 e7
        subst this
        refine Nx.seq N8 d8 fun v8 e8 => ?_
        have := hn8 v8 e8
        subst this
        have h255 : (255 : Int) * (1 - dl) = if dl = 1 then 0 else 255 := by rcases hdl with z | z <;> rw [z] <;> rfl
        rw [h255] at N9
        obtain ⟨oB, NB, hB9⟩ := Nx.seq (g := fun n => pBlkL n.toNat) (V := fun x => x = cs) N9 d9 fun v9 e9 => ⟨o10, by rw [← hn9 v9 e9]; exact N10, h10⟩
        refine Nx.seq (f := pBlocks (if dl = 1 then 0 else 255)) NB (fun z => rfl) fun x ex => ?_
        have := hB9 x ex
        subst this
        cases oB with
        | none => cases ex
        | some y => exact ⟨_, Nx.ret NB.live, fun x e => ⟨v3, V3 v3 e3, by cases e; rfl⟩⟩
      obtain ⟨o, N, hN⟩ := key
      have gq : Same H2 (upd (upd H2 ft (.tup [.str nm, .ref va, .int ht, .ref mp, .bl (decide (dl = 1)), .int tm, .ref bt])) q (.tup [.ref ft, .int n])) := s34
      refine k t1 o _ _ N (((F9.trans g1).same s2).same s34) ((Y1.same s2).same s34) ⟨q, rfl, fun x ex => ?_⟩
      obtain ⟨vc, hv, rfl⟩ := hN x ex
      refine ⟨ft, SqT.of upd_same, va, mp, bt, SqT.of (s4 _ _ upd_same), ((vec_fr hv g1 X9.nt).same s2).same s34, same_tup s34 (same_tup s2 (sqT_fr M9 g1 X9.nt)), same_tup s34 (SqT.of eb2)⟩
theorem ok_law_letter (T : Txt K mg)  (c_law_draw : Cal P w K mg base 1 "_law_draw" (spDraw K)) (c_law_row : Cal P w K mg base 2 "_law_row" (sp_law_row K)) (c_law_block : Cal P w K mg base 1 "_law_block" (sp_law_block K)) (c_law_count : Cal P w K mg base 2 "_law_count" (sp_law_count K)) (c_law_entry : Cal P w K mg base 4 "_law_entry" (sp_law_entry K)) (c_law_name : Cal P w K mg base 2 "_law_name" (sp_law_name K)) {f : Addr} {fd : FuncData} (F : FnP K "_law_letter" s_law_letter f fd) : FnOk P w K mg base CX0 5 f fd ["state", "script"] (sp_law_letter K) := by
  refine F.ok sc_law_letter (fun vs H Q E h => ?_) (fun cdv A outer s H vs Q E hr h => ?_)
  · obtain ⟨_, _, rfl, _⟩ := h
    rfl
  · have S := sc_law_letter
    refine ⟨_, PSs.nox (pss_cons (ps_set (i := 2) S.nd rfl (by first | exact .inl rfl | exact .inr rfl) (pe_c c_law_draw hr (by decide) (by rfl) (pa_cons (pv 0) (pa_cons (pv 1) (pa_cons pe_int pa_nil)))))
    (pss_cons (ps_set (i := 3) S.nd rfl (by first | exact .inl rfl | exact .inr rfl) (pe_c c_law_row hr (by decide) (by rfl) (pa_cons (pv 0) (pa_cons (pv 1) (pa_cons (pe_op op_add pe_int (pe_c c_law_draw hr (by decide) (by rfl) (pa_cons (pv 0) (pa_cons (pv 1) (pa_cons pe_int pa_nil))))) pa_nil)))))
    (pss_cons (ps_set (i := 4) S.nd rfl (by first | exact .inl rfl | exact .inr rfl) (pe_c c_law_block hr (by decide) (by rfl) (pa_cons (pv 3) pa_nil)))
    (pss_cons (ps_if (pt_cmpR op_eq (pv 2) pe_int (nomark _))
    (pss_one (ps_ret (pe_tup (pa_cons pe_str (pa_cons (pe_op op_add pe_int (pe_c c_law_draw hr (by decide) (by rfl) (pa_cons (pv 0) (pa_cons (pv 1) (pa_cons pe_int pa_nil))))) pa_nil)))))
    pss_nil)
    (pss_cons (ps_if (pt_cmpR op_eq (pv 2) pe_int (nomark _))
    (pss_one (ps_ret (pe_tup (pa_cons pe_str (pa_cons (pe_c c_law_count hr (by decide) (by rfl) (pa_cons (pv 0) (pa_cons (pv 1) (pa_cons pe_int pa_nil)))) pa_nil)))))
    pss_nil)
    (pss_cons (ps_if (pt_cmpR op_eq (pv 2) pe_int (nomark _))
    (pss_cons (ps_setLc (i := 5) (own := [("k", 6)]) (g := gName 6) (tt := tYes) rfl S.nd rfl rfl (sw_true rfl rfl rfl (by decide +kernel)) (pi_range1 (by rfl) T.f_range (pa_cons (pe_c c_law_draw hr (by decide) (by rfl) (pa_cons (pv 0) (pa_cons (pv 1) (pa_cons pe_int pa_nil)))) pa_nil)) (blkOk_by (N := N_law_letter) (sc := defScope s_law_letter) (by decide +kernel)) (fun _ _ _ _ _ => (pg_name (i := 6) S.nd rfl (by first | exact .inl rfl | exact .inr rfl))) (fun _ _ _ _ _ => pts_nil) (fun _ _ _ _ _ => (pe_c c_law_entry hr (by decide) (by rfl) (pa_cons (pv 0) (pa_cons (pv 1) pa_nil)))))
      (C8.pss_cut (ps_if (pw_and (pt_cmpR op_eq (pe_callB call_len_seq (by rfl) T.f_len (by first | rfl | decide +kernel) (pa_cons (pv 5) pa_nil)) pe_int (nomark _)) (pw_and (pt_cmpR op_eq (pe_c c_law_draw hr (by decide) (by rfl) (pa_cons (pv 0) (pa_cons (pv 1) (pa_cons pe_int pa_nil)))) pe_int (nomark _)) (pw_and1 (pt_cmpR op_lt (pe_callB call_len_seq (by rfl) T.f_len (by first | rfl | decide +kernel) (pa_cons (pe_ix ix_tup (pe_ix ix_tup (pe_ix ix_list (pv 5) pe_int (fun _ _ => rfl)) pe_int (fun _ _ => rfl)) pe_int (fun _ _ => rfl)) pa_nil)) pe_int (nomark _))))).pt
      (pss_one (ps_set (i := 5) S.nd rfl (by first | exact .inl rfl | exact .inr rfl) (pe_op op_rep (pv 5) (pe_op op_add pe_int (pe_c c_law_draw hr (by decide) (by rfl) (pa_cons (pv 0) (pa_cons (pv 1) (pa_cons pe_int pa_nil))))))))
      pss_nil)
      (pss_one (ps_ret (pe_tup (pa_cons pe_str (pa_cons (pe_c c_law_count hr (by decide) (by rfl) (pa_cons (pv 0) (pa_cons (pv 1) (pa_cons pe_int pa_nil)))) (pa_cons (pe_c c_law_count hr (by decide) (by rfl) (pa_cons (pv 0) (pa_cons (pv 1) (pa_cons pe_int pa_nil)))) (pa_cons (pe_callTy call_tuple_of (by rfl) T.f_tuple (by first | rfl | decide +kernel) (pa_cons (pv 5) pa_nil)) pa_nil)))))))))
    pss_nil)
    (pss_cons (ps_if (pt_cmpR op_eq (pv 2) pe_int (nomark _))
    (pss_one (ps_ret (pe_tup (pa_cons pe_str (pa_cons (pe_c c_law_name hr (by decide) (by rfl) (pa_cons (pv 0) (pa_cons (pv 1) pa_nil))) (pa_cons (pe_c c_law_draw hr (by decide) (by rfl) (pa_cons (pv 0) (pa_cons (pv 1) (pa_cons pe_int pa_nil)))) (pa_cons (pv 4) pa_nil)))))))
    pss_nil)
    (pss_cons (ps_if (pt_cmpR op_eq (pv 2) pe_int (nomark _))
    (C8.pss_cut (ps_if (pt_cmpR op_eq (pe_c c_law_draw hr (by decide) (by rfl) (pa_cons (pv 0) (pa_cons (pv 1) (pa_cons pe_int pa_nil)))) pe_int (nomark _))
      (pss_one (ps_set (i := 3) S.nd rfl (by first | exact .inl rfl | exact .inr rfl) (pe_c c_law_row hr (by decide) (by rfl) (pa_cons (pv 0) (pa_cons (pv 1) (pa_cons (pe_op op_add pe_int (pe_c c_law_draw hr (by decide) (by rfl) (pa_cons (pv 0) (pa_cons (pv 1) (pa_cons pe_int pa_nil))))) pa_nil))))))
      pss_nil)
      (pss_one (ps_ret (pe_tup (pa_cons pe_str (pa_cons (pv 4) (pa_cons (pe_callTy call_tuple_of (by rfl) T.f_tuple (by first | rfl | decide +kernel) (pa_cons (pv 3) pa_nil)) pa_nil)))))))
    pss_nil)
    (pss_one (ps_ret (pe_tup (pa_cons pe_str (pa_cons (pv 4) pa_nil))))))))))))), ?_⟩
    try dsimp only [cxOf, Cx.nox]
    obtain ⟨_, _, rfl, st, sc, ns, rfl, rfl, d, k⟩ := h
    walk_at "go"
    intro kd H1 kd0 kd1 k1 d1
    walk_at "go"
    intro u H2 u0 u1 k2 d2
    obtain ⟨u, rfl⟩ : ∃ n : Nat, u = n := ⟨u.toNat, by omega⟩
    walk_at "go"
    refine ⟨_, _, _, rfl, st, sc, ns, 1 + u, rfl, rfl, by rw [show ((1 + u : Nat) : Int) = 1 + (u : Int) by omega], by omega, d2, fun ra c H3 na ea hb hl k3 d3 => ?_⟩
    have nra := d2.ne na
    have hc : Piece c := ⟨hb, by omega, by omega⟩
    walk_at "go"
    refine ⟨_, rfl, ra, c, rfl, ea, hc.h1, hc.h4, fun H4 s4 => ?_⟩
    have d4 := d3.same s4
    have ea4 := s4 _ _ ea
    have kk := (k1.trans (k2.trans k3)).trans (Kp.of s4)
    have k : ∀ (q : Addr) (t : Lt) (H' : Hp), Kp st H4 H' → Dr K st sc ns H' → t.Ok → t.B.length ≤ 40000 → PL K H' q t → Q (.ref q) H' := fun q t H' k9 => k q t H' (kk.trans k9)
    clear k1 k2 k3 kk d1 d2 d3 ea s4 d
    walk_at "go"
    refine i_d (fun h => ?_) (fun h => ?_)
    · walk_at "go"
      intro v H5 v0 v1 k5 d5
      walk_at "go"
      rename_i q hq
      have s6 := same_new (o := .tup [.str "hello", .int (1 + v)]) hq
      exact k q (.hello (1 + v)) _ (k5.trans (Kp.of s6)) (d5.same s6) ⟨by omega, by omega⟩ (by show 2 ≤ 40000; decide) (SqT.of upd_same)
    walk_at "go"
    refine i_d (fun h => ?_) (fun h => ?_)
    · walk_at "go"
      refine ⟨_, _, _, rfl, st, sc, ns, 0, rfl, rfl, rfl, by decide, by decide, d4, fun v H5 v0 v1 k5 d5 => ?_⟩
      walk_at "go"
      rename_i q hq
      have s6 := same_new (o := .tup [.str "ask", .int v]) hq
      exact k q (.ask v) _ (k5.trans (Kp.of s6)) (d5.same s6) ⟨v0, v1⟩ (by show (wd v 4).length + 1 ≤ 40000; rw [wd_len]; decide) (SqT.of upd_same)
    walk_at "go"
    refine i_d (fun h => ?_) (fun h => ?_)
    · walk_at "go"
      intro m H5 m0 m1 k5 d5
      walk_at "go"
      intro D hD
      have nD := d5.ne hD
      refine lc_rng (fun i H6 => Kp st H5 H6 ∧ Dr K st sc ns H6 ∧ ∃ (ps : List Addr) (es : List ET2), H6 D = some (.lst (ps.map V.ref)) ∧ Paired (FNp K H6) ps es ∧ es.length = i ∧ ∀ x ∈ es, OkE x.1 x.2.1 x.2.2) ⟨Kp.new hD, d5.same (same_new hD), [], [], upd_same, .nil, rfl, fun x hx => by cases hx⟩ (fun i H6 hi q => ?_) (fun H6 q => ?_)
      · obtain ⟨k6, d6, ps, es, eD, hP, le, hO⟩ := q
        walk_at "go"
        refine ⟨_, _, rfl, st, sc, ns, rfl, rfl, d6, fun qa e n cs H7 k7 d7 hOe hF => ?_⟩
        have eD7 := k7 _ _ nD eD
        have nt : ∀ b ∈ [D], NT H7 b := fun b mb => by rw [List.mem_singleton.mp mb]; exact nt_lst eD7
        refine ⟨_, eD7, by rw [List.length_map, paired_len hP]; exact Nat.lt_of_le_of_lt (by omega : _ ≤ 100) (by decide), (k6.trans k7).mut hD, d5.mut d7 hD (k6.trans k7), ps ++ [qa], es ++ [(e, n, cs)], by rw [upd_same, List.map_append]; rfl, paired_snoc (paired_imp (fun _ _ z => fl_fr (FlN.kp d6 k7 z) fr_put nt) hP) (fl_fr (x := (e, n, cs)) hF fr_put nt), by rw [List.length_append, le]; rfl, fun x hx => ?_⟩
        rcases List.mem_append.mp hx with z | z
        · exact hO x z
        · rw [List.mem_singleton.mp z]; exact hOe
      obtain ⟨k6, d6, ps, es, eD, hP, le, hO⟩ := q
      have lp := paired_len hP
      have le3 : es.length ≤ 3 := by omega
      have lb := esB_le hO
      have k56 := k5.trans k6
      clear k5 d5 le m0 m1 k6
      refine e_cut (Mid := fun σ' H' => ∃ (R : Addr) (ps : List Addr) (es : List ET2) (v6 : Option V), σ' = [some (.ref st), some (.ref sc), some (.int kd), some (.ref ra), some (.int (bnum c)), some (.ref R), v6] ∧ Kp st H4 H' ∧ Dr K st sc ns H' ∧ H' R = some (.lst (ps.map V.ref)) ∧ Paired (FNp K H') ps es ∧ es.length ≤ 300 ∧ (esB es).length ≤ 36000 ∧ (∀ x ∈ es, OkE x.1 x.2.1 x.2.2) ∧ R ≠ st) ?_ fun σ' H7 q => ?_
      · walk_at "go"
        rw [List.length_map, lp]
        refine i_d (fun h1 => ?_) (fun h1 => ?_)
        · walk_at "go"
          intro w H7 w0 w1 k7 d7
          have eD7 := k7 _ _ nD eD
          have hP7 : Paired (FNp K H7) ps es := paired_imp (fun _ _ z => FlN.kp d6 k7 z) hP
          walk_at "go"
          refine i_d (fun h2 => ?_) (fun h2 => ?_)
          · obtain ⟨x, rfl⟩ : ∃ x, es = [x] := by
              match es, h1 with
              | [x], _ => exact ⟨x, rfl⟩
              | [], h1 => exact absurd h1 (by decide)
              | _ :: _ :: _, h1 => simp at h1; omega
            obtain ⟨p, rfl⟩ : ∃ p, ps = [p] := by
              match ps, lp with
              | [p], _ => exact ⟨p, rfl⟩
            obtain ⟨fa, hF1, va, ma, ba, hF2, hV, hM, hB⟩ : FNp K H7 p x := by cases hP7 with | cons a _ => exact a
            walk_at "go"
            refine e_ixL (v := .ref p) (SqL.of eD7) rfl ?_
            walk_at "go"
            refine e_ixT (v := .ref fa) hF1 rfl ?_
            walk_at "go"
            refine e_ixT (v := .ref ba) hF2 rfl ?_
            walk_at "go"
            rw [List.length_map]
            refine i_d (fun h3 => ?_) (fun h3 => ?_)
            · walk_at "go"
              intro y H8 y0 y1 k8 d8
              have eD8 := k8 _ _ nD eD7
              have hP8 : FNp K H8 p x := FlN.kp d7 k8 ⟨fa, hF1, va, ma, ba, hF2, hV, hM, hB⟩
              walk_at "go"
              refine ⟨D, _, _, rfl, rfl, eD8, by omega, by omega, by show 1 * (255 + y).toNat ≤ _; exact Nat.le_trans (by omega : _ ≤ 300) (by decide), fun r hr => ?_⟩
              have s9 := same_new (o := .lst (List.replicate (255 + y).toNat ([p].map V.ref)).flatten) hr
              have hx := hO x (List.mem_cons_self ..)
              have l3 := enB_len3 (n := x.2.1) hx.nm.2.1 hx.vc.2.1 (by omega : x.1.bl.length ≤ 3)
              walk_at "go"
              refine ⟨r, List.replicate (255 + y).toNat p, List.replicate (255 + y).toNat x, _, rfl, k56.trans (k7.trans (k8.trans (Kp.of s9))), d8.same s9, by rw [upd_same, show [p].map V.ref = [V.ref p] from rfl, rep_flat, List.map_replicate], paired_rep (R := FNp K _) (FlN.same hP8 s9) _, by rw [List.length_replicate]; omega, ?_, fun z hz => by rw [List.eq_of_mem_replicate hz]; exact hx, d8.ne hr⟩
              rw [esB_rep]
              exact Nat.le_trans (Nat.mul_le_mul (by omega : (255 + y).toNat ≤ 257) l3) (by decide)
            · walk_at "go"
              exact ⟨D, [p], [x], _, rfl, k56.trans k7, d7, eD7, hP7, by show 1 ≤ 300; decide, by omega, hO, nD⟩
          · walk_at "go"
            exact ⟨D, ps, es, _, rfl, k56.trans k7, d7, eD7, hP7, by omega, by omega, hO, nD⟩
        · walk_at "go"
          exact ⟨D, ps, es, _, rfl, k56, d6, eD, hP, by omega, by omega, hO, nD⟩
      clear hP lp le3 lb eD d6 k56 hO nD
      obtain ⟨R, ps, es, v6, rfl, k7, d7, eR, hP, le, lb, hO, nR⟩ := q
      walk_at "go"
      refine ⟨_, _, _, rfl, st, sc, ns, 0, rfl, rfl, rfl, by decide, by decide, d7, fun b H8 b0 b1 k8 d8 => ?_⟩
      walk_at "go"
      refine ⟨_, _, _, rfl, st, sc, ns, 0, rfl, rfl, rfl, by decide, by decide, d8, fun u' H9 w0 w1 k9 d9 => ?_⟩
      have eR9 := k9 _ _ nR (k8 _ _ nR eR)
      have hP9 : Paired (FNp K H9) ps es := paired_imp (fun _ _ z => FlN.kp d8 k9 (FlN.kp d7 k8 z)) hP
      walk_at "go"
      refine ⟨R, _, rfl, .inl ⟨SqL.of eR9, fun l hl => ?_⟩⟩
      have s10 := same_new (o := .tup (ps.map V.ref)) hl
      walk_at "go"
      rename_i t ht
      have s11 := same_new (o := .tup [.str "entries", .int b, .int u', .ref l]) ht
      have s1011 := s10.trans s11
      have hOk : (Lt.ents b u' es).Ok := ⟨⟨b0, b1⟩, ⟨w0, w1⟩, by omega, hO⟩
      refine k t (.ents b u' es) _ (k7.trans (k8.trans (k9.trans (Kp.of s1011)))) (d9.same s1011) hOk ?_ ⟨l, ps, SqT.of upd_same, SqT.of (s11 _ _ upd_same), paired_imp (fun _ _ z => FlN.same z s1011) hP9⟩
      rcases lt_len hOk with z | ⟨_, _, _, ez, z⟩
      · omega
      · cases ez; omega
    walk_at "go"
    refine i_d (fun h => ?_) (fun h => ?_)
    · walk_at "go"
      refine ⟨_, _, rfl, st, sc, ns, rfl, rfl, d4, fun z H5 hz k5 d5 => ?_⟩
      walk_at "go"
      intro i H6 i0 i1 k6 d6
      walk_at "go"
      rename_i q hq
      have s7 := same_new (o := .tup [.str "request", .str z, .int i, .int (bnum c)]) hq
      have hOk : (Lt.req z i c).Ok := ⟨hz, ⟨i0, by omega⟩, hc⟩
      refine k q (.req z i c) _ (k5.trans (k6.trans (Kp.of s7))) (d6.same s7) hOk ?_ (SqT.of upd_same)
      rcases lt_len hOk with z | ⟨_, _, _, ez, _⟩
      · omega
      · cases ez
    walk_at "go"
    refine i_d (fun h => ?_) (fun h => ?_)
    · walk_at "go"
      refine e_cut (Mid := fun σ' H' => ∃ (rb : Addr) (w : List Int) (v5 v6 : Option V), σ' = [some (.ref st), some (.ref sc), some (.int kd), some (.ref rb), some (.int (bnum c)), v5, v6] ∧ Kp st H4 H' ∧ Dr K st sc ns H' ∧ LstI H' rb w ∧ Piece w) ?_ fun σ' H6 q => ?_
      · walk_at "go"
        intro x H5 x0 x1 k5 d5
        have ea5 := k5 _ _ nra ea4
        walk_at "go"
        refine i_d (fun h1 => ?_) (fun h1 => ?_)
        · walk_at "go"
          intro y H6 y0 y1 k6 d6
          obtain ⟨y, rfl⟩ : ∃ n : Nat, y = n := ⟨y.toNat, by omega⟩
          walk_at "go"
          refine ⟨_, _, _, rfl, st, sc, ns, 1 + y, rfl, rfl, by rw [show ((1 + y : Nat) : Int) = 1 + (y : Int) by omega], by omega, d6, fun rb w H7 nb eb hbw hlw k7 d7 => ?_⟩
          walk_at "go"
          exact ⟨rb, w, _, _, rfl, k5.trans (k6.trans k7), d7, eb, ⟨hbw, by omega, by omega⟩⟩
        · walk_at "go"
          exact ⟨ra, c, _, _, rfl, k5, d5, ea5, hc⟩
      obtain ⟨rb, w, v5, v6, rfl, k6, d6, eb, hw⟩ := q
      walk_at "go"
      refine ⟨rb, _, rfl, .inl ⟨SqL.of eb, fun l hl => ?_⟩⟩
      have s7 := same_new (o := .tup (w.map V.int)) hl
      walk_at "go"
      rename_i t ht
      have s8 := same_new (o := .tup [.str "block", .int (bnum c), .ref l]) ht
      have hOk : (Lt.block c w).Ok := ⟨hc, hw⟩
      refine k t (.block c w) _ (k6.trans (Kp.of (s7.trans s8))) (d6.same (s7.trans s8)) hOk ?_ ⟨l, SqT.of upd_same, SqT.of (s8 _ _ upd_same)⟩
      rcases lt_len hOk with z | ⟨_, _, _, ez, _⟩
      · omega
      · cases ez
    · walk_at "go"
      rename_i q hq
      have s7 := same_new (o := .tup [.str "refused", .int (bnum c)]) hq
      have hOk : (Lt.refd c).Ok := hc
      refine k q (.refd c) _ (Kp.of s7) (d4.same s7) hOk ?_ (SqT.of upd_same)
      rcases lt_len hOk with z | ⟨_, _, _, ez, _⟩
      · omega
      · cases ez
theorem ok_law_letter_written (T : Txt K mg)  (c_law_four : Cal P w K mg base 1 "_law_four" (sp_law_four K)) (c_law_entry_written : Cal P w K mg base 3 "_law_entry_written" (sp_law_entry_written K)) (c_law_name_written : Cal P w K mg base 1 "_law_name_written" (sp_law_name_written K)) (c_law_block_written : Cal P w K mg base 1 "_law_block_written" (sp_law_block_written K)) {f : Addr} {fd : FuncData} (F : FnP K "_law_letter_written" s_law_letter_written f fd) : FnOk P w K mg base CX0 4 f fd ["letter"] (sp_law_letter_written K) := by
  refine F.ok sc_law_letter_written (fun vs H Q E h => ?_) (fun cdv A outer s H vs Q E hr h => ?_)
  · obtain ⟨_, rfl, _⟩ := h
    rfl
  · have S := sc_law_letter_written
    refine ⟨_, PSs.nox (pss_cons (ps_set (i := 1) S.nd rfl (by first | exact .inl rfl | exact .inr rfl) (pe_ix ix_tup (pv 0) pe_int (fun _ _ => rfl)))
    (pss_cons (ps_if (pt_cmpR op_eq (pv 1) pe_str (nomark _))
    (pss_one (ps_ret (pe_lst (pa_cons pe_int (pa_cons (pe_ix ix_tup (pv 0) pe_int (fun _ _ => rfl)) pa_nil)))))
    pss_nil)
    (pss_cons (ps_if (pt_cmpR op_eq (pv 1) pe_str (nomark _))
    (pss_one (ps_ret (pe_op op_cat (pe_lst (pa_cons pe_int pa_nil)) (pe_c c_law_four hr (by decide) (by rfl) (pa_cons (pe_ix ix_tup (pv 0) pe_int (fun _ _ => rfl)) pa_nil)))))
    pss_nil)
    (pss_cons (ps_if (pt_cmpR op_eq (pv 1) pe_str (nomark _))
    (pss_cons (ps_set (i := 2) S.nd rfl (by first | exact .inl rfl | exact .inr rfl) (pe_op op_cat (pe_op op_cat (pe_op op_cat (pe_lst (pa_cons pe_int pa_nil)) (pe_c c_law_four hr (by decide) (by rfl) (pa_cons (pe_ix ix_tup (pv 0) pe_int (fun _ _ => rfl)) pa_nil))) (pe_c c_law_four hr (by decide) (by rfl) (pa_cons (pe_ix ix_tup (pv 0) pe_int (fun _ _ => rfl)) pa_nil))) (pe_lst (pa_cons (pe_op op_fdivW (pe_callB call_len_seq (by rfl) T.f_len (by first | rfl | decide +kernel) (pa_cons (pe_ix ix_tup (pv 0) pe_int (fun _ _ => rfl)) pa_nil)) pe_int) (pa_cons (pe_op op_mod (pe_callB call_len_seq (by rfl) T.f_len (by first | rfl | decide +kernel) (pa_cons (pe_ix ix_tup (pv 0) pe_int (fun _ _ => rfl)) pa_nil)) pe_int) pa_nil)))))
      (pss_cons (ps_for PassesOwn.never rfl (pi_tup (pe_ix ix_tup (pv 0) pe_int (fun _ _ => rfl))) (pg_tup rfl (pgs_cons (pg_name (i := 3) S.nd rfl (by first | exact .inl rfl | exact .inr rfl)) (pgs_cons (pg_name (i := 4) S.nd rfl (by first | exact .inl rfl | exact .inr rfl)) pgs_nil)))
      (pss_one (ps_set (i := 2) S.nd rfl (by first | exact .inl rfl | exact .inr rfl) (pe_op op_cat (pv 2) (pe_c c_law_entry_written hr (by decide) (by rfl) (pa_cons (pv 3) (pa_cons (pv 4) pa_nil)))))))
      (pss_one (ps_ret (pv 2)))))
    pss_nil)
    (pss_cons (ps_if (pt_cmpR op_eq (pv 1) pe_str (nomark _))
    (pss_one (ps_ret (pe_op op_cat (pe_op op_cat (pe_op op_cat (pe_lst (pa_cons pe_int pa_nil)) (pe_c c_law_name_written hr (by decide) (by rfl) (pa_cons (pe_ix ix_tup (pv 0) pe_int (fun _ _ => rfl)) pa_nil))) (pe_lst (pa_cons (pe_ix ix_tup (pv 0) pe_int (fun _ _ => rfl)) pa_nil))) (pe_c c_law_block_written hr (by decide) (by rfl) (pa_cons (pe_ix ix_tup (pv 0) pe_int (fun _ _ => rfl)) pa_nil)))))
    pss_nil)
    (pss_cons (ps_if (pt_cmpR op_eq (pv 1) pe_str (nomark _))
    (pss_one (ps_ret (pe_op op_cat (pe_op op_cat (pe_op op_cat (pe_lst (pa_cons pe_int pa_nil)) (pe_c c_law_block_written hr (by decide) (by rfl) (pa_cons (pe_ix ix_tup (pv 0) pe_int (fun _ _ => rfl)) pa_nil))) (pe_lst (pa_cons (pe_callB call_len_seq (by rfl) T.f_len (by first | rfl | decide +kernel) (pa_cons (pe_ix ix_tup (pv 0) pe_int (fun _ _ => rfl)) pa_nil)) pa_nil))) (pe_callTy call_list_of (by rfl) T.f_list (by first | rfl | decide +kernel) (pa_cons (pe_ix ix_tup (pv 0) pe_int (fun _ _ => rfl)) pa_nil)))))
    pss_nil)
    (pss_one (ps_ret (pe_op op_cat (pe_lst (pa_cons pe_int pa_nil)) (pe_c c_law_block_written hr (by decide) (by rfl) (pa_cons (pe_ix ix_tup (pv 0) pe_int (fun _ _ => rfl)) pa_nil))))))))))), ?_⟩
    try dsimp only [cxOf, Cx.nox]
    obtain ⟨_, rfl, q, t, rfl, hT, hO, hl, k⟩ := h
    cases t with
    | hello d =>
      have hT : SqT K H q [.str "hello", .int d] := hT
      walk_at "go"
      refine e_ixT hT rfl ?_
      walk_at "go"
      refine i_d (fun _ => ?_) (fun z => absurd rfl z)
      walk_at "go"
      refine e_ixT hT rfl ?_
      walk_at "go"
      rename_i p hp
      exact k p _ hp (same_new hp) upd_same
    | ask n =>
      have hT : SqT K H q [.str "ask", .int n] := hT
      walk_at "go"
      refine e_ixT hT rfl ?_
      walk_at "go"
      refine i_d (fun z => absurd z (by decide +kernel)) (fun _ => ?_)
      walk_at "go"
      refine i_d (fun _ => ?_) (fun z => absurd rfl z)
      walk_at "go"
      rename_i p hp
      have s1 := same_new (o := .lst [.int 2]) hp
      refine e_ixT (same_tup s1 hT) rfl ?_
      walk_at "go"
      refine ⟨_, rfl, n, rfl, hO.1, hO.2, fun r2 H2 hr2 s2 e2 => ?_⟩
      refine e_catI (xs := [2]) (s2 _ _ upd_same) e2 (by rw [wd_len]; decide) fun r3 H3 hr3 s3 e3 => ?_
      exact k r3 H3 ((s1.trans s2).free hr3) ((s1.trans s2).trans s3) e3
    | ents b u es =>
      obtain ⟨pr, ps, h1, h2, h3⟩ := id hT
      obtain ⟨o1, o2, o3, o4⟩ := hO
      have lp := paired_len h3
      walk_at "go"
      refine e_ixT h1 rfl ?_
      walk_at "go"
      refine i_d (fun z => absurd z (by decide +kernel)) (fun _ => ?_)
      walk_at "go"
      refine i_d (fun z => absurd z (by decide +kernel)) (fun _ => ?_)
      walk_at "go"
      refine i_d (fun _ => ?_) (fun z => absurd rfl z)
      walk_at "go"
      rename_i r1 hr1
      have s1 := same_new (o := .lst [.int 3]) hr1
      refine e_ixT (same_tup s1 h1) rfl ?_
      walk_at "go"
      refine ⟨_, rfl, b, rfl, o1.1, o1.2, fun r2 H2 hr2 s2 e2 => ?_⟩
      refine e_catI (xs := [3]) (s2 _ _ upd_same) e2 (by rw [wd_len]; decide) fun r3 H3 hr3 s3 e3 => ?_
      walk_at "go"
      refine e_ixT (same_tup ((s1.trans s2).trans s3) h1) rfl ?_
      walk_at "go"
      refine ⟨_, rfl, u, rfl, o2.1, o2.2, fun r4 H4 hr4 s4 e4 => ?_⟩
      refine e_catI (s4 _ _ e3) e4 (by rw [List.length_append, wd_len, wd_len]; decide) fun r5 H5 hr5 s5 e5 => ?_
      have s15 := ((s1.trans s2).trans (s3.trans s4)).trans s5
      have h1b := same_tup s15 h1
      have h2b := same_tup s15 h2
      clear s1 s2 s3 s4 s5 e2 e3 e4 hr1 hr2 hr3 hr4
      walk_at "go"
      refine e_ixT h1b rfl ?_
      walk_at "go"
      refine e_ixT h1b rfl ?_
      walk_at "go"
      rename_i r6 hr6
      have s6 := same_new (o := .lst [.int (((ps.map V.ref).length : Nat) / 256 : Int), .int (((ps.map V.ref).length : Nat) % 256 : Int)]) hr6
      refine e_catI (ys := [((ps.map V.ref).length : Int) / 256, ((ps.map V.ref).length : Int) % 256]) (s6 _ _ e5) upd_same (by simp only [List.length_append, wd_len, List.length_cons, List.length_nil]; omega) fun r7 H7 hr7 s7 e7 => ?_
      have s17 := (s15.trans s6).trans s7
      have n7 : H r7 = none := (s15.trans s6).free hr7
      rw [List.length_map, lp] at e7
      have ee : Lt.B (.ents b u es) = ([3] ++ wd b 4 ++ wd u 4 ++ [(es.length : Int) / 256, (es.length : Int) % 256]) ++ esB es := by
        show 3 :: (wd b 4 ++ (wd u 4 ++ ([(es.length : Int) / 256, (es.length : Int) % 256] ++ esB es))) = _
        simp
      have lx : ([3] ++ wd b 4 ++ wd u 4 ++ [(es.length : Int) / 256, (es.length : Int) % 256]).length = 11 := by simp only [List.length_append, wd_len, List.length_cons, List.length_nil]
      rw [ee, List.length_append] at hl
      rw [ee] at k
      generalize [3] ++ wd b 4 ++ wd u 4 ++ [(es.length : Int) / 256, (es.length : Int) % 256] = X at e7 lx hl k
      have h1c := same_tup s17 h1
      have h2c := same_tup s17 h2
      clear e5 s15 s6 s7 h2b h1b
      walk_at "go"
      refine e_ixT h1c rfl ?_
      refine ⟨pr, rfl, ⟨_, h2c⟩, ?_⟩
      refine for_tup (K := K) (xs := ps.map V.ref) (fun i σ H1 => (∃ r v3 v4 v5, σ = [some (.ref q), some (.str "entries"), some (.ref r), v3, v4] ∧ LstI H1 r (X ++ esB (es.take i)) ∧ H r = none ∧ v5 = (none : Option V)) ∧ Same H H1) ⟨⟨r7, _, _, none, rfl, by simpa [esB] using e7, n7, rfl⟩, s17⟩ (fun i σ H1 _ q => same_tup q.2 h2) (fun i x σ H1 hx q => ?_) (fun σ H1 q => ?_)
      · obtain ⟨⟨r, v3, v4, v5, rfl, e8, nr, rfl⟩, s8⟩ := q
        rw [List.getElem?_map] at hx
        obtain ⟨p, hp, rfl⟩ := Option.map_eq_some_iff.mp hx
        obtain ⟨x, hx, fa, hT1, hF⟩ := paired_get h3 i p hp
        have hx4 := o4 x (List.mem_of_getElem? hx)
        have hT2 := same_tup s8 hT1
        have lt := esB_take es i
        have le := okE_len hx4
        walk_at "go"
        refine ⟨_, _, rfl, fa, x.1, x.2.1, x.2.2, rfl, rfl, hF.same s8, hx4, fun r9 H9 hr9 s9 e9 => ?_⟩
        refine e_catJ (s9 _ _ e8) e9 (by rw [List.length_append]; omega) fun r10 H10 hr10 s10 e10 => ?_
        refine ⟨⟨r10, _, _, none, rfl, ?_, (s8.trans s9).free hr10, rfl⟩, (s8.trans s9).trans s10⟩
        rw [esB_step hx, ← List.append_assoc]
        exact e10
      · obtain ⟨⟨r, v3, v4, v5, rfl, e8, nr, rfl⟩, s8⟩ := q
        rw [List.length_map, lp, List.take_length] at e8
        walk_at "go"
        exact k r H1 nr s8 e8
    | req z i c =>
      have hT : SqT K H q [.str "request", .str z, .int i, .int (bnum c)] := hT
      obtain ⟨o1, o2, o3⟩ := hO
      have hz2 := o1.2.1
      have h4 := o3.h4
      walk_at "go"
      refine e_ixT hT rfl ?_
      walk_at "go"
      refine i_d (fun z => absurd z (by decide +kernel)) (fun _ => ?_)
      walk_at "go"
      refine i_d (fun z => absurd z (by decide +kernel)) (fun _ => ?_)
      walk_at "go"
      refine i_d (fun z => absurd z (by decide +kernel)) (fun _ => ?_)
      walk_at "go"
      refine i_d (fun _ => ?_) (fun z => absurd rfl z)
      walk_at "go"
      rename_i p hp
      have s1 := same_new (o := .lst [.int 4]) hp
      refine e_ixT (same_tup s1 hT) rfl ?_
      walk_at "go"
      refine ⟨_, rfl, z, rfl, by omega, fun r2 H2 hr2 s2 e2 => ?_⟩
      have ln : (nmB z).length ≤ 41 := by unfold nmB; rw [List.length_cons, List.length_map, len_tl]; omega
      refine e_catI (xs := [4]) (s2 _ _ upd_same) e2 (by show 1 + _ ≤ _; omega) fun r3 H3 hr3 s3 e3 => ?_
      have s13 := (s1.trans s2).trans s3
      walk_at "go"
      refine e_ixT (same_tup s13 hT) rfl ?_
      walk_at "go"
      rename_i r4 hr4
      have s4 := same_new (o := .lst [.int i]) hr4
      refine e_catI (ys := [i]) (s4 _ _ e3) upd_same (by rw [List.length_append]; show 1 + _ + 1 ≤ _; omega) fun r5 H5 hr5 s5 e5 => ?_
      have s15 := (s13.trans s4).trans s5
      walk_at "go"
      refine e_ixT (same_tup s15 hT) rfl ?_
      walk_at "go"
      refine ⟨_, rfl, c, rfl, o3, fun r6 H6 hr6 s6 e6 => ?_⟩
      refine e_catI (s6 _ _ e5) e6 (by simp only [List.length_append, List.length_cons, List.length_nil]; omega) fun r8 H8 hr8 s8 e8 => ?_
      refine k r8 H8 ((s15.trans s6).free hr8) ((s15.trans s6).trans s8) ?_
      have ee : Lt.B (.req z i c) = [4] ++ nmB z ++ [i] ++ ((c.length : Int) :: c) := by show 4 :: (nmB z ++ ([i] ++ rwB c)) = _; unfold rwB; simp
      rw [ee]; exact e8
    | block c w =>
      obtain ⟨dt, hT, hW⟩ := hT
      obtain ⟨o3, o4⟩ := hO
      have h4 := o3.h4
      have h5 := o4.h4
      walk_at "go"
      refine e_ixT hT rfl ?_
      walk_at "go"
      refine i_d (fun z => absurd z (by decide +kernel)) (fun _ => ?_)
      walk_at "go"
      refine i_d (fun z => absurd z (by decide +kernel)) (fun _ => ?_)
      walk_at "go"
      refine i_d (fun z => absurd z (by decide +kernel)) (fun _ => ?_)
      walk_at "go"
      refine i_d (fun z => absurd z (by decide +kernel)) (fun _ => ?_)
      walk_at "go"
      refine i_d (fun _ => ?_) (fun z => absurd rfl z)
      walk_at "go"
      rename_i p hp
      have s1 := same_new (o := .lst [.int 5]) hp
      refine e_ixT (same_tup s1 hT) rfl ?_
      walk_at "go"
      refine ⟨_, rfl, c, rfl, o3, fun r2 H2 hr2 s2 e2 => ?_⟩
      refine e_catI (xs := [5]) (s2 _ _ upd_same) e2 (by show 1 + (c.length + 1) ≤ _; omega) fun r4 H4 hr4 s4 e4 => ?_
      have s14 := (s1.trans s2).trans s4
      have hT4 := same_tup s14 hT
      have hW4 := same_tup s14 hW
      walk_at "go"
      refine e_ixT hT4 rfl ?_
      walk_at "go"
      rename_i r5 hr5
      have s5 := same_new (o := .lst [.int ((w.map V.int).length : Nat)]) hr5
      refine e_catI (ys := [((w.map V.int).length : Int)]) (s5 _ _ e4) upd_same (by simp only [List.length_append, List.length_cons, List.length_nil]; omega) fun r6 H6 hr6 s6 e6 => ?_
      have s16 := (s14.trans s5).trans s6
      walk_at "go"
      refine e_ixT (same_tup s16 hT) rfl ?_
      walk_at "go"
      refine ⟨dt, _, rfl, .inr (same_tup s16 hW), fun l hl2 => ?_⟩
      have s7 := same_new (o := .lst (w.map V.int)) hl2
      refine e_catI (s7 _ _ e6) (ys := w) upd_same (by simp only [List.length_append, List.length_cons, List.length_nil]; omega) fun r8 H8 hr8 s8 e8 => ?_
      refine k r8 H8 ((s16.trans s7).free hr8) ((s16.trans s7).trans s8) ?_
      have ee : Lt.B (.block c w) = [5] ++ ((c.length : Int) :: c) ++ [((w.map V.int).length : Int)] ++ w := by show 5 :: (rwB c ++ rwB w) = _; unfold rwB; simp
      rw [ee]; exact e8
    | refd c =>
      have hT : SqT K H q [.str "refused", .int (bnum c)] := hT
      have o3 : Piece c := hO
      have h4 := o3.h4
      walk_at "go"
      refine e_ixT hT rfl ?_
      walk_at "go"
      refine i_d (fun z => absurd z (by decide +kernel)) (fun _ => ?_)
      walk_at "go"
      refine i_d (fun z => absurd z (by decide +kernel)) (fun _ => ?_)
      walk_at "go"
      refine i_d (fun z => absurd z (by decide +kernel)) (fun _ => ?_)
      walk_at "go"
      refine i_d (fun z => absurd z (by decide +kernel)) (fun _ => ?_)
      walk_at "go"
      refine i_d (fun z => absurd z (by decide +kernel)) (fun _ => ?_)
      walk_at "go"
      rename_i p hp
      have s1 := same_new (o := .lst [.int 6]) hp
      refine e_ixT (same_tup s1 hT) rfl ?_
      walk_at "go"
      refine ⟨_, rfl, c, rfl, o3, fun r2 H2 hr2 s2 e2 => ?_⟩
      refine e_catI (xs := [6]) (s2 _ _ upd_same) e2 (by show 1 + (c.length + 1) ≤ _; omega) fun r4 H4 hr4 s4 e4 => ?_
      exact k r4 H4 ((s1.trans s2).free hr4) ((s1.trans s2).trans s4) e4
theorem ok_law_plain (T : Txt K mg)  (c_law_fields : Cal P w K mg base 1 "_law_fields" (sp_law_fields K)) {f : Addr} {fd : FuncData} (F : FnP K "_law_plain" s_law_plain f fd) : FnOk P w K mg base CX0 2 f fd ["letter"] (sp_law_plain K) := by
  refine F.ok sc_law_plain (fun vs H Q E h => ?_) (fun cdv A outer s H vs Q E hr h => ?_)
  · obtain ⟨_, rfl, _⟩ := h
    rfl
  · have S := sc_law_plain
    refine ⟨_, PSs.nox (pss_cons (ps_if (pw_or (pt_not (pt_val (pe_callB call_isi (by rfl) T.f_isinstance (by first | rfl | decide +kernel) (pa_cons (pv 0) (pa_cons (pe_bltn (v := .ty "tuple") (by rfl) T.f_tuple (by first | rfl | decide +kernel) rfl) pa_nil))))) (pw_or (pt_cmpR op_eq (pe_callB call_len_seq (by rfl) T.f_len (by first | rfl | decide +kernel) (pa_cons (pv 0) pa_nil)) pe_int (nomark _)) (pw_or1 (pt_cmpR op_ne (pe_ix ix_tup (pv 0) pe_int (fun _ _ => rfl)) pe_str (nomark _))))).pt
    (pss_one (ps_ret (pv 0)))
    pss_nil)
    (pss_cons (ps_if (pw_or (pt_cmpR op_ne (pe_callB call_len_seq (by rfl) T.f_len (by first | rfl | decide +kernel) (pa_cons (pv 0) pa_nil)) pe_int (nomark _)) (pw_or1 (pt_not (pt_val (pe_callB call_isi (by rfl) T.f_isinstance (by first | rfl | decide +kernel) (pa_cons (pe_ix ix_tup (pv 0) pe_int (fun _ _ => rfl)) (pa_cons (pe_bltn (v := .ty "tuple") (by rfl) T.f_tuple (by first | rfl | decide +kernel) rfl) pa_nil))))))).pt
    (pss_one (ps_ret pe_non))
    pss_nil)
    (pss_one (ps_ret (pe_op op_catA (pe_slice sl_tupA (pv 0) po_none (po_some pe_int)) (pe_tup (pa_cons (pe_callTy call_tuple_of (by rfl) T.f_tuple (by first | rfl | decide +kernel) (pa_cons (pe_lc (own := [("entry", 1), ("number", 2)]) (g := gTup K 2 (gCons (gName 1) (gCons (gName 2) gNil))) (tt := tYes) rfl S.nd (pi_tup (pe_ix ix_tup (pv 0) pe_int (fun _ _ => rfl))) (blkOk_by (N := N_law_plain) (sc := defScope s_law_plain) (by decide +kernel)) (fun _ _ _ _ _ => (pg_tupK (n := 2) K rfl (pgs_cons (pg_name (i := 1) S.nd rfl (by first | exact .inl rfl | exact .inr rfl)) (pgs_cons (pg_name (i := 2) S.nd rfl (by first | exact .inl rfl | exact .inr rfl)) pgs_nil)))) (fun _ _ _ _ _ => pts_nil) (fun _ _ _ _ _ => (pe_tup (pa_cons (pe_c c_law_fields hr (by decide) (by rfl) (pa_cons (pv 1) pa_nil)) (pa_cons (pv 2) pa_nil))))) pa_nil)) pa_nil))))))), ?_⟩
    try dsimp only [cxOf, Cx.nox]
    obtain ⟨_, rfl, q, t, rfl, hT, hlen, k⟩ := h
    obtain ⟨w, xs, hq, hw⟩ := LtH.hd hT
    walk_at "go"
    refine isi_tq hq ?_
    walk_at "go"
    refine i_d (fun z => absurd z (by rw [List.length_cons]; omega)) (fun _ => ?_)
    walk_at "go"
    refine e_ixT hq (at_ofA (j := 0) rfl rfl) ?_
    walk_at "go"
    refine i_nd (fun hne => ?_) (fun heq => ?_)
    · walk_at "go"
      rcases hw with ⟨_, _, _, _, hw⟩ | ⟨_, hP⟩
      · exact absurd hw hne
      · exact k q H (Same.refl _) hP
    rcases hw with ⟨b, u, es, rfl, _⟩ | ⟨hw, _⟩
    rotate_left
    · exact absurd heq hw
    clear hq
    obtain ⟨pr, ps, h1, h2, h3⟩ := id hT
    have lp := paired_len h3
    have les : es.length ≤ 1000000 := hlen b u es rfl
    walk_at "go"
    refine i_nd (fun z => absurd rfl z) (fun _ => ?_)
    walk_at "go"
    refine e_ixT h1 rfl ?_
    walk_at "go"
    refine isi_tq h2 ?_
    walk_at "go"
    refine e_slA h1 fun q3 H1 s1 hq3 => ?_
    have h1b := same_tup s1 h1
    have h2b := same_tup s1 h2
    have hq3 : SqT K H1 q3 [.str "entries", .int b, .int u] := by
      have := cut_toV [V.str "entries", .int b, .int u, .ref pr] 3
      rw [show ((3 : Nat) : Int) = 3 from rfl] at this
      rw [this] at hq3
      exact hq3
    walk_at "go"
    refine e_ixT h1b rfl ?_
    refine ⟨pr, rfl, ⟨_, h2b⟩, ?_⟩
    intro D hD
    refine lc_it (walk_tup (K := K) (xs := ps.map V.ref)) (fun i H2 => Same H1 H2 ∧ ∃ us : List Addr, H2 D = some (.lst (us.map V.ref)) ∧ us.length = i ∧ Paired (FNp K H2) us (es.take i)) ⟨same_new hD, [], upd_same, rfl, .nil⟩ (fun i H2 _ p => same_tup p.1 h2b) (fun i x H2 H3 hi p hy => ?_) (fun H2 p => ?_)
    · obtain ⟨rfl, hx⟩ := hy
      obtain ⟨s2, us, eD, lu, hU⟩ := p
      rw [List.getElem?_map] at hx
      obtain ⟨p, hp, rfl⟩ := Option.map_eq_some_iff.mp hx
      obtain ⟨x, hx, ea, hT1, hE⟩ := paired_get h3 i p hp
      have hi2 := (List.getElem?_eq_some_iff.mp hp).1
      have hT2 := same_tup (s1.trans s2) hT1
      have hE2 := hE.same (s1.trans s2)
      walk_at "go"
      refine ⟨_, rfl, ea, false, x.1, rfl, hE2, fun fa H4 s4 hF => ?_⟩
      walk_at "go"
      rename_i t ht
      have s5 := same_new (o := .tup [.ref fa, .int x.2.1]) ht
      have eD5 := (s4.trans s5) _ _ eD
      have nt : ∀ b ∈ [D], NT (upd H4 t (.tup [.ref fa, .int x.2.1])) b := fun b mb => by rw [List.mem_singleton.mp mb]; exact nt_lst eD5
      refine ⟨_, eD5, by rw [List.length_map, lu]; exact Nat.lt_of_le_of_lt (by omega : _ ≤ 1000000) (by decide), Same.mut (s2.trans (s4.trans s5)) hD, us ++ [t], by rw [upd_same, List.map_append]; rfl, by rw [List.length_append, lu]; rfl, ?_⟩
      rw [List.take_add_one, hx]
      exact paired_snoc (paired_imp (fun _ _ z => fl_fr (FlN.same z (s4.trans s5)) fr_put nt) hU) (fl_fr (x := x) ⟨fa, SqT.of upd_same, hF.same s5⟩ fr_put nt)
    · obtain ⟨s2, us, eD, lu, hU⟩ := p
      rw [List.length_map, lp, List.take_length] at hU
      refine ⟨D, _, rfl, .inl ⟨SqL.of eD, fun l hl => ?_⟩⟩
      have s3 := same_new (o := .tup (us.map V.ref)) hl
      have eL : upd H2 l (.tup (us.map V.ref)) l = some (.tup (us.map V.ref)) := upd_same
      generalize upd H2 l (.tup (us.map V.ref)) = H3 at s3 eL ⊢
      walk_at "go"
      rename_i t ht
      have s4 := same_new (o := .tup [.ref l]) ht
      refine e_catA (same_tup s4 (same_tup s3 (same_tup s2 hq3))) (SqT.of upd_same) (by show 3 + 1 ≤ _; decide) fun r H5 s5 hr5 => ?_
      have s25 := (s3.trans s4).trans s5
      exact k r H5 ((s1.trans s2).trans s25) ⟨l, us, hr5, SqT.of ((s4.trans s5) _ _ eL), paired_imp (fun _ _ z => FlN.same z s25) hU⟩
theorem ok_law_decoded (T : Txt K mg)  (c_law_plain : Cal P w K mg base 2 "_law_plain" (sp_law_plain K)) (c_decode : CalX P w K mg base 9 "decode" (sp_decode K)) {f : Addr} {fd : FuncData} (F : FnP K "_law_decoded" s_law_decoded f fd) : FnOk P w K mg base CX0 10 f fd ["data"] (sp_law_decoded K) := by
  refine F.ok sc_law_decoded (fun vs H Q E h => ?_) (fun cdv A outer s H vs Q E hr h => ?_)
  · obtain ⟨_, rfl, _⟩ := h
    rfl
  · have S := sc_law_decoded
    refine ⟨_, (pss_one (ps_try_as (i := 1) (tb := fun W => tRet (tCall (sp_law_plain K) [] E0 (tCons (tCallS (sp_decode K) (WE W) (tCons (tVar 0) tNil)) tNil))) (ts := tsDc K 1) (Wout := fun _ _ _ _ => False) rfl rfl S.nd rfl rfl ⟨rfl, by decide, Or.inl T.er_InvalidBytes.er.gC⟩ takes0 (fun W pn xe tk _ => pss_one (ps_ret (by exact (pe_c c_law_plain hr (by decide) (by rfl) (pa_cons (pe_cX c_decode hr (by decide) tk (by rfl) (pa_cons (pv 0) pa_nil)) pa_nil)))))
      (fun a oe cls d pn hz hf => pss_one (ps_ret (pe_plcErr T.er_InvalidBytes.er hz hf (pv 1)))))), ?_⟩
    try dsimp only [cxOf, Cx.nox]
    obtain ⟨_, rfl, l, d, rfl, hl, k⟩ := h
    walk_at "go"
    refine ⟨_, rfl, l, d, rfl, hl, fun t et q H1 s1 hL => ?_, fun n en H1 s1 a ha => ?_⟩
    · walk_at "go"
      refine ⟨_, rfl, q, t, rfl, hL, dec_few et, fun p H2 s2 hP => ?_⟩
      exact k _ H2 (s1.trans s2) (by rw [et]; exact hP.dp)
    · refine ⟨true, T.er_InvalidBytes.er.te, fun _ b hb => ?_, fun q => Bool.noConfusion q⟩
      unfold tsDc
      walk_at "go"
      refine ⟨_, rfl, rfl, rfl, a, _, rfl, upd_same, ?_⟩
      exact k _ _ (s1.trans (same_new ha)) (by rw [en]; exact .int _)
theorem ok_law_all_decoded (T : Txt K mg)  (c_decode_all : CalX P w K mg base 9 "decode_all" (sp_decode_all K)) (c_law_plain : Cal P w K mg base 2 "_law_plain" (sp_law_plain K)) {f : Addr} {fd : FuncData} (F : FnP K "_law_all_decoded" s_law_all_decoded f fd) : FnOk P w K mg base CX0 10 f fd ["data"] (sp_law_all_decoded K) := by
  refine F.ok sc_law_all_decoded (fun vs H Q E h => ?_) (fun cdv A outer s H vs Q E hr h => ?_)
  · obtain ⟨_, rfl, _⟩ := h
    rfl
  · have S := sc_law_all_decoded
    refine ⟨_, (pss_cons (ps_try_as (i := 2) (tb := fun W => tAsg (tCallS (sp_decode_all K) (WE W) (tCons (tVar 0) tNil)) (gName 1)) (ts := tsDc K 2) (Wout := fun _ _ _ _ => False) rfl rfl S.nd rfl rfl ⟨rfl, by decide, Or.inl T.er_InvalidBytes.er.gC⟩ takes0 (fun W pn xe tk _ => pss_one (by exact (ps_set (i := 1) S.nd rfl (by first | exact .inl rfl | exact .inr rfl) (pe_cX c_decode_all hr (by decide) tk (by rfl) (pa_cons (pv 0) pa_nil)))))
      (fun a oe cls d pn hz hf => pss_one (ps_ret (pe_plcErr T.er_InvalidBytes.er hz hf (pv 2)))))
  (PSs.nox (pss_cons (ps_if (pt_not (pt_val (pe_callB call_isi (by rfl) T.f_isinstance (by first | rfl | decide +kernel) (pa_cons (pv 1) (pa_cons (pe_bltn (v := .ty "list") (by rfl) T.f_list (by first | rfl | decide +kernel) rfl) pa_nil)))))
    (pss_one (ps_ret pe_non))
    pss_nil)
    (pss_one (ps_ret (pe_lc (own := [("letter", 3)]) (g := gName 3) (tt := tYes) rfl S.nd (pi_list (pv 1)) (blkOk_by (N := N_law_all_decoded) (sc := defScope s_law_all_decoded) (by decide +kernel)) (fun _ _ _ _ _ => (pg_name (i := 3) S.nd rfl (by first | exact .inl rfl | exact .inr rfl))) (fun _ _ _ _ _ => pts_nil) (fun _ _ _ _ _ => (pe_c c_law_plain hr (by decide) (by rfl) (pa_cons (pv 3) pa_nil))))))))), ?_⟩
    try dsimp only [cxOf, Cx.nox]
    obtain ⟨_, rfl, l, d, rfl, hl, hn, k⟩ := h
    walk_at "go"
    refine ⟨_, rfl, l, d, rfl, hl, hn, fun ts n et q qs H1 s1 eq hP => ?_, fun n en H1 s1 a ha => ?_⟩
    · have lp := paired_len hP
      have lts := all_len et
      walk_at "go"
      intro D hD
      refine lc_it (walk_list (K := K) (xs := qs.map V.ref)) (fun i H2 => Same H1 H2 ∧ ∃ us : List Addr, H2 D = some (.lst (us.map V.ref)) ∧ us.length = i ∧ Paired (PL K H2) us (ts.take i)) ⟨same_new hD, [], upd_same, rfl, .nil⟩ (fun i H2 _ p => SqL.of (p.1 _ _ eq)) (fun i x H2 H3 hi p hy => ?_) (fun H2 p => ?_)
      · obtain ⟨rfl, hx⟩ := hy
        obtain ⟨s2, us, eD, lu, hU⟩ := p
        rw [List.getElem?_map] at hx
        obtain ⟨p, hp, rfl⟩ := Option.map_eq_some_iff.mp hx
        obtain ⟨t, ht, hL⟩ := paired_get hP i p hp
        have hi := (List.getElem?_eq_some_iff.mp hp).1
        have hL3 := LtH.sameR hL s2
        walk_at "go"
        refine ⟨_, rfl, p, t, rfl, hL3, allL_few et t (List.mem_of_getElem? ht), fun p2 H4 s4 hP4 => ?_⟩
        have eD4 := s4 _ _ eD
        have nt : ∀ b ∈ [D], NT H4 b := fun b mb => by rw [List.mem_singleton.mp mb]; exact nt_lst eD4
        refine ⟨_, eD4, by rw [List.length_map, lu]; exact Nat.lt_of_le_of_lt (by omega : _ ≤ 1000000) (by decide), Same.mut (s2.trans s4) hD, us ++ [p2], by rw [upd_same, List.map_append]; rfl, by rw [List.length_append, lu]; rfl, ?_⟩
        rw [List.take_add_one, ht]
        exact paired_snoc (paired_imp (fun _ _ z => LtH.frP (LtH.sameP z s4) fr_put nt) hU) (LtH.frP hP4 fr_put nt)
      · obtain ⟨s2, us, eD, lu, hU⟩ := p
        rw [List.length_map, lp, List.take_length] at hU
        exact k _ H2 (s1.trans s2) (by rw [et]; exact ⟨D, us, rfl, eD, hU⟩)
    · refine ⟨true, T.er_InvalidBytes.er.te, fun _ b hb => ?_, fun q => Bool.noConfusion q⟩
      unfold tsDc
      walk_at "go"
      refine ⟨_, rfl, rfl, rfl, a, _, rfl, upd_same, ?_⟩
      exact k _ _ (s1.trans (same_new ha)) (by rw [en]; exact rfl)
theorem ok_law_letter_read (T : Txt K mg)  (c_law_take : Cal P w K mg base 1 "_law_take" (sp_law_take K)) (c_law_number_read : Cal P w K mg base 2 "_law_number_read" (sp_law_number_read K)) (c_law_entry_read : Cal P w K mg base 4 "_law_entry_read" (sp_law_entry_read K)) (c_law_name_read : Cal P w K mg base 2 "_law_name_read" (sp_law_name_read K)) (c_law_block : Cal P w K mg base 1 "_law_block" (sp_law_block K)) (c_law_row_read : Cal P w K mg base 2 "_law_row_read" (sp_law_row_read K)) {f : Addr} {fd : FuncData} (F : FnP K "_law_letter_read" s_law_letter_read f fd) : FnOk P w K mg base CX0 5 f fd ["data", "box"] (sp_law_letter_read K) := by
  refine F.ok sc_law_letter_read (fun vs H Q E h => ?_) (fun cdv A outer s H vs Q E hr h => ?_)
  · obtain ⟨_, _, rfl, _⟩ := h
    rfl
  · have S := sc_law_letter_read
    refine ⟨_, PSs.nox (pss_cons (ps_set (i := 2) S.nd rfl (by first | exact .inl rfl | exact .inr rfl) (pe_ix ix_list (pe_lst (pa_cons pe_str (pa_cons pe_str (pa_cons pe_str (pa_cons pe_str (pa_cons pe_str (pa_cons pe_str pa_nil))))))) (pe_op op_sub (pe_c c_law_take hr (by decide) (by rfl) (pa_cons (pv 0) (pa_cons (pv 1) (pa_cons pe_int (pa_cons pe_int pa_nil))))) pe_int) (fun _ _ => rfl)))
    (pss_cons (ps_if (pt_cmpR op_eq (pv 2) pe_str (nomark _))
    (pss_one (ps_ret (pe_tup (pa_cons (pv 2) (pa_cons (pe_c c_law_take hr (by decide) (by rfl) (pa_cons (pv 0) (pa_cons (pv 1) (pa_cons pe_int (pa_cons pe_int pa_nil))))) pa_nil)))))
    pss_nil)
    (pss_cons (ps_if (pt_cmpR op_eq (pv 2) pe_str (nomark _))
    (pss_one (ps_ret (pe_tup (pa_cons (pv 2) (pa_cons (pe_c c_law_number_read hr (by decide) (by rfl) (pa_cons (pv 0) (pa_cons (pv 1) (pa_cons pe_int pa_nil)))) pa_nil)))))
    pss_nil)
    (pss_cons (ps_if (pt_cmpR op_eq (pv 2) pe_str (nomark _))
    (pss_cons (ps_set (i := 3) S.nd rfl (by first | exact .inl rfl | exact .inr rfl) (pe_c c_law_number_read hr (by decide) (by rfl) (pa_cons (pv 0) (pa_cons (pv 1) (pa_cons pe_int pa_nil)))))
      (pss_cons (ps_set (i := 4) S.nd rfl (by first | exact .inl rfl | exact .inr rfl) (pe_c c_law_number_read hr (by decide) (by rfl) (pa_cons (pv 0) (pa_cons (pv 1) (pa_cons pe_int pa_nil)))))
      (pss_cons (ps_set (i := 5) S.nd rfl (by first | exact .inl rfl | exact .inr rfl) (pe_op op_mul pe_int (pe_c c_law_take hr (by decide) (by rfl) (pa_cons (pv 0) (pa_cons (pv 1) (pa_cons pe_int (pa_cons pe_int pa_nil)))))))
      (pss_cons (ps_set (i := 5) S.nd rfl (by first | exact .inl rfl | exact .inr rfl) (pe_op op_add (pv 5) (pe_c c_law_take hr (by decide) (by rfl) (pa_cons (pv 0) (pa_cons (pv 1) (pa_cons pe_int (pa_cons pe_int pa_nil)))))))
      (pss_cons (ps_set (i := 6) S.nd rfl (by first | exact .inl rfl | exact .inr rfl) (pe_lst pa_nil))
      (C8.pss_cut (ps_for PassesOwn.never rfl (pi_range1 (by rfl) T.f_range (pa_cons (pv 5) pa_nil)) (pg_name (i := 7) S.nd rfl (by first | exact .inl rfl | exact .inr rfl))
      (pss_cons (ps_if (pt_cmpR op_ge (pe_ix ix_list (pv 1) pe_int (fun _ _ => rfl)) pe_int (nomark _))
        (pss_one ps_break)
        pss_nil)
        (pss_one (ps_expr (pe_bm PySem.F.plainAttrs_list PySem.F.slot_list_append PySem.F.type_list_append mt_append (pv 6) (pa_cons (pe_c c_law_entry_read hr (by decide) (by rfl) (pa_cons (pv 0) (pa_cons (pv 1) pa_nil))) pa_nil))))))
      (pss_one (ps_ret (pe_tup (pa_cons (pv 2) (pa_cons (pv 3) (pa_cons (pv 4) (pa_cons (pe_callTy call_tuple_of (by rfl) T.f_tuple (by first | rfl | decide +kernel) (pa_cons (pv 6) pa_nil)) pa_nil)))))))))))))
    pss_nil)
    (pss_cons (ps_if (pt_cmpR op_eq (pv 2) pe_str (nomark _))
    (pss_cons (ps_set (i := 8) S.nd rfl (by first | exact .inl rfl | exact .inr rfl) (pe_c c_law_name_read hr (by decide) (by rfl) (pa_cons (pv 0) (pa_cons (pv 1) pa_nil))))
      (pss_cons (ps_set (i := 9) S.nd rfl (by first | exact .inl rfl | exact .inr rfl) (pe_c c_law_take hr (by decide) (by rfl) (pa_cons (pv 0) (pa_cons (pv 1) (pa_cons pe_int (pa_cons pe_int pa_nil))))))
      (pss_one (ps_ret (pe_tup (pa_cons (pv 2) (pa_cons (pv 8) (pa_cons (pv 9) (pa_cons (pe_c c_law_block hr (by decide) (by rfl) (pa_cons (pe_c c_law_row_read hr (by decide) (by rfl) (pa_cons (pv 0) (pa_cons (pv 1) (pa_cons pe_int pa_nil)))) pa_nil)) pa_nil)))))))))
    pss_nil)
    (pss_cons (ps_set (i := 10) S.nd rfl (by first | exact .inl rfl | exact .inr rfl) (pe_c c_law_block hr (by decide) (by rfl) (pa_cons (pe_c c_law_row_read hr (by decide) (by rfl) (pa_cons (pv 0) (pa_cons (pv 1) (pa_cons pe_int pa_nil)))) pa_nil)))
    (pss_cons (ps_if (pt_cmpR op_eq (pv 2) pe_str (nomark _))
    (pss_one (ps_ret (pe_tup (pa_cons (pv 2) (pa_cons (pv 10) (pa_cons (pe_callTy call_tuple_of (by rfl) T.f_tuple (by first | rfl | decide +kernel) (pa_cons (pe_c c_law_row_read hr (by decide) (by rfl) (pa_cons (pv 0) (pa_cons (pv 1) (pa_cons pe_int pa_nil)))) pa_nil)) pa_nil))))))
    pss_nil)
    (pss_one (ps_ret (pe_tup (pa_cons (pv 2) (pa_cons (pv 10) pa_nil)))))))))))), ?_⟩
    try dsimp only [cxOf, Cx.nox]
    obtain ⟨_, _, rfl, l, b, dd, s, rfl, rfl, hX, k⟩ := h
    walk_at "go"
    rename_i r0 hr0
    have s0 := same_new (o := .lst [.str "hello", .str "ask", .str "entries", .str "request", .str "block", .str "refused"]) hr0
    have n0 := (hX.free hr0).2
    refine ⟨_, _, _, _, rfl, 1, 6, rfl, rfl, l, b, dd, s, rfl, rfl, hX.same s0, fun s1 o1 r1 H1 N1 f1 X1 hr1 => ?_⟩
    obtain ⟨kd, rfl, hk1, hk2⟩ := hr1
    have hkd : 1 ≤ kd ∧ kd ≤ 6 := by
      cases o1 with
      | none => rw [hk2 rfl]; decide
      | some x => rw [hk1 x rfl]; have := byte_ok N1.2.2; exact ⟨this.1, this.2.1⟩
    have e1 := fr1_lst n0 f1 (upd_same (H := H) (a := r0) (o := .lst [.str "hello", .str "ask", .str "entries", .str "request", .str "block", .str "refused"]))
    have F1 : Fr [b] H H1 := fun c o nc ec => f1 c o nc (s0 _ _ ec)
    have k : ∀ s' o r H', Nx (pLt1 kd) dd s1 s' o → Fr [b] H1 H' → BxS H' l b dd s' → (∃ q, r = V.ref q ∧ ∀ v, o = some v → PL K H' q v) → Q r H' := fun s' o r H' N f X hr => by
      obtain ⟨q, rfl, hq⟩ := hr
      obtain ⟨o', N', h'⟩ := Nx.seq (g := pLt1) (V := fun x => PL K H' q x) N1 N.dn fun v e => ⟨o, by rw [← hk1 v e]; exact N, hq⟩
      exact k s' o' _ H' N' (F1.trans f) X ⟨q, rfl, h'⟩
    clear N1 hk1 hk2 f1 hX F1
    walk_at "go"
    have h6 : kd = 1 ∨ kd = 2 ∨ kd = 3 ∨ kd = 4 ∨ kd = 5 ∨ kd = 6 := by omega
    rcases h6 with rfl | rfl | rfl | rfl | rfl | rfl
    · refine e_ixL (v := .str "hello") (SqL.of e1) rfl ?_
      walk_at "go"
      refine i_d (fun _ => ?_) (fun z => absurd rfl z)
      walk_at "go"
      refine ⟨_, _, _, _, rfl, 1, 9, rfl, rfl, l, b, dd, s1, rfl, rfl, X1, fun s2 o2 r2 H2 N2 f2 X2 hr2 => ?_⟩
      obtain ⟨v, rfl, hv, _⟩ := hr2
      walk_at "go"
      rename_i q hq
      have s3 := same_new (o := .tup [.str "hello", .int v]) hq
      obtain ⟨o, N, hN⟩ := Nx.seq (f := pDev) (g := fun d => retP (Lt.hello d)) (V := fun x => x = .hello v) N2 (fun _ => rfl) fun w e => ⟨some (.hello v), by rw [hv w e]; exact Nx.ret (by subst e; exact N2.live), fun x e => by cases e; rfl⟩
      exact k s2 o _ _ N (f2.same s3) (X2.same s3) ⟨q, rfl, fun x e => by rw [hN x e]; exact SqT.of upd_same⟩
    · refine e_ixL (v := .str "ask") (SqL.of e1) rfl ?_
      walk_at "go"
      refine i_d (fun z => absurd z (by decide +kernel)) (fun _ => ?_)
      walk_at "go"
      refine i_d (fun _ => ?_) (fun z => absurd rfl z)
      walk_at "go"
      refine ⟨_, _, _, rfl, 0, rfl, by decide, by decide, l, b, dd, s1, rfl, rfl, X1, fun s2 o2 r2 H2 N2 f2 X2 hr2 => ?_⟩
      obtain ⟨v, rfl, hv⟩ := hr2
      walk_at "go"
      rename_i q hq
      have s3 := same_new (o := .tup [.str "ask", .int v]) hq
      obtain ⟨o, N, hN⟩ := Nx.seq (f := pNum 0) (g := fun d => retP (Lt.ask d)) (V := fun x => x = .ask v) N2 (fun _ => rfl) fun w e => ⟨some (.ask v), by rw [hv w e]; exact Nx.ret (by subst e; exact N2.live), fun x e => by cases e; rfl⟩
      exact k s2 o _ _ N (f2.same s3) (X2.same s3) ⟨q, rfl, fun x e => by rw [hN x e]; exact SqT.of upd_same⟩
    · refine e_ixL (v := .str "entries") (SqL.of e1) rfl ?_
      walk_at "go"
      refine i_d (fun z => absurd z (by decide +kernel)) (fun _ => ?_)
      walk_at "go"
      refine i_d (fun z => absurd z (by decide +kernel)) (fun _ => ?_)
      walk_at "go"
      refine i_d (fun _ => ?_) (fun z => absurd rfl z)
      walk_at "go"
      refine ⟨_, _, _, rfl, 0, rfl, by decide, by decide, l, b, dd, s1, rfl, rfl, X1, fun s2 o2 r2 H2 N2 f2 X2 hr2 => ?_⟩
      obtain ⟨bh, rfl, hv2⟩ := hr2
      walk_at "go"
      refine ⟨_, _, _, rfl, 0, rfl, by decide, by decide, l, b, dd, s2, rfl, rfl, X2, fun s3 o3 r3 H3 N3 f3 X3 hr3 => ?_⟩
      obtain ⟨up, rfl, hv3⟩ := hr3
      walk_at "go"
      refine ⟨_, _, _, _, rfl, 0, 255, rfl, rfl, l, b, dd, s3, rfl, rfl, X3, fun s4 o4 r4 H4 N4 f4 X4 hr4 => ?_⟩
      obtain ⟨x, rfl, hv4, hw4⟩ := hr4
      walk_at "go"
      refine ⟨_, _, _, _, rfl, 0, 255, rfl, rfl, l, b, dd, s4, rfl, rfl, X4, fun s5 o5 r5 H5 N5 f5 X5 hr5 => ?_⟩
      obtain ⟨y, rfl, hv5, hw5⟩ := hr5
      have hx : 0 ≤ x ∧ x ≤ 255 := by
        cases o4 with
        | none => rw [hw4 rfl]; decide
        | some w => rw [hv4 w rfl]; have := byte_ok N4.2.2; exact ⟨this.1, this.2.1⟩
      have hy : 0 ≤ y ∧ y ≤ 255 := by
        cases o5 with
        | none => rw [hw5 rfl]; decide
        | some w => rw [hv5 w rfl]; have := byte_ok N5.2.2; exact ⟨this.1, this.2.1⟩
      have F5 : Fr [b] H1 H5 := ((f2.trans f3).trans f4).trans f5
      walk_at "go"
      rename_i D hD
      have nD := X5.free hD
      have sD := same_new (o := .lst []) hD
      refine e_cut (Mid := fun σ' H' => ∃ (us : List Addr) (es : List ET2) (s6 : BS) (v7 v8 v9 v10 : Option V), σ' = [some (.ref l), some (.ref b), some (.str "entries"), some (.int bh), some (.int up), some (.int (256 * x + y)), some (.ref D), v7, v8, v9, v10] ∧ Fr [b] H5 H' ∧ BxS H' l b dd s6 ∧ H' D = some (.lst (us.map V.ref)) ∧ (s6.2 = none → Paired (FNp K H') us es) ∧ Go (pMany pEntry (256 * x + y).toNat dd s5.1) (fun q => .ok (es, q)) s5 s6) ?_ fun σ' H6 q => ?_
      · walk_at "go"
        refine for_rng (fun i σ H' => ∃ (us : List Addr) (es : List ET2) (s6 : BS) (v7 : Option V), σ = [some (.ref l), some (.ref b), some (.str "entries"), some (.int bh), some (.int up), some (.int (256 * x + y)), some (.ref D), v7, none, none, none] ∧ Fr [b] H5 H' ∧ BxS H' l b dd s6 ∧ H' D = some (.lst (us.map V.ref)) ∧ us.length = i ∧ (s6.2 = none → Paired (FNp K H') us es) ∧ Go (pMany pEntry (256 * x + y).toNat dd s5.1) (fun q => mapP (es ++ ·) (pMany pEntry ((256 * x + y).toNat - i) dd q)) s5 s6) ⟨[], [], s5, _, rfl, Fr.of sD, X5.same sD, upd_same, rfl, fun _ => .nil, (Go.start rfl).conv fun q => many_start _ _ _ _⟩ (fun i σ H6 hi q => ?_) (fun σ H6 q => ?_)
        · obtain ⟨us, es, s6, v7, rfl, f6, X6, eD, lu, hP, G6⟩ := q
          obtain ⟨p6, o6⟩ := s6
          cases o6 with
          | some n =>
            have hb : H6 b = some (.lst [.int (p6 : Nat), .int (n : Nat)]) := X6.bx
            walk_at "go"
            refine e_ixL (SqL.of hb) rfl ?_
            walk_at "go"
            refine i_d (fun _ => ?_) (fun z => by omega)
            walk_at "go"
            exact ⟨us, es, (p6, some n), _, _, _, _, rfl, f6, X6, eD, (fun z => by cases z), G6.dead rfl⟩
          | none =>
            have hb : H6 b = some (.lst [.int (p6 : Nat), .int (-1)]) := X6.bx
            walk_at "go"
            refine e_ixL (SqL.of hb) rfl ?_
            walk_at "go"
            refine i_d (fun z => absurd z (by decide)) (fun _ => ?_)
            walk_at "go"
            refine ⟨_, _, rfl, l, b, dd, _, rfl, rfl, X6, fun s7 o7 r7 H7 N7 f7 X7 hr7 => ?_⟩
            obtain ⟨qa, rfl, hv7⟩ := hr7
            have eD7 := fr1_lst nD.2 f7 eD
            walk_at "go"
            refine e_app eD7 (by rw [List.length_map, lu]; exact Nat.lt_of_le_of_lt (by omega : _ ≤ 100000) (by decide)) ?_
            have f67 := (f6.trans f7).mut (o := .lst (us.map V.ref ++ [.ref qa])) hD
            have nt : ∀ c ∈ [D], NT H7 c := fun c mc => by rw [List.mem_singleton.mp mc]; exact nt_lst eD7
            cases o7 with
            | none =>
              obtain ⟨n, hn⟩ := N7.dead
              exact ⟨us ++ [qa], es, s7, _, rfl, f67, X7.upd nD, by rw [upd_same, List.map_append]; rfl, by rw [List.length_append, lu]; rfl, (fun z => by rw [hn] at z; cases z), G6.step N7 (fun m e => many_err hi e rfl) fun v e => by cases e⟩
            | some v =>
              refine ⟨us ++ [qa], es ++ [v], s7, _, rfl, f67, X7.upd nD, by rw [upd_same, List.map_append]; rfl, by rw [List.length_append, lu]; rfl, fun z => ?_, G6.step N7 (fun m e => many_err hi e rfl) fun w ew e => by cases ew; exact many_ok hi e rfl⟩
              exact paired_snoc (paired_imp (fun _ _ g => fl_fr (fl_fr g f7 X6.nt) fr_put nt) (hP rfl)) (fl_fr (x := v) (hv7 v rfl) fr_put nt)
        · obtain ⟨us, es, s6, v7, rfl, f6, X6, eD, lu, hP, G6⟩ := q
          exact ⟨us, es, s6, _, _, _, _, rfl, f6, X6, eD, hP, G6.conv fun q => many_end rfl⟩
      · obtain ⟨us, es, s6, v7, v8, v9, v10, rfl, f6, X6, eD, hP, G6⟩ := q
        walk_at "go"
        refine ⟨D, _, rfl, .inl ⟨SqL.of eD, fun t ht => ?_⟩⟩
        have s7 := same_new (o := .tup (us.map V.ref)) ht
        walk_at "go"
        rename_i q hq
        have s8 := same_new (o := .tup [.str "entries", .int bh, .int up, .ref t]) hq
        obtain ⟨o6, N6, h6⟩ := Go.nx (f := pMany pEntry (256 * x + y).toNat) (v := es) G6 rfl
        have d5 := N6.dn
        have d4 := N5.dn.trans d5
        have d3 := N4.dn.trans d4
        have d2 := N3.dn.trans d3
        obtain ⟨o, N, hN⟩ := Nx.seq (f := pNum 0) (g := fun b => thenP (pNum 0) fun u => thenP (pByte 0 255) fun x => thenP (pByte 0 255) fun y => thenP (pMany pEntry (x * 256 + y).toNat) fun es => retP (Lt.ents b u es)) (V := fun z => z = .ents bh up es) N2 d2 fun w2 e2 => Nx.seq N3 d3 fun w3 e3 => Nx.seq N4 d4 fun w4 e4 => Nx.seq N5 d5 fun w5 e5 => Nx.seq (f := pMany pEntry (w4 * 256 + w5).toNat) (o1 := o6) (by rw [← hv4 w4 e4, ← hv5 w5 e5, Int.mul_comm x]; exact N6) (fun _ => rfl) fun w6 e6 => ⟨some (.ents w2 w3 w6), Nx.ret (by subst e6; exact N6.live), fun z e => by cases e; rw [hv2 w2 e2, hv3 w3 e3, h6 w6 e6]⟩
        refine k s6 o _ _ N ((F5.trans f6).same (s7.trans s8)) (X6.same (s7.trans s8)) ⟨q, rfl, fun z e => ?_⟩
        rw [hN z e]
        exact ⟨t, us, SqT.of upd_same, SqT.of (s8 _ _ upd_same), paired_imp (fun _ _ g => FlN.same g (s7.trans s8)) (hP (by subst e; exact N.live))⟩
    · refine e_ixL (v := .str "request") (SqL.of e1) rfl ?_
      walk_at "go"
      refine i_d (fun z => absurd z (by decide +kernel)) (fun _ => ?_)
      walk_at "go"
      refine i_d (fun z => absurd z (by decide +kernel)) (fun _ => ?_)
      walk_at "go"
      refine i_d (fun z => absurd z (by decide +kernel)) (fun _ => ?_)
      walk_at "go"
      refine i_d (fun _ => ?_) (fun z => absurd rfl z)
      walk_at "go"
      refine ⟨_, _, rfl, l, b, dd, s1, rfl, rfl, X1, fun s2 o2 r2 H2 N2 f2 X2 hr2 => ?_⟩
      obtain ⟨z, rfl, hv2⟩ := hr2
      walk_at "go"
      refine ⟨_, _, _, _, rfl, 0, 254, rfl, rfl, l, b, dd, s2, rfl, rfl, X2, fun s3 o3 r3 H3 N3 f3 X3 hr3 => ?_⟩
      obtain ⟨i, rfl, hv3, _⟩ := hr3
      walk_at "go"
      refine ⟨_, _, _, rfl, 1, rfl, by decide, by decide, l, b, dd, s3, rfl, rfl, X3, fun s4 o4 r4 H4 N4 f4 X4 hr4 => ?_⟩
      obtain ⟨ra, c, rfl, er, lc1, lc4, hv4⟩ := hr4
      walk_at "go"
      refine ⟨_, rfl, ra, c, rfl, er, lc1, lc4, fun H5 s5 => ?_⟩
      walk_at "go"
      rename_i q hq
      have s6 := same_new (o := .tup [.str "request", .str z, .int i, .int (bnum c)]) hq
      have s56 := s5.trans s6
      have d3 := N4.dn
      have d2 := N3.dn.trans d3
      obtain ⟨o, N, hN⟩ := Nx.seq (f := pName) (g := fun z => thenP (pByte 0 254) fun i => thenP (pRow 1) fun c => retP (Lt.req z i c)) (V := fun w => w = .req z i c) N2 d2 fun w2 e2 => Nx.seq N3 d3 fun w3 e3 => Nx.seq N4 (fun _ => rfl) fun w4 e4 => ⟨some (.req w2 w3 w4), Nx.ret (by subst e4; exact N4.live), fun x e => by cases e; rw [hv2 w2 e2, hv3 w3 e3, hv4 w4 e4]⟩
      exact k s4 o _ _ N (((f2.trans f3).trans f4).same s56) (X4.same s56) ⟨q, rfl, fun x e => by rw [hN x e]; exact SqT.of upd_same⟩
    · refine e_ixL (v := .str "block") (SqL.of e1) rfl ?_
      walk_at "go"
      refine i_d (fun z => absurd z (by decide +kernel)) (fun _ => ?_)
      walk_at "go"
      refine i_d (fun z => absurd z (by decide +kernel)) (fun _ => ?_)
      walk_at "go"
      refine i_d (fun z => absurd z (by decide +kernel)) (fun _ => ?_)
      walk_at "go"
      refine i_d (fun z => absurd z (by decide +kernel)) (fun _ => ?_)
      walk_at "go"
      refine ⟨_, _, _, rfl, 1, rfl, by decide, by decide, l, b, dd, s1, rfl, rfl, X1, fun s2 o2 r2 H2 N2 f2 X2 hr2 => ?_⟩
      obtain ⟨ra, c, rfl, er, lc1, lc4, hv2⟩ := hr2
      walk_at "go"
      refine ⟨_, rfl, ra, c, rfl, er, lc1, lc4, fun H3 s3 => ?_⟩
      walk_at "go"
      refine i_d (fun _ => ?_) (fun z => absurd rfl z)
      walk_at "go"
      refine ⟨_, _, _, rfl, 1, rfl, by decide, by decide, l, b, dd, s2, rfl, rfl, X2.same s3, fun s4 o4 r4 H4 N4 f4 X4 hr4 => ?_⟩
      obtain ⟨rb, w, rfl, ew, lw1, lw4, hv4⟩ := hr4
      walk_at "go"
      refine ⟨rb, _, rfl, .inl ⟨SqL.of ew, fun t ht => ?_⟩⟩
      have s5 := same_new (o := .tup (w.map V.int)) ht
      walk_at "go"
      rename_i q hq
      have s6 := same_new (o := .tup [.str "block", .int (bnum c), .ref t]) hq
      obtain ⟨o, N, hN⟩ := Nx.seq (f := pRow 1) (g := fun c => thenP (pRow 1) fun w => retP (Lt.block c w)) (V := fun x => x = .block c w) N2 N4.dn fun w2 e2 => Nx.seq N4 (fun _ => rfl) fun w4 e4 => ⟨some (.block w2 w4), Nx.ret (by subst e4; exact N4.live), fun x e => by cases e; rw [hv2 w2 e2, hv4 w4 e4]⟩
      exact k s4 o _ _ N (((f2.same s3).trans f4).same (s5.trans s6)) (X4.same (s5.trans s6)) ⟨q, rfl, fun x e => by rw [hN x e]; exact ⟨t, SqT.of upd_same, SqT.of (s6 _ _ upd_same)⟩⟩
    · refine e_ixL (v := .str "refused") (SqL.of e1) rfl ?_
      walk_at "go"
      refine i_d (fun z => absurd z (by decide +kernel)) (fun _ => ?_)
      walk_at "go"
      refine i_d (fun z => absurd z (by decide +kernel)) (fun _ => ?_)
      walk_at "go"
      refine i_d (fun z => absurd z (by decide +kernel)) (fun _ => ?_)
      walk_at "go"
      refine i_d (fun z => absurd z (by decide +kernel)) (fun _ => ?_)
      walk_at "go"
      refine ⟨_, _, _, rfl, 1, rfl, by decide, by decide, l, b, dd, s1, rfl, rfl, X1, fun s2 o2 r2 H2 N2 f2 X2 hr2 => ?_⟩
      obtain ⟨ra, c, rfl, er, lc1, lc4, hv2⟩ := hr2
      walk_at "go"
      refine ⟨_, rfl, ra, c, rfl, er, lc1, lc4, fun H3 s3 => ?_⟩
      walk_at "go"
      refine i_d (fun z => absurd z (by decide +kernel)) (fun _ => ?_)
      walk_at "go"
      rename_i q hq
      have s6 := same_new (o := .tup [.str "refused", .int (bnum c)]) hq
      obtain ⟨o, N, hN⟩ := Nx.seq (f := pRow 1) (g := fun c => retP (Lt.refd c)) (V := fun x => x = .refd c) N2 (fun _ => rfl) fun w2 e2 => ⟨some (.refd w2), Nx.ret (by subst e2; exact N2.live), fun x e => by cases e; rw [hv2 w2 e2]⟩
      exact k s2 o _ _ N (f2.same (s3.trans s6)) (X2.same (s3.trans s6)) ⟨q, rfl, fun x e => by rw [hN x e]; exact SqT.of upd_same⟩
theorem ok_law_due (T : Txt K mg)  (c_law_letter_read : Cal P w K mg base 5 "_law_letter_read" (sp_law_letter_read K)) {f : Addr} {fd : FuncData} (F : FnP K "_law_due" s_law_due f fd) : FnOk P w K mg base CX0 6 f fd ["data"] (sp_law_due K) := by
  refine F.ok sc_law_due (fun vs H Q E h => ?_) (fun cdv A outer s H vs Q E hr h => ?_)
  · obtain ⟨_, rfl, _⟩ := h
    rfl
  · have S := sc_law_due
    refine ⟨_, PSs.nox (pss_cons (ps_set (i := 1) S.nd rfl (by first | exact .inl rfl | exact .inr rfl) (pe_lst (pa_cons pe_int (pa_cons (pe_un un_neg pe_int) pa_nil))))
    (pss_cons (ps_set (i := 2) S.nd rfl (by first | exact .inl rfl | exact .inr rfl) (pe_c c_law_letter_read hr (by decide) (by rfl) (pa_cons (pv 0) (pa_cons (pv 1) pa_nil))))
    (C8.pss_cut (ps_if (pw_and (pt_cmpR op_lt (pe_ix ix_list (pv 1) pe_int (fun _ _ => rfl)) pe_int (nomark _)) (pw_and1 (pt_cmpR op_lt (pe_ix ix_list (pv 1) pe_int (fun _ _ => rfl)) (pe_callB call_len_seq (by rfl) T.f_len (by first | rfl | decide +kernel) (pa_cons (pv 0) pa_nil)) (nomark _)))).pt
    (pss_one (ps_asg (pe_ix ix_list (pv 1) pe_int (fun _ _ => rfl)) (pg_sub (pv 1) pe_int set_list)))
    pss_nil)
    (pss_cons (ps_if (pt_cmpR op_ge (pe_ix ix_list (pv 1) pe_int (fun _ _ => rfl)) pe_int (nomark _))
    (pss_one (ps_ret (pe_ix ix_list (pv 1) pe_int (fun _ _ => rfl))))
    pss_nil)
    (pss_one (ps_ret (pv 2))))))), ?_⟩
    try dsimp only [cxOf, Cx.nox]
    obtain ⟨_, rfl, l, dd, rfl, hl, hB, k⟩ := h
    walk_at "go"
    rename_i b hb
    have nlb : l ≠ b := fun z => by unfold LstI at hl; rw [z, hb] at hl; cases hl
    have s0 := same_new (o := .lst [.int 0, .int (-1)]) hb
    have X0 : BxS (upd H b (.lst [.int 0, .int (-1)])) l b dd (0, none) := ⟨s0 _ _ hl, nlb, hB, Nat.zero_le _, upd_same⟩
    generalize upd H b (.lst [.int 0, .int (-1)]) = H0 at s0 X0 ⊢
    refine ⟨_, _, rfl, l, b, dd, _, rfl, rfl, X0, fun s1 o r H1 N1 f1 X1 hr => ?_⟩
    obtain ⟨q, rfl, hq⟩ := hr
    have s01 := same_fr s0 hb f1
    refine e_cut (Mid := fun σ' H' => ∃ s2 : BS, σ' = [some (.ref l), some (.ref b), some (.ref q)] ∧ Same H H' ∧ Fr [b] H1 H' ∧ BxS H' l b dd s2 ∧ ((s2.2 = none ∧ ∃ t, pDec dd = .ok t ∧ PL K H1 q t) ∨ ∃ n, s2.2 = some n ∧ pDec dd = .error n)) ?_ fun σ' H2 z => ?_
    · obtain ⟨p1, o1⟩ := s1
      cases o with
      | none =>
        obtain ⟨n, hn, h9⟩ := N1
        have hn : o1 = some n := hn
        subst hn
        have he : pLetter dd 0 = .error n := by
          rcases h9 with h9 | h9
          · injection h9 with _ z; cases z
          · exact h9.2
        have hbx : H1 b = some (.lst [.int (p1 : Nat), .int (n : Nat)]) := X1.bx
        walk_at "go"
        refine e_ixL (SqL.of hbx) rfl ?_
        walk_at "go"
        refine i_d (fun z => by omega) (fun _ => ?_)
        walk_at "go"
        exact ⟨(p1, some n), rfl, s01, Fr.refl _ _, X1, .inr ⟨n, rfl, by unfold pDec; rw [he]⟩⟩
      | some t =>
        obtain ⟨_, hn, he⟩ := N1
        have hn : o1 = none := hn
        subst hn
        have he : pLetter dd 0 = .ok (t, p1) := he
        have hbx : H1 b = some (.lst [.int (p1 : Nat), .int (-1)]) := X1.bx
        walk_at "go"
        refine e_ixL (SqL.of hbx) rfl ?_
        walk_at "go"
        refine i_d (fun _ => ?_) (fun z => absurd (by decide) z)
        walk_at "go"
        refine e_ixL (SqL.of hbx) rfl ?_
        walk_at "go"
        refine ⟨l, _, rfl, .inl (SqL.of X1.da), ?_⟩
        rw [List.length_map]
        walk_at "go"
        refine i_d (fun z => ?_) (fun z => ?_)
        · walk_at "go"
          refine e_ixL (SqL.of hbx) rfl ?_
          walk_at "go"
          refine e_setL hbx rfl ?_
          exact ⟨(p1, some p1), rfl, same_fr s01 hb fr_put, fr_put, ⟨by unfold LstI; rw [upd_ne X1.ne]; exact X1.da, X1.ne, X1.B, X1.le, upd_same⟩, .inr ⟨p1, rfl, by unfold pDec; rw [he]; exact if_pos (by omega)⟩⟩
        · walk_at "go"
          exact ⟨(p1, none), rfl, s01, Fr.refl _ _, X1, .inl ⟨rfl, t, by unfold pDec; rw [he]; exact if_neg (by omega), hq t rfl⟩⟩
    obtain ⟨⟨p2, o2⟩, rfl, s2, f2, X2, hz⟩ := z
    rcases hz with ⟨ho, t, ed, hP⟩ | ⟨n, ho, ed⟩
    · have ho : o2 = none := ho
      subst ho
      have hbx : H2 b = some (.lst [.int (p2 : Nat), .int (-1)]) := X2.bx
      walk_at "go"
      refine e_ixL (SqL.of hbx) rfl ?_
      walk_at "go"
      refine i_d (fun z => absurd z (by decide)) (fun _ => ?_)
      walk_at "go"
      exact k _ H2 s2 (by rw [ed]; exact (LtH.frP hP f2 X1.nt).dp)
    · have ho : o2 = some n := ho
      subst ho
      have hbx : H2 b = some (.lst [.int (p2 : Nat), .int (n : Nat)]) := X2.bx
      walk_at "go"
      refine e_ixL (SqL.of hbx) rfl ?_
      walk_at "go"
      refine i_d (fun _ => ?_) (fun z => by omega)
      walk_at "go"
      refine e_ixL (SqL.of hbx) rfl ?_
      exact k _ H2 s2 (by rw [ed]; exact .int _)
theorem ok_law_all_due (T : Txt K mg)  (c_law_letter_read : Cal P w K mg base 5 "_law_letter_read" (sp_law_letter_read K)) {f : Addr} {fd : FuncData} (F : FnP K "_law_all_due" s_law_all_due f fd) : FnOk P w K mg base CX0 6 f fd ["data"] (sp_law_all_due K) := by
  refine F.ok sc_law_all_due (fun vs H Q E h => ?_) (fun cdv A outer s H vs Q E hr h => ?_)
  · obtain ⟨_, rfl, _⟩ := h
    rfl
  · have S := sc_law_all_due
    refine ⟨_, PSs.nox (pss_cons (ps_set (i := 1) S.nd rfl (by first | exact .inl rfl | exact .inr rfl) (pe_lst (pa_cons pe_int (pa_cons (pe_un un_neg pe_int) pa_nil))))
    (pss_cons (ps_set (i := 2) S.nd rfl (by first | exact .inl rfl | exact .inr rfl) (pe_lst pa_nil))
    (pss_cons (ps_for PassesOwn.never rfl (pi_range1 (by rfl) T.f_range (pa_cons (pe_callB call_len_seq (by rfl) T.f_len (by first | rfl | decide +kernel) (pa_cons (pv 0) pa_nil)) pa_nil)) (pg_name (i := 3) S.nd rfl (by first | exact .inl rfl | exact .inr rfl))
    (pss_one (ps_if (pw_and (pt_cmpR op_lt (pe_ix ix_list (pv 1) pe_int (fun _ _ => rfl)) pe_int (nomark _)) (pw_and1 (pt_cmpR op_lt (pe_ix ix_list (pv 1) pe_int (fun _ _ => rfl)) (pe_callB call_len_seq (by rfl) T.f_len (by first | rfl | decide +kernel) (pa_cons (pv 0) pa_nil)) (nomark _)))).pt
      (pss_one (ps_expr (pe_bm PySem.F.plainAttrs_list PySem.F.slot_list_append PySem.F.type_list_append mt_append (pv 2) (pa_cons (pe_c c_law_letter_read hr (by decide) (by rfl) (pa_cons (pv 0) (pa_cons (pv 1) pa_nil))) pa_nil))))
      pss_nil)))
    (pss_cons (ps_if (pt_cmpR op_ge (pe_ix ix_list (pv 1) pe_int (fun _ _ => rfl)) pe_int (nomark _))
    (pss_one (ps_ret (pe_ix ix_list (pv 1) pe_int (fun _ _ => rfl))))
    pss_nil)
    (pss_one (ps_ret (pv 2))))))), ?_⟩
    try dsimp only [cxOf, Cx.nox]
    obtain ⟨_, rfl, l, dd, rfl, hl, hB, hn, k⟩ := h
    walk_at "go"
    rename_i b hb D hD
    have nlb : l ≠ b := fun z => by unfold LstI at hl; rw [z, hb] at hl; cases hl
    have s0 := same_new (o := .lst [.int 0, .int (-1)]) hb
    have sD := same_new (o := .lst []) hD
    have X0 : BxS (upd H b (.lst [.int 0, .int (-1)])) l b dd (0, none) := ⟨s0 _ _ hl, nlb, hB, Nat.zero_le _, upd_same⟩
    generalize upd H b (.lst [.int 0, .int (-1)]) = H0 at s0 X0 hD sD ⊢
    have nD := X0.free hD
    refine ⟨l, _, rfl, .inl (SqL.of (sD _ _ X0.da)), ?_⟩
    rw [List.length_map]
    have nDH : H D = none := s0.free hD
    walk_at "go"
    refine for_rng (fun i σ H1 => ∃ (ts : List Lt) (us : List Addr) (s1 : BS) (v3 : Option V), σ = [some (.ref l), some (.ref b), some (.ref D), v3] ∧ Same H H1 ∧ BxS H1 l b dd s1 ∧ H1 D = some (.lst (us.map V.ref)) ∧ us.length ≤ i ∧ (s1.2 = none → Paired (PL K H1) us ts ∧ (i ≤ s1.1 ∨ s1.1 = dd.length)) ∧ Go (pAll dd) (fun q => mapP (ts ++ ·) (pAllL (dd.length + 1 - i) dd q)) (0, none) s1) ⟨[], [], (0, none), none, rfl, s0.trans sD, X0.same sD, upd_same, Nat.le_refl _, fun _ => ⟨.nil, .inl (Nat.le_refl _)⟩, Go.start (all_start dd)⟩ (fun i σ H1 hi q => ?_) (fun σ H1 q => ?_)
    · obtain ⟨ts, us, ⟨p1, o1⟩, v3, rfl, s1, X1, eD, lu, hP, G1⟩ := q
      have hi : i < dd.length := by omega
      have hk : dd.length + 1 - i = (dd.length + 1 - (i + 1)) + 1 := by omega
      cases o1 with
      | some n =>
        have hbx : H1 b = some (.lst [.int (p1 : Nat), .int (n : Nat)]) := X1.bx
        walk_at "go"
        refine e_ixL (SqL.of hbx) rfl ?_
        walk_at "go"
        refine i_d (fun z => by omega) (fun _ => ?_)
        walk_at "go"
        exact ⟨ts, us, (p1, some n), _, rfl, s1, X1, eD, by omega, (fun z => by cases z), G1.dead rfl⟩
      | none =>
        obtain ⟨hP, hpi⟩ := hP rfl
        have hpi : i ≤ p1 ∨ p1 = dd.length := hpi
        have hbx : H1 b = some (.lst [.int (p1 : Nat), .int (-1)]) := X1.bx
        have hp1 : p1 ≤ dd.length := X1.le
        walk_at "go"
        refine e_ixL (SqL.of hbx) rfl ?_
        walk_at "go"
        refine i_d (fun _ => ?_) (fun z => absurd (by decide) z)
        walk_at "go"
        refine e_ixL (SqL.of hbx) rfl ?_
        walk_at "go"
        refine ⟨l, _, rfl, .inl (SqL.of X1.da), ?_⟩
        rw [List.length_map]
        walk_at "go"
        refine i_d (fun z => ?_) (fun z => ?_)
        · have hlt : p1 < dd.length := by omega
          walk_at "go"
          refine ⟨_, _, rfl, l, b, dd, _, rfl, rfl, X1, fun s2 o r H2 N2 f2 X2 hr => ?_⟩
          obtain ⟨qa, rfl, hv⟩ := hr
          have eD2 := fr1_lst nD.2 f2 eD
          have nt : ∀ c ∈ [D], NT H2 c := fun c mc => by rw [List.mem_singleton.mp mc]; exact nt_lst eD2
          have sH2 := same_fr s1 hb f2
          walk_at "go"
          refine e_app eD2 (by rw [List.length_map]; exact Nat.lt_of_le_of_lt (by omega : _ ≤ 1000000) (by decide)) ?_
          cases o with
          | none =>
            obtain ⟨n, hn2⟩ := N2.dead
            exact ⟨ts, us ++ [qa], s2, _, rfl, Same.mut sH2 nDH, X2.upd nD, by rw [upd_same, List.map_append]; rfl, by rw [List.length_append, List.length_singleton]; omega, (fun z => by rw [hn2] at z; cases z), G1.step N2 (fun m e => all_err hlt e (by rw [hk])) fun v e => by cases e⟩
          | some t =>
            have hadv := let_adv N2.2.2 hp1
            have hadv1 : p1 < s2.1 := hadv.1
            refine ⟨ts ++ [t], us ++ [qa], s2, _, rfl, Same.mut sH2 nDH, X2.upd nD, by rw [upd_same, List.map_append]; rfl, by rw [List.length_append, List.length_singleton]; omega, fun z => ⟨?_, .inl (by omega)⟩, G1.step N2 (fun m e => all_err hlt e (by rw [hk])) fun w ew e => by cases ew; exact all_ok hlt e (by rw [hk])⟩
            exact paired_snoc (paired_imp (fun _ _ g => LtH.frP (LtH.frP g f2 X1.nt) fr_put nt) hP) (LtH.frP (hv t rfl) fr_put nt)
        · walk_at "go"
          have hge : ¬ p1 < dd.length := by omega
          refine ⟨ts, us, (p1, none), _, rfl, s1, X1, eD, by omega, fun _ => ⟨hP, .inr (by show p1 = _; omega)⟩, ?_⟩
          rcases G1 with ⟨g1, g2, g3⟩ | ⟨n, g1, _⟩
          · refine .inl ⟨g1, g2, g3.trans ?_⟩
            show mapP (ts ++ ·) (pAllL (dd.length + 1 - i) dd p1) = mapP (ts ++ ·) (pAllL (dd.length + 1 - (i + 1)) dd p1)
            rw [hk, all_end hge, show dd.length + 1 - (i + 1) = (dd.length - (i + 1)) + 1 by omega, all_end hge]
          · cases g1
    · obtain ⟨ts, us, ⟨p1, o1⟩, v3, rfl, s1, X1, eD, lu, hP, G1⟩ := q
      have ei : ((dd.length : Nat) : Int).toNat = dd.length := by omega
      rw [ei] at G1 hP
      cases o1 with
      | some n =>
        have hbx : H1 b = some (.lst [.int (p1 : Nat), .int (n : Nat)]) := X1.bx
        have he : pAll dd = .error n := by
          rcases G1 with ⟨g1, _⟩ | ⟨m, g1, g2⟩
          · cases g1
          · cases g1
            rcases g2 with g2 | g2
            · injection g2 with _ z; cases z
            · exact g2.2
        walk_at "go"
        refine e_ixL (SqL.of hbx) rfl ?_
        walk_at "go"
        refine i_d (fun _ => ?_) (fun z => by omega)
        walk_at "go"
        refine e_ixL (SqL.of hbx) rfl ?_
        exact k _ H1 s1 (by rw [he]; exact .int _)
      | none =>
        obtain ⟨hP, hpi⟩ := hP rfl
        have hp1 : p1 ≤ dd.length := X1.le
        have hpi : dd.length ≤ p1 ∨ p1 = dd.length := hpi
        have hbx : H1 b = some (.lst [.int (p1 : Nat), .int (-1)]) := X1.bx
        have he : pAll dd = .ok (ts, p1) := by
          rcases G1 with ⟨g1, g2, g3⟩ | ⟨m, g1, g2⟩
          · exact all_fin (k := 0) (d := dd) (by omega) (g3.trans (by show mapP (ts ++ ·) (pAllL (dd.length + 1 - dd.length) dd p1) = _; rw [show dd.length + 1 - dd.length = 0 + 1 by omega]))
          · cases g1
        walk_at "go"
        refine e_ixL (SqL.of hbx) rfl ?_
        walk_at "go"
        refine i_d (fun z => absurd z (by decide)) (fun _ => ?_)
        walk_at "go"
        exact k _ H1 s1 (by rw [he]; exact .lst (SqL.of eD) (ls_dp hP))
theorem ok_law_changed (T : Txt K mg)  (c_law_draw : Cal P w K mg base 1 "_law_draw" (spDraw K)) {f : Addr} {fd : FuncData} (F : FnP K "_law_changed" s_law_changed f fd) : FnOk P w K mg base CX0 2 f fd ["state", "script", "data"] (sp_law_changed K) := by
  refine F.ok sc_law_changed (fun vs H Q E h => ?_) (fun cdv A outer s H vs Q E hr h => ?_)
  · obtain ⟨_, _, _, rfl, _⟩ := h
    rfl
  · have S := sc_law_changed
    refine ⟨_, PSs.nox (pss_cons (ps_set (i := 3) S.nd rfl (by first | exact .inl rfl | exact .inr rfl) (pe_c c_law_draw hr (by decide) (by rfl) (pa_cons (pv 0) (pa_cons (pv 1) (pa_cons (pe_op op_add (pe_callB call_len_seq (by rfl) T.f_len (by first | rfl | decide +kernel) (pa_cons (pv 2) pa_nil)) pe_int) pa_nil)))))
    (pss_cons (ps_set (i := 4) S.nd rfl (by first | exact .inl rfl | exact .inr rfl) (pe_c c_law_draw hr (by decide) (by rfl) (pa_cons (pv 0) (pa_cons (pv 1) (pa_cons (pe_op op_add (pe_callB call_len_seq (by rfl) T.f_len (by first | rfl | decide +kernel) (pa_cons (pv 2) pa_nil)) pe_int) pa_nil)))))
    (pss_cons (ps_set (i := 5) S.nd rfl (by first | exact .inl rfl | exact .inr rfl) (pe_ix ix_list (pe_lst (pa_cons pe_int (pa_cons pe_int (pa_cons pe_int (pa_cons pe_int (pa_cons pe_int (pa_cons pe_int (pa_cons pe_int (pa_cons pe_int (pa_cons (pe_c c_law_draw hr (by decide) (by rfl) (pa_cons (pv 0) (pa_cons (pv 1) (pa_cons pe_int pa_nil)))) pa_nil)))))))))) (pe_c c_law_draw hr (by decide) (by rfl) (pa_cons (pv 0) (pa_cons (pv 1) (pa_cons pe_int pa_nil)))) (fun _ _ => rfl)))
    (pss_cons (ps_set (i := 6) S.nd rfl (by first | exact .inl rfl | exact .inr rfl) (pe_c c_law_draw hr (by decide) (by rfl) (pa_cons (pv 0) (pa_cons (pv 1) (pa_cons pe_int pa_nil)))))
    (pss_cons (ps_if (pt_cmpR op_eq (pv 6) pe_int (nomark _))
    (pss_one (ps_ret (pe_op op_cat (pe_slice sl_list (pv 2) po_none (po_some (pv 3))) (pe_slice sl_list (pv 2) (po_some (pe_op op_add (pv 3) pe_int)) po_none))))
    pss_nil)
    (pss_cons (ps_if (pt_cmpR op_eq (pv 6) pe_int (nomark _))
    (pss_one (ps_ret (pe_op op_cat (pe_op op_cat (pe_slice sl_list (pv 2) po_none (po_some (pv 3))) (pe_lst (pa_cons (pv 5) pa_nil))) (pe_slice sl_list (pv 2) (po_some (pv 3)) po_none))))
    pss_nil)
    (pss_cons (ps_if (pt_cmpR op_eq (pv 6) pe_int (nomark _))
    (pss_one (ps_ret (pe_op op_cat (pe_op op_cat (pe_slice sl_list (pv 2) po_none (po_some (pv 3))) (pe_slice sl_list (pv 2) (po_some (pv 3)) (po_some (pe_op op_add (pv 3) pe_int)))) (pe_slice sl_list (pv 2) (po_some (pv 3)) po_none))))
    pss_nil)
    (pss_cons (ps_if (pt_cmpR op_eq (pv 6) pe_int (nomark _))
    (pss_one (ps_ret (pe_op op_cat (pe_op op_cat (pe_slice sl_list (pv 2) po_none (po_some (pv 3))) (pe_slice sl_list (pv 2) (po_some (pv 4)) (po_some (pe_op op_add (pv 4) pe_int)))) (pe_slice sl_list (pv 2) (po_some (pe_op op_add (pv 3) pe_int)) po_none))))
    pss_nil)
    (pss_cons (ps_if (pt_cmpR op_eq (pv 6) pe_int (nomark _))
    (pss_one (ps_ret (pe_slice sl_list (pv 2) po_none (po_some (pv 3)))))
    pss_nil)
    (pss_cons (ps_if (pt_cmpR op_lt (pv 3) (pe_callB call_len_seq (by rfl) T.f_len (by first | rfl | decide +kernel) (pa_cons (pv 2) pa_nil)) (nomark _))
    (pss_one (ps_ret (pe_op op_cat (pe_op op_cat (pe_slice sl_list (pv 2) po_none (po_some (pv 3))) (pe_lst (pa_cons (pv 5) pa_nil))) (pe_slice sl_list (pv 2) (po_some (pe_op op_add (pv 3) pe_int)) po_none))))
    pss_nil)
    (pss_one (ps_ret (pv 2))))))))))))), ?_⟩
    try dsimp only [cxOf, Cx.nox]
    obtain ⟨_, _, _, rfl, st, sc, a, ns, w, rfl, rfl, rfl, ha, na, hB, hl, d, k⟩ := h
    have hlw : (((w.map V.int).length : Nat) : Int) = (w.length : Int) := by rw [List.length_map]
    walk_at "go"
    intro p H1 p0 p1 k1 d1
    rw [List.length_map] at p1
    obtain ⟨p, rfl⟩ : ∃ n : Nat, p = n := ⟨p.toNat, by omega⟩
    have ha1 := k1 _ _ na ha
    walk_at "go"
    intro p2 H2 p20 p21 k2 d2
    rw [List.length_map] at p21
    obtain ⟨p2, rfl⟩ : ∃ n : Nat, p2 = n := ⟨p2.toNat, by omega⟩
    walk_at "go"
    intro u H3 u0 u1 k3 d3
    walk_at "go"
    rename_i r hr
    intro u2 H4 u20 u21 k4 d4
    have e4 := k4 r _ (d3.ne hr) upd_same
    refine e_ixM [0, 1, 2, 4, 9, 10, 46, 255, u] (SqL.of e4) u20 u21 fun y hy => ?_
    have hy : 0 ≤ y ∧ y < 256 := by
      simp only [List.mem_cons, List.not_mem_nil, or_false] at hy
      omega
    walk_at "go"
    intro kd H5 kd0 kd1 k5 d5
    have kk : Kp st H H5 := k1.trans ((k2.trans (k3.trans (Kp.new hr))).trans (k4.trans k5))
    have ea := kk _ _ na ha
    have hS := SqL.of (K := K) ea
    have fin : ∀ (q : Addr) (w' : List Int) (H' : Hp), Same H5 H' → H5 q = none → LstI H' q w' → isB w' → w'.length ≤ w.length + 3 → Q (.ref q) H' := fun q w' H' s n e b l => k q w' H' (kk.trans (Kp.of s)) (d5.same s) e (d5.ne n) b l
    clear k1 d1 k2 d2 e4 k3 d3 k4 d4 k5 ha ha1
    have e1 : (p : Int) + 1 = ((p + 1 : Nat) : Int) := by omega
    have e3 : (p : Int) + 3 = ((p + 3 : Nat) : Int) := by omega
    walk_at "go"
    refine i_d (fun h => ?_) (fun h => ?_)
    · walk_at "go"
      refine e_slL hS fun b hb => ?_
      rw [cut_to]
      have s1 := same_new (o := .lst ((w.take p).map V.int)) hb
      walk_at "go"
      refine e_slL (SqL.of (s1 _ _ ea)) fun c hc => ?_
      rw [e1, cut_from]
      have s2 := same_new (o := .lst ((w.drop (p + 1)).map V.int)) hc
      refine e_catJ (xs := w.take p) (s2 _ _ upd_same) upd_same (by rw [List.length_take, List.length_drop]; omega) fun r5 H6 hr5 s5 e5 => ?_
      exact fin r5 _ H6 ((s1.trans s2).trans s5) ((s1.trans s2).free hr5) e5 (isB_app (isB_take hB _) (isB_drop hB _)) (by rw [List.length_append, List.length_take, List.length_drop]; omega)
    walk_at "go"
    refine i_d (fun h => ?_) (fun h => ?_)
    · walk_at "go"
      refine e_slL hS fun b hb => ?_
      rw [cut_to]
      have s1 := same_new (o := .lst ((w.take p).map V.int)) hb
      walk_at "go"
      rename_i c hc
      have s2 := same_new (o := .lst [.int y]) hc
      refine e_catJ (xs := w.take p) (ys := [y]) (s2 _ _ upd_same) upd_same (by rw [List.length_take]; show _ + 1 ≤ _; omega) fun r5 H6 hr5 s5 e5 => ?_
      walk_at "go"
      refine e_slL (SqL.of (s5 _ _ (s2 _ _ (s1 _ _ ea)))) fun c2 hc2 => ?_
      rw [cut_from]
      have s6 := same_new (o := .lst ((w.drop p).map V.int)) hc2
      refine e_catJ (s6 _ _ e5) (ys := w.drop p) upd_same (by simp only [List.length_append, List.length_take, List.length_drop, List.length_cons, List.length_nil]; omega) fun r7 H7 hr7 s7 e7 => ?_
      have s17 := ((s1.trans s2).trans (s5.trans s6))
      exact fin r7 _ H7 (s17.trans s7) (s17.free hr7) e7 (isB_app (isB_app (isB_take hB _) (isB_one hy)) (isB_drop hB _)) (by simp only [List.length_append, List.length_take, List.length_drop, List.length_cons, List.length_nil]; omega)
    walk_at "go"
    refine i_d (fun h => ?_) (fun h => ?_)
    · walk_at "go"
      refine e_slL hS fun b hb => ?_
      rw [cut_to]
      have s1 := same_new (o := .lst ((w.take p).map V.int)) hb
      walk_at "go"
      refine e_slL (SqL.of (s1 _ _ ea)) fun c hc => ?_
      rw [show (p : Int) + 1 = (p : Int) + ((1 : Nat) : Int) by omega, cut_mid]
      have s2 := same_new (o := .lst (((w.drop p).take 1).map V.int)) hc
      refine e_catJ (xs := w.take p) (ys := (w.drop p).take 1) (s2 _ _ upd_same) upd_same (by rw [List.length_take, List.length_take]; omega) fun r5 H6 hr5 s5 e5 => ?_
      walk_at "go"
      refine e_slL (SqL.of (s5 _ _ (s2 _ _ (s1 _ _ ea)))) fun c2 hc2 => ?_
      rw [cut_from]
      have s6 := same_new (o := .lst ((w.drop p).map V.int)) hc2
      refine e_catJ (s6 _ _ e5) (ys := w.drop p) upd_same (by simp only [List.length_append, List.length_take, List.length_drop]; omega) fun r7 H7 hr7 s7 e7 => ?_
      have s17 := ((s1.trans s2).trans (s5.trans s6))
      exact fin r7 _ H7 (s17.trans s7) (s17.free hr7) e7 (isB_app (isB_app (isB_take hB _) (isB_take (isB_drop hB _) _)) (isB_drop hB _)) (by simp only [List.length_append, List.length_take, List.length_drop]; omega)
    walk_at "go"
    refine i_d (fun h => ?_) (fun h => ?_)
    · walk_at "go"
      refine e_slL hS fun b hb => ?_
      rw [cut_to]
      have s1 := same_new (o := .lst ((w.take p).map V.int)) hb
      walk_at "go"
      refine e_slL (SqL.of (s1 _ _ ea)) fun c hc => ?_
      rw [show (p2 : Int) + 3 = (p2 : Int) + ((3 : Nat) : Int) by omega, cut_mid]
      have s2 := same_new (o := .lst (((w.drop p2).take 3).map V.int)) hc
      refine e_catJ (xs := w.take p) (ys := (w.drop p2).take 3) (s2 _ _ upd_same) upd_same (by rw [List.length_take, List.length_take]; omega) fun r5 H6 hr5 s5 e5 => ?_
      walk_at "go"
      refine e_slL (SqL.of (s5 _ _ (s2 _ _ (s1 _ _ ea)))) fun c2 hc2 => ?_
      rw [e3, cut_from]
      have s6 := same_new (o := .lst ((w.drop (p + 3)).map V.int)) hc2
      refine e_catJ (s6 _ _ e5) (ys := w.drop (p + 3)) upd_same (by simp only [List.length_append, List.length_take, List.length_drop]; omega) fun r7 H7 hr7 s7 e7 => ?_
      have s17 := ((s1.trans s2).trans (s5.trans s6))
      exact fin r7 _ H7 (s17.trans s7) (s17.free hr7) e7 (isB_app (isB_app (isB_take hB _) (isB_take (isB_drop hB _) _)) (isB_drop hB _)) (by simp only [List.length_append, List.length_take, List.length_drop]; omega)
    walk_at "go"
    refine i_d (fun h => ?_) (fun h => ?_)
    · walk_at "go"
      refine e_slL hS fun b hb => ?_
      rw [cut_to]
      exact fin b (w.take p) _ (same_new hb) hb upd_same (isB_take hB _) (by rw [List.length_take]; omega)
    walk_at "go"
    rw [List.length_map]
    refine i_d (fun h2 => ?_) (fun h2 => ?_)
    · walk_at "go"
      refine e_slL hS fun b hb => ?_
      rw [cut_to]
      have s1 := same_new (o := .lst ((w.take p).map V.int)) hb
      walk_at "go"
      rename_i c hc
      have s2 := same_new (o := .lst [.int y]) hc
      refine e_catJ (xs := w.take p) (ys := [y]) (s2 _ _ upd_same) upd_same (by rw [List.length_take]; show _ + 1 ≤ _; omega) fun r5 H6 hr5 s5 e5 => ?_
      walk_at "go"
      refine e_slL (SqL.of (s5 _ _ (s2 _ _ (s1 _ _ ea)))) fun c2 hc2 => ?_
      rw [e1, cut_from]
      have s6 := same_new (o := .lst ((w.drop (p + 1)).map V.int)) hc2
      refine e_catJ (s6 _ _ e5) (ys := w.drop (p + 1)) upd_same (by simp only [List.length_append, List.length_take, List.length_drop, List.length_cons, List.length_nil]; omega) fun r7 H7 hr7 s7 e7 => ?_
      have s17 := ((s1.trans s2).trans (s5.trans s6))
      exact fin r7 _ H7 (s17.trans s7) (s17.free hr7) e7 (isB_app (isB_app (isB_take hB _) (isB_one hy)) (isB_drop hB _)) (by simp only [List.length_append, List.length_take, List.length_drop, List.length_cons, List.length_nil]; omega)
    · walk_at "go"
      exact k a w H5 kk d5 ea na hB (by omega)
theorem ok_law (T : Txt K mg)  (c_law_draw : Cal P w K mg base 1 "_law_draw" (spDraw K)) (c_law_letter_written : Cal P w K mg base 4 "_law_letter_written" (sp_law_letter_written K)) (c_law_letter : Cal P w K mg base 5 "_law_letter" (sp_law_letter K)) (c_law_changed : Cal P w K mg base 2 "_law_changed" (sp_law_changed K)) (c_law_row : Cal P w K mg base 2 "_law_row" (sp_law_row K)) (c_law_due : Cal P w K mg base 6 "_law_due" (sp_law_due K)) (c_law_decoded : Cal P w K mg base 10 "_law_decoded" (sp_law_decoded K)) (c_encode : Cal P w K mg base 5 "encode" (sp_encode K)) (c_decode : CalX P w K mg base 9 "decode" (sp_decode K)) (c_law_all_due : Cal P w K mg base 6 "_law_all_due" (sp_law_all_due K)) (c_law_all_decoded : Cal P w K mg base 10 "_law_all_decoded" (sp_law_all_decoded K)) {f : Addr} {fd : FuncData} (F : FnP K "law" s_law f fd) : FnOk P w K mg base CX0 11 f fd ["script"] (sp_law K) := by
  refine F.ok sc_law (fun vs H Q E h => ?_) (fun cdv A outer s H vs Q E hr h => ?_)
  · obtain ⟨_, rfl, _⟩ := h
    rfl
  · have S := sc_law
    refine ⟨_, PSs.nox (pss_cons (ps_set (i := 1) S.nd rfl (by first | exact .inl rfl | exact .inr rfl) (pe_lst (pa_cons pe_int (pa_cons pe_int pa_nil))))
    (pss_cons (ps_set (i := 2) S.nd rfl (by first | exact .inl rfl | exact .inr rfl) (pe_lst pa_nil))
    (pss_cons (ps_for PassesOwn.never rfl (pi_range1 (by rfl) T.f_range (pa_cons (pe_c c_law_draw hr (by decide) (by rfl) (pa_cons (pv 1) (pa_cons (pv 0) (pa_cons pe_int pa_nil)))) pa_nil)) (pg_name (i := 3) S.nd rfl (by first | exact .inl rfl | exact .inr rfl))
    (pss_one (ps_set (i := 2) S.nd rfl (by first | exact .inl rfl | exact .inr rfl) (pe_op op_cat (pv 2) (pe_c c_law_letter_written hr (by decide) (by rfl) (pa_cons (pe_c c_law_letter hr (by decide) (by rfl) (pa_cons (pv 1) (pa_cons (pv 0) pa_nil))) pa_nil))))))
    (pss_cons (ps_for PassesOwn.never rfl (pi_range1 (by rfl) T.f_range (pa_cons (pe_c c_law_draw hr (by decide) (by rfl) (pa_cons (pv 1) (pa_cons (pv 0) (pa_cons pe_int pa_nil)))) pa_nil)) (pg_name (i := 4) S.nd rfl (by first | exact .inl rfl | exact .inr rfl))
    (pss_one (ps_set (i := 2) S.nd rfl (by first | exact .inl rfl | exact .inr rfl) (pe_c c_law_changed hr (by decide) (by rfl) (pa_cons (pv 1) (pa_cons (pv 0) (pa_cons (pv 2) pa_nil)))))))
    (C8.pss_cut (ps_if (pt_cmpR op_eq (pe_c c_law_draw hr (by decide) (by rfl) (pa_cons (pv 1) (pa_cons (pv 0) (pa_cons pe_int pa_nil)))) pe_int (nomark _))
    (pss_one (ps_set (i := 2) S.nd rfl (by first | exact .inl rfl | exact .inr rfl) (pe_op op_cat (pe_lst (pa_cons (pe_op op_add pe_int (pe_c c_law_draw hr (by decide) (by rfl) (pa_cons (pv 1) (pa_cons (pv 0) (pa_cons pe_int pa_nil))))) pa_nil)) (pe_c c_law_row hr (by decide) (by rfl) (pa_cons (pv 1) (pa_cons (pv 0) (pa_cons (pe_c c_law_draw hr (by decide) (by rfl) (pa_cons (pv 1) (pa_cons (pv 0) (pa_cons pe_int pa_nil)))) pa_nil)))))))
    pss_nil)
    (pss_cons (ps_set (i := 5) S.nd rfl (by first | exact .inl rfl | exact .inr rfl) (pe_callTy call_list_of (by rfl) T.f_list (by first | rfl | decide +kernel) (pa_cons (pv 2) pa_nil)))
    (pss_cons (ps_set (i := 6) S.nd rfl (by first | exact .inl rfl | exact .inr rfl) (pe_c c_law_due hr (by decide) (by rfl) (pa_cons (pv 2) pa_nil)))
    (pss_cons (ps_set (i := 7) S.nd rfl (by first | exact .inl rfl | exact .inr rfl) (pe_c c_law_decoded hr (by decide) (by rfl) (pa_cons (pv 5) pa_nil)))
    (C8.pss_cut (ps_if (pw_or (pt_val (pe_callB call_isi (by rfl) T.f_isinstance (by first | rfl | decide +kernel) (pa_cons (pv 7) (pa_cons (pe_bltn (v := .ty "bool") (by rfl) T.f_bool (by first | rfl | decide +kernel) rfl) pa_nil)))) (pw_or (pt_cmpR (op_neP hr.units) (pv 7) (pv 6) (nomark _)) (pw_or1 (pt_cmpR (op_neP hr.units) (pv 5) (pv 2) (nomark _))))).pt
    (pss_one (ps_ret pe_bl))
    pss_nil)
    (C8.pss_cut (ps_if (pw_and (pt_not (pt_val (pe_callB call_isi (by rfl) T.f_isinstance (by first | rfl | decide +kernel) (pa_cons (pv 6) (pa_cons (pe_bltn (v := .ty "int") (by rfl) T.f_int (by first | rfl | decide +kernel) rfl) pa_nil))))) (pw_and1 (pt_cmpR (op_neP hr.units) (pe_c c_encode hr (by decide) (by rfl) (pa_cons (pe_cA c_decode hr (by decide) (by rfl) (pa_cons (pv 5) pa_nil)) pa_nil)) (pv 2) (nomark _)))).pt
    (pss_one (ps_ret pe_bl))
    pss_nil)
    (pss_cons (ps_set (i := 8) S.nd rfl (by first | exact .inl rfl | exact .inr rfl) (pe_c c_law_all_due hr (by decide) (by rfl) (pa_cons (pv 2) pa_nil)))
    (pss_cons (ps_set (i := 9) S.nd rfl (by first | exact .inl rfl | exact .inr rfl) (pe_c c_law_all_decoded hr (by decide) (by rfl) (pa_cons (pv 5) pa_nil)))
    (C8.pss_cut (ps_if (pw_or (pt_val (pe_callB call_isi (by rfl) T.f_isinstance (by first | rfl | decide +kernel) (pa_cons (pv 9) (pa_cons (pe_bltn (v := .ty "bool") (by rfl) T.f_bool (by first | rfl | decide +kernel) rfl) pa_nil)))) (pw_or (pt_cmpR (op_neP hr.units) (pv 9) (pv 8) (nomark _)) (pw_or1 (pt_cmpR (op_neP hr.units) (pv 5) (pv 2) (nomark _))))).pt
    (pss_one (ps_ret pe_bl))
    pss_nil)
    (pss_one (ps_ret (pe_cmpR (op_eqP hr.units) (pe_c c_law_decoded hr (by decide) (by rfl) (pa_cons (pv 5) pa_nil)) (pv 6) (nomark _))))))))))))))))), ?_⟩
    try dsimp only [cxOf, Cx.nox]
    obtain ⟨_, rfl, sc, ns, rfl, hL, hn, k⟩ := h
    walk_at "go"
    rename_i st hst r0 hr0
    have d0 := Dr.start hL hst hn
    generalize upd H st (.lst [.int 0, .int 0]) = H0 at d0 hr0 ⊢
    have s1 := same_new (o := .lst []) hr0
    have d1 := d0.same s1
    have n1 := d0.ne hr0
    have e1 : LstI (upd H0 r0 (.lst [])) r0 [] := upd_same
    generalize upd H0 r0 (.lst []) = H1 at s1 d1 e1 ⊢
    walk_at "go"
    intro m H2 m0 m1 k2 d2
    have e2 := k2 _ _ n1 e1
    walk_at "go"
    refine for_rng (fun i σ H3 => ∃ (r : Addr) (ys : List Int) (v3 : Option V), σ = [some (.ref sc), some (.ref st), some (.ref r), v3, none, none, none, none, none, none] ∧ Dr K st sc ns H3 ∧ LstI H3 r ys ∧ r ≠ st ∧ isB ys ∧ ys.length ≤ 40000 * i) ⟨r0, [], none, rfl, d2, e2, n1, (fun b h => by cases h), Nat.le_refl _⟩ (fun i σ H3 hi q => ?_) (fun σ H3 q => ?_)
    · obtain ⟨r, ys, v3, rfl, d3, e3, n3, hB3, l3⟩ := q
      have hi3 : i ≤ 2 := by omega
      walk_at "go"
      refine ⟨_, _, rfl, st, sc, ns, rfl, rfl, d3, fun q t H4 k4 d4 hO hlt hT => ?_⟩
      have e4 := k4 _ _ n3 e3
      walk_at "go"
      refine ⟨_, rfl, q, t, rfl, hT, hO, by omega, fun p5 H5 hp5 s5 e5 => ?_⟩
      refine e_catJ (s5 _ _ e4) e5 (by omega) fun r6 H6 hr6 s6 e6 => ?_
      exact ⟨r6, _, _, rfl, (d4.same s5).same s6, e6, (d4.same s5).ne hr6, isB_app hB3 (isB_lt hO), by rw [List.length_append]; omega⟩
    obtain ⟨r, ys, v3, rfl, d3, e3, n3, hB3, l3⟩ := q
    have l3 : ys.length ≤ 120000 := by omega
    clear e1 d1 e2 d2 k2 n1 s1 d0
    walk_at "go"
    intro m2 H4 m20 m21 k4 d4
    have e4 := k4 _ _ n3 e3
    walk_at "go"
    refine for_rng (fun i σ H5 => ∃ (r : Addr) (ys : List Int) (v4 : Option V), σ = [some (.ref sc), some (.ref st), some (.ref r), v3, v4, none, none, none, none, none] ∧ Dr K st sc ns H5 ∧ LstI H5 r ys ∧ r ≠ st ∧ isB ys ∧ ys.length ≤ 120000 + 3 * i) ⟨r, ys, none, rfl, d4, e4, n3, hB3, by omega⟩ (fun i σ H5 hi q => ?_) (fun σ H5 q => ?_)
    · obtain ⟨r, ys, v4, rfl, d5, e5, n5, hB5, l5⟩ := q
      have hi3 : i ≤ 4 := by omega
      walk_at "go"
      refine ⟨_, _, _, rfl, st, sc, r, ns, ys, rfl, rfl, rfl, e5, n5, hB5, by omega, d5, fun q w H6 k6 d6 e6 n6 hB6 l6 => ?_⟩
      walk_at "go"
      exact ⟨q, w, _, rfl, d6, e6, n6, hB6, by omega⟩
    clear e4 d4 k4 e3 d3 hB3 n3 l3
    obtain ⟨r, ys, v4, rfl, d5, e5, n5, hB5, l5⟩ := q
    have l5 : ys.length ≤ 130000 := by omega
    refine e_cut (Mid := fun σ' H' => ∃ (r : Addr) (dd : List Int), σ' = [some (.ref sc), some (.ref st), some (.ref r), v3, v4, none, none, none, none, none] ∧ LstI H' r dd ∧ isB dd ∧ dd.length ≤ 130000) ?_ fun σ' H6 q => ?_
    · walk_at "go"
      intro x H6 x0 x1 k6 d6
      have e6 := k6 _ _ n5 e5
      walk_at "go"
      refine i_d (fun h => ?_) (fun h => ?_)
      · walk_at "go"
        intro y H7 y0 y1 k7 d7
        walk_at "go"
        rename_i r8 hr8
        have s8 := same_new (o := .lst [.int (1 + y)]) hr8
        have d8 := d7.same s8
        have n8 := d7.ne hr8
        intro u H9 u0 u1 k9 d9
        obtain ⟨u, rfl⟩ : ∃ n : Nat, u = n := ⟨u.toNat, by omega⟩
        have e9 := k9 _ _ n8 upd_same
        walk_at "go"
        refine ⟨_, _, _, rfl, st, sc, ns, u, rfl, rfl, rfl, by omega, d9, fun qa xs HA na ea hb hl kA dA => ?_⟩
        refine e_catI (xs := [1 + y]) (kA _ _ n8 e9) ea (by show 1 + _ ≤ _; omega) fun rB HB hrB sB eB => ?_
        exact ⟨rB, _, rfl, eB, isB_cons (by omega) hb, by show xs.length + 1 ≤ _; omega⟩
      · walk_at "go"
        exact ⟨r, ys, rfl, e6, hB5, l5⟩
    clear d5 e5 hB5 l5 n5
    obtain ⟨r, dd, rfl, e6, hB, hl⟩ := q
    walk_at "go"
    intro g hg
    have s7 := same_new (o := .lst (dd.map V.int)) hg
    have e7 := s7 _ _ e6
    have g7 : LstI (upd H6 g (.lst (dd.map V.int))) g dd := upd_same
    generalize upd H6 g (.lst (dd.map V.int)) = H7 at s7 e7 g7 ⊢
    walk_at "go"
    refine ⟨_, rfl, r, dd, rfl, e7, hB, fun v H8 s8 hv => ?_⟩
    have g8 := s8 _ _ g7
    walk_at "go"
    refine ⟨_, rfl, g, dd, rfl, g8, fun w H9 s9 hw => ?_⟩
    have e9 := s9 _ _ (s8 _ _ e7)
    have g9 := s9 _ _ g8
    have hv9 := dp_same s9 hv
    have pd := dcD_pl (pDec dd)
    refine e_cut (Mid := fun σ' H' => σ' = [some (.ref sc), some (.ref st), some (.ref r), v3, v4, some (.ref g), some v, some w, none, none] ∧ H' = H9) ?_ fun σ' H' q => ?_
    · walk_at "go"
      refine isi_dc hw ?_
      walk_at "go"
      refine e_neD hw hv9 pd.1 (Nat.le_trans pd.2 (by decide)) ?_
      walk_at "go"
      refine e_nePL (SqL.of g9) (SqL.of e9) ?_
      rw [decide_eq_true rfl]
      walk_at "go"
      exact ⟨rfl, rfl⟩
    obtain ⟨rfl, rfl⟩ := q
    refine e_cut (Mid := fun σ' H2 => σ' = [some (.ref sc), some (.ref st), some (.ref r), v3, v4, some (.ref g), some v, some w, none, none] ∧ Same H' H2) ?_ fun σ' HA q => ?_
    · cases ed : pDec dd with
      | error n =>
        rw [ed] at hv9
        have hv9 : Dp K H' v (.int (n : Nat)) := hv9
        cases hv9
        walk_at "go"
        exact ⟨rfl, Same.refl _⟩
      | ok t =>
        rw [ed] at hv9
        have hv9 : Dp K H' v (ltD t) := hv9
        obtain ⟨ds, et⟩ := ltD_tup t
        rw [et] at hv9
        obtain ⟨eB, hO⟩ := dec_of hB ed
        cases hv9 with
        | tup ht _ =>
          walk_at "go"
          refine isi_tI ht ?_
          walk_at "go"
          refine ⟨_, rfl, g, dd, rfl, g9, fun t2 et2 q H1 s1 hLt => ?_, fun n en => by rw [ed] at en; cases en⟩
          rw [ed] at et2
          cases et2
          walk_at "go"
          refine ⟨_, rfl, q, t, rfl, hLt, hO, by rw [← eB]; omega, fun p H2 hp s2 e2 => ?_⟩
          rw [← eB] at e2
          walk_at "go"
          refine e_nePL (SqL.of e2) (SqL.of (s2 _ _ (s1 _ _ e9))) ?_
          rw [decide_eq_true rfl]
          walk_at "go"
          exact ⟨rfl, s1.trans s2⟩
    obtain ⟨rfl, sA⟩ := q
    have eA := sA _ _ e9
    have gA := sA _ _ g9
    have hvA := dp_same sA hv9
    walk_at "go"
    refine ⟨_, rfl, r, dd, rfl, eA, hB, by omega, fun v8 HB sB hv8 => ?_⟩
    walk_at "go"
    refine ⟨_, rfl, g, dd, rfl, sB _ _ gA, by omega, fun v9 HC sC hv9' => ?_⟩
    have pd2 := daD_pl (pAll dd)
    have eC := sC _ _ (sB _ _ eA)
    have gC := sC _ _ (sB _ _ gA)
    refine e_cut (Mid := fun σ' H2 => σ' = [some (.ref sc), some (.ref st), some (.ref r), v3, v4, some (.ref g), some v, some w, some v8, some v9] ∧ H2 = HC) ?_ fun σ' H2 q => ?_
    · walk_at "go"
      refine isi_ad hv9' ?_
      walk_at "go"
      refine e_neD (AdR.dp hv9') (dp_same sC hv8) pd2.1 (Nat.le_trans pd2.2 (by decide)) ?_
      walk_at "go"
      refine e_nePL (SqL.of gC) (SqL.of eC) ?_
      rw [decide_eq_true rfl]
      walk_at "go"
      exact ⟨rfl, rfl⟩
    obtain ⟨rfl, rfl⟩ := q
    walk_at "go"
    refine ⟨_, rfl, g, dd, rfl, gC, fun v10 HD sD hv10 => ?_⟩
    walk_at "go"
    refine e_eqPV hv10 (dp_same sD (dp_same sC (dp_same sB hvA))) pd.1 pd.1 (Nat.le_trans pd.2 (by decide)) (b := true) (eqv_self _ pd.1) ?_
    exact k _
end
theorem facts {P : Program} {w : World} {K : PySem.W.Frag} {h : Heap} {mg : Str → Option Value} {f : Addr} (X : K.In h) (G : h.Ns mainGlobals mg) (hfa : mg ("law" : Str) = some (.ref f)) (cc : SaysX fa fn ex K) :
    ∃ fd : FuncData, (∀ (s : Shared) (v : Value), BindsTo s fd ⟨[v], []⟩ [("script", v)]) ∧ ∀ base : Heap, K.In base → base.Ns mainGlobals mg → FnOk P w K mg base CX0 11 f fd ["script"] (sp_law K) := by
  have c : He.SaysD fa fn K := cc.1
  have k_BLOCK : ∃ u, mg "BLOCK" = some u ∧ RelV (.int 4) u := by
    obtain ⟨t, e⟩ := He.int_ok X G (c.fact 58 (f := .int "BLOCK" 4) rfl)
    exact ⟨_, e, t, rfl⟩
  have k_CHARACTERS : ∃ u, mg "CHARACTERS" = some u ∧ RelV (.str "-./0123456789ABCDEFGHIJKLMNOPQRSTUVWXYZ_abcdefghijklmnopqrstuvwxyz~") u := by
    obtain ⟨t, e⟩ := He.str_ok X G (c.fact 59 (f := .str "CHARACTERS" "-./0123456789ABCDEFGHIJKLMNOPQRSTUVWXYZ_abcdefghijklmnopqrstuvwxyz~") rfl)
    exact ⟨_, e, t, rfl⟩
  have k_MOST_NAME : ∃ u, mg "MOST_NAME" = some u ∧ RelV (.int 40) u := by
    obtain ⟨t, e⟩ := He.int_ok X G (c.fact 60 (f := .int "MOST_NAME" 40) rfl)
    exact ⟨_, e, t, rfl⟩
  have k__ASK : ∃ u, mg "_ASK" = some u ∧ RelV (.int 2) u := by
    obtain ⟨t, e⟩ := He.int_ok X G (c.fact 61 (f := .int "_ASK" 2) rfl)
    exact ⟨_, e, t, rfl⟩
  have k__BLOCK : ∃ u, mg "_BLOCK" = some u ∧ RelV (.int 5) u := by
    obtain ⟨t, e⟩ := He.int_ok X G (c.fact 62 (f := .int "_BLOCK" 5) rfl)
    exact ⟨_, e, t, rfl⟩
  have k__ENTRIES : ∃ u, mg "_ENTRIES" = some u ∧ RelV (.int 3) u := by
    obtain ⟨t, e⟩ := He.int_ok X G (c.fact 63 (f := .int "_ENTRIES" 3) rfl)
    exact ⟨_, e, t, rfl⟩
  have k__HELLO : ∃ u, mg "_HELLO" = some u ∧ RelV (.int 1) u := by
    obtain ⟨t, e⟩ := He.int_ok X G (c.fact 64 (f := .int "_HELLO" 1) rfl)
    exact ⟨_, e, t, rfl⟩
  have k__MOST_BLOCKS : ∃ u, mg "_MOST_BLOCKS" = some u ∧ RelV (.int 255) u := by
    obtain ⟨t, e⟩ := He.int_ok X G (c.fact 65 (f := .int "_MOST_BLOCKS" 255) rfl)
    exact ⟨_, e, t, rfl⟩
  have k__MOST_DEVICE : ∃ u, mg "_MOST_DEVICE" = some u ∧ RelV (.int 9) u := by
    obtain ⟨t, e⟩ := He.int_ok X G (c.fact 66 (f := .int "_MOST_DEVICE" 9) rfl)
    exact ⟨_, e, t, rfl⟩
  have k__MOST_INDEX : ∃ u, mg "_MOST_INDEX" = some u ∧ RelV (.int 254) u := by
    obtain ⟨t, e⟩ := He.int_ok X G (c.fact 67 (f := .int "_MOST_INDEX" 254) rfl)
    exact ⟨_, e, t, rfl⟩
  have k__NUMBER_BYTES : ∃ u, mg "_NUMBER_BYTES" = some u ∧ RelV (.int 4) u := by
    obtain ⟨t, e⟩ := He.int_ok X G (c.fact 68 (f := .int "_NUMBER_BYTES" 4) rfl)
    exact ⟨_, e, t, rfl⟩
  have k__REFUSED : ∃ u, mg "_REFUSED" = some u ∧ RelV (.int 6) u := by
    obtain ⟨t, e⟩ := He.int_ok X G (c.fact 69 (f := .int "_REFUSED" 6) rfl)
    exact ⟨_, e, t, rfl⟩
  have k__REQUEST : ∃ u, mg "_REQUEST" = some u ∧ RelV (.int 4) u := by
    obtain ⟨t, e⟩ := He.int_ok X G (c.fact 70 (f := .int "_REQUEST" 4) rfl)
    exact ⟨_, e, t, rfl⟩
  obtain ⟨fi_InvalidBytes, Fi_InvalidBytes⟩ := c.def_ 57 (d := d_init_FolderkinError) rfl
  have er_InvalidBytes : ErrAll K mg "InvalidBytes" "FolderkinError" := errAll_ok X G (c.fact 45 (f := .glo "InvalidBytes") rfl) (c.fact 46 (f := .glo "FolderkinError") rfl) (cc.more 0 rfl) (by exact Fi_InvalidBytes)
  have T : Txt K mg := ⟨He.free_ok X G (c.fact 49 (f := .free "bool") rfl), He.free_ok X G (c.fact 50 (f := .free "int") rfl), He.free_ok X G (c.fact 51 (f := .free "isinstance") rfl), He.free_ok X G (c.fact 52 (f := .free "len") rfl), He.free_ok X G (c.fact 53 (f := .free "list") rfl), He.free_ok X G (c.fact 54 (f := .free "ord") rfl), He.free_ok X G (c.fact 55 (f := .free "range") rfl), He.free_ok X G (c.fact 56 (f := .free "reversed") rfl), He.free_ok X G (c.fact 57 (f := .free "tuple") rfl), k_BLOCK, k_CHARACTERS, k_MOST_NAME, k__ASK, k__BLOCK, k__ENTRIES, k__HELLO, k__MOST_BLOCKS, k__MOST_DEVICE, k__MOST_INDEX, k__NUMBER_BYTES, k__REFUSED, k__REQUEST, er_InvalidBytes, He.cls_ok (c.fact 81 (f := .cls "Entry") rfl), He.glo_ok X G (c.fact 47 (f := .glo "Entry") rfl), He.noat_ok (c.fact 82 (f := .noat "Entry" "name") rfl), He.noat_ok (c.fact 83 (f := .noat "Entry" "vector") rfl), He.noat_ok (c.fact 84 (f := .noat "Entry" "height") rfl), He.noat_ok (c.fact 85 (f := .noat "Entry" "maker") rfl), He.noat_ok (c.fact 86 (f := .noat "Entry" "deleted") rfl), He.noat_ok (c.fact 87 (f := .noat "Entry" "time") rfl), He.noat_ok (c.fact 88 (f := .noat "Entry" "blocks") rfl), clsB_ok (cc.more 1 rfl), clsLB_ok (cc.more 2 rfl), He.cls_ok (c.fact 90 (f := .cls "Reader") rfl), He.glo_ok X G (c.fact 48 (f := .glo "Reader") rfl), He.noat_ok (c.fact 91 (f := .noat "Reader" "_data") rfl), He.noat_ok (c.fact 92 (f := .noat "Reader" "at") rfl)⟩
  obtain ⟨fd_block_number, F_block_number⟩ := c.def_ 0 (d := d_block_number) rfl
  have c_block_number : ∀ base : Heap, Cal P w K mg base 1 "block_number" (sp_block_number K) := fun base => ⟨_, _, ["data"], ok_block_number T  F_block_number, He.glo_ok X G (c.fact 0 (f := .glo "block_number") rfl), F_block_number.kp, FunD.bindsN F_block_number fun _ _ _ _ _ _ us hl => match us, hl with | [_], _ => rfl⟩
  obtain ⟨fd_block_size, F_block_size⟩ := c.def_ 1 (d := d_block_size) rfl
  have c_block_size : ∀ base : Heap, Cal P w K mg base 1 "block_size" (sp_block_size K) := fun base => ⟨_, _, ["number"], ok_block_size T  F_block_size, He.glo_ok X G (c.fact 1 (f := .glo "block_size") rfl), F_block_size.kp, FunD.bindsN F_block_size fun _ _ _ _ _ _ us hl => match us, hl with | [_], _ => rfl⟩
  obtain ⟨fd_Entry___init__, F_Entry___init__⟩ := c.def_ 3 (d := d_Entry___init__) rfl
  have M_Entry := He.mkr_ok (c.fact 89 (f := .mkr "Entry") rfl)
  have c_Entry : ∀ base : Heap, C8.Mak P w K mg base 1 "Entry" (He.ga K "Entry") (sp_Entry___init__ K) [] := fun base => ⟨_, _, _, [], M_Entry, ok_Entry___init__ T  F_Entry___init__, He.glo_ok X G (c.fact 47 (f := .glo "Entry") rfl), FunD.bindsN F_Entry___init__ fun _ _ _ _ _ _ us hl => match us, hl with | [_, _, _, _, _, _, _, _], _ => rfl, .nil⟩
  obtain ⟨fd_character_of, F_character_of⟩ := c.def_ 4 (d := d_character_of) rfl
  have c_character_of : ∀ base : Heap, Cal P w K mg base 1 "character_of" (sp_character_of K) := fun base => ⟨_, _, ["code"], ok_character_of T  F_character_of, He.glo_ok X G (c.fact 3 (f := .glo "character_of") rfl), F_character_of.kp, FunD.bindsN F_character_of fun _ _ _ _ _ _ us hl => match us, hl with | [_], _ => rfl⟩
  obtain ⟨fd_number_bytes, F_number_bytes⟩ := c.def_ 5 (d := d_number_bytes) rfl
  have c_number_bytes : ∀ base : Heap, Cal P w K mg base 1 "number_bytes" (sp_number_bytes K) := fun base => ⟨_, _, ["number"], ok_number_bytes T  F_number_bytes, He.glo_ok X G (c.fact 4 (f := .glo "number_bytes") rfl), F_number_bytes.kp, FunD.bindsN F_number_bytes fun _ _ _ _ _ _ us hl => match us, hl with | [_], _ => rfl⟩
  obtain ⟨fd_name_bytes, F_name_bytes⟩ := c.def_ 6 (d := d_name_bytes) rfl
  have c_name_bytes : ∀ base : Heap, Cal P w K mg base 1 "name_bytes" (sp_name_bytes K) := fun base => ⟨_, _, ["name"], ok_name_bytes T  F_name_bytes, He.glo_ok X G (c.fact 5 (f := .glo "name_bytes") rfl), F_name_bytes.kp, FunD.bindsN F_name_bytes fun _ _ _ _ _ _ us hl => match us, hl with | [_], _ => rfl⟩
  obtain ⟨fd_row_bytes, F_row_bytes⟩ := c.def_ 7 (d := d_row_bytes) rfl
  have c_row_bytes : ∀ base : Heap, Cal P w K mg base 1 "row_bytes" (sp_row_bytes K) := fun base => ⟨_, _, ["row"], ok_row_bytes T  F_row_bytes, He.glo_ok X G (c.fact 6 (f := .glo "row_bytes") rfl), F_row_bytes.kp, FunD.bindsN F_row_bytes fun _ _ _ _ _ _ us hl => match us, hl with | [_], _ => rfl⟩
  obtain ⟨fd_Reader___init__, F_Reader___init__⟩ := c.def_ 10 (d := d_Reader___init__) rfl
  have M_Reader := He.mkr_ok (c.fact 93 (f := .mkr "Reader") rfl)
  have c_Reader : ∀ base : Heap, C8.Mak P w K mg base 1 "Reader" (He.ga K "Reader") (sp_Reader___init__ K) [] := fun base => by
    obtain ⟨ds, hv, hb⟩ := FunD.binds1 (ps := ["self", "data", "at"]) F_Reader___init__ 3 1 (fun e => nomatch e) rfl (fun T kV doc pm an cdv ct us its h1 h2 => match us, its, h1, h2 with | [_, _, _], [_], _, _ => ⟨_, rfl, by first | with_unfolding_all rfl | kernel_rfl⟩)
    exact ⟨_, _, _, ds, M_Reader, ok_Reader___init__ T  F_Reader___init__, He.glo_ok X G (c.fact 48 (f := .glo "Reader") rfl), hb, hv⟩
  have cd_Reader : ∀ base : Heap, C8.Mak P w K mg base 1 "Reader" (He.ga K "Reader") (sp_Reader___init__ K) [.int 0] := fun base => by
    obtain ⟨ds, hv, hb⟩ := FunD.binds1 (ps := ["self", "data", "at"]) F_Reader___init__ 2 0 (fun e => nomatch e) rfl (fun T kV doc pm an cdv ct us its h1 h2 => match us, its, h1, h2 with | [_, _], [_], _, _ => ⟨_, rfl, by first | with_unfolding_all rfl | kernel_rfl⟩)
    exact ⟨_, _, _, ds, M_Reader, ok_Reader___init__ T  F_Reader___init__, He.glo_ok X G (c.fact 48 (f := .glo "Reader") rfl), hb, hv⟩
  obtain ⟨fd_law_draw, F_law_draw⟩ := c.def_ 27 (d := d_law_draw) rfl
  have c_law_draw : ∀ base : Heap, Cal P w K mg base 1 "_law_draw" (spDraw K) := fun base => ⟨_, _, ["state", "script", "size"], ok_law_draw T  F_law_draw, He.glo_ok X G (c.fact 15 (f := .glo "_law_draw") rfl), F_law_draw.kp, FunD.bindsN F_law_draw fun _ _ _ _ _ _ us hl => match us, hl with | [_, _, _], _ => rfl⟩
  obtain ⟨fd_law_all, F_law_all⟩ := c.def_ 28 (d := d_law_all) rfl
  have c_law_all : ∀ base : Heap, Cal P w K mg base 1 "_law_all" (sp_law_all K) := fun base => ⟨_, _, [], ok_law_all T  F_law_all, He.glo_ok X G (c.fact 16 (f := .glo "_law_all") rfl), F_law_all.kp, FunD.bindsN F_law_all fun _ _ _ _ _ _ us hl => match us, hl with | [], _ => rfl⟩
  obtain ⟨fd_law_block, F_law_block⟩ := c.def_ 32 (d := d_law_block) rfl
  have c_law_block : ∀ base : Heap, Cal P w K mg base 1 "_law_block" (sp_law_block K) := fun base => ⟨_, _, ["row"], ok_law_block T  F_law_block, He.glo_ok X G (c.fact 20 (f := .glo "_law_block") rfl), F_law_block.kp, FunD.bindsN F_law_block fun _ _ _ _ _ _ us hl => match us, hl with | [_], _ => rfl⟩
  obtain ⟨fd_law_four, F_law_four⟩ := c.def_ 35 (d := d_law_four) rfl
  have c_law_four : ∀ base : Heap, Cal P w K mg base 1 "_law_four" (sp_law_four K) := fun base => ⟨_, _, ["number"], ok_law_four T  F_law_four, He.glo_ok X G (c.fact 23 (f := .glo "_law_four") rfl), F_law_four.kp, FunD.bindsN F_law_four fun _ _ _ _ _ _ us hl => match us, hl with | [_], _ => rfl⟩
  obtain ⟨fd_law_name_written, F_law_name_written⟩ := c.def_ 36 (d := d_law_name_written) rfl
  have c_law_name_written : ∀ base : Heap, Cal P w K mg base 1 "_law_name_written" (sp_law_name_written K) := fun base => ⟨_, _, ["name"], ok_law_name_written T  F_law_name_written, He.glo_ok X G (c.fact 24 (f := .glo "_law_name_written") rfl), F_law_name_written.kp, FunD.bindsN F_law_name_written fun _ _ _ _ _ _ us hl => match us, hl with | [_], _ => rfl⟩
  obtain ⟨fd_law_block_written, F_law_block_written⟩ := c.def_ 38 (d := d_law_block_written) rfl
  have c_law_block_written : ∀ base : Heap, Cal P w K mg base 1 "_law_block_written" (sp_law_block_written K) := fun base => ⟨_, _, ["block"], ok_law_block_written T  F_law_block_written, He.glo_ok X G (c.fact 26 (f := .glo "_law_block_written") rfl), F_law_block_written.kp, FunD.bindsN F_law_block_written fun _ _ _ _ _ _ us hl => match us, hl with | [_], _ => rfl⟩
  obtain ⟨fd_law_fields, F_law_fields⟩ := c.def_ 40 (d := d_law_fields) rfl
  have c_law_fields : ∀ base : Heap, Cal P w K mg base 1 "_law_fields" (sp_law_fields K) := fun base => ⟨_, _, ["entry"], ok_law_fields T  F_law_fields, He.glo_ok X G (c.fact 28 (f := .glo "_law_fields") rfl), F_law_fields.kp, FunD.bindsN F_law_fields fun _ _ _ _ _ _ us hl => match us, hl with | [_], _ => rfl⟩
  obtain ⟨fd_law_take, F_law_take⟩ := c.def_ 41 (d := d_law_take) rfl
  have c_law_take : ∀ base : Heap, Cal P w K mg base 1 "_law_take" (sp_law_take K) := fun base => ⟨_, _, ["data", "box", "least", "most"], ok_law_take T  F_law_take, He.glo_ok X G (c.fact 29 (f := .glo "_law_take") rfl), F_law_take.kp, FunD.bindsN F_law_take fun _ _ _ _ _ _ us hl => match us, hl with | [_, _, _, _], _ => rfl⟩
  obtain ⟨fd_block_bytes, F_block_bytes⟩ := c.def_ 2 (d := d_block_bytes) rfl
  have c_block_bytes : ∀ base : Heap, Cal P w K mg base 2 "block_bytes" (sp_block_bytes K) := fun base => ⟨_, _, ["number"], ok_block_bytes T (c_block_size base) F_block_bytes, He.glo_ok X G (c.fact 2 (f := .glo "block_bytes") rfl), F_block_bytes.kp, FunD.bindsN F_block_bytes fun _ _ _ _ _ _ us hl => match us, hl with | [_], _ => rfl⟩
  obtain ⟨fd_vector_bytes, F_vector_bytes⟩ := c.def_ 8 (d := d_vector_bytes) rfl
  have c_vector_bytes : ∀ base : Heap, Cal P w K mg base 2 "vector_bytes" (sp_vector_bytes K) := fun base => ⟨_, _, ["vector"], ok_vector_bytes T (c_number_bytes base) F_vector_bytes, He.glo_ok X G (c.fact 7 (f := .glo "vector_bytes") rfl), F_vector_bytes.kp, FunD.bindsN F_vector_bytes fun _ _ _ _ _ _ us hl => match us, hl with | [_], _ => rfl⟩
  obtain ⟨fd_law_count, F_law_count⟩ := c.def_ 29 (d := d_law_count) rfl
  have c_law_count : ∀ base : Heap, Cal P w K mg base 2 "_law_count" (sp_law_count K) := fun base => ⟨_, _, ["state", "script", "least"], ok_law_count T (c_law_draw base) F_law_count, He.glo_ok X G (c.fact 17 (f := .glo "_law_count") rfl), F_law_count.kp, FunD.bindsN F_law_count fun _ _ _ _ _ _ us hl => match us, hl with | [_, _, _], _ => rfl⟩
  obtain ⟨fd_law_name, F_law_name⟩ := c.def_ 30 (d := d_law_name) rfl
  have c_law_name : ∀ base : Heap, Cal P w K mg base 2 "_law_name" (sp_law_name K) := fun base => ⟨_, _, ["state", "script"], ok_law_name T (c_law_draw base) (c_law_all base) F_law_name, He.glo_ok X G (c.fact 18 (f := .glo "_law_name") rfl), F_law_name.kp, FunD.bindsN F_law_name fun _ _ _ _ _ _ us hl => match us, hl with | [_, _], _ => rfl⟩
  obtain ⟨fd_law_row, F_law_row⟩ := c.def_ 33 (d := d_law_row) rfl
  have c_law_row : ∀ base : Heap, Cal P w K mg base 2 "_law_row" (sp_law_row K) := fun base => ⟨_, _, ["state", "script", "size"], ok_law_row T (c_law_draw base) F_law_row, He.glo_ok X G (c.fact 21 (f := .glo "_law_row") rfl), F_law_row.kp, FunD.bindsN F_law_row fun _ _ _ _ _ _ us hl => match us, hl with | [_, _, _], _ => rfl⟩
  obtain ⟨fd_law_vector_written, F_law_vector_written⟩ := c.def_ 37 (d := d_law_vector_written) rfl
  have c_law_vector_written : ∀ base : Heap, Cal P w K mg base 2 "_law_vector_written" (sp_law_vector_written K) := fun base => ⟨_, _, ["vector"], ok_law_vector_written T (c_law_four base) F_law_vector_written, He.glo_ok X G (c.fact 25 (f := .glo "_law_vector_written") rfl), F_law_vector_written.kp, FunD.bindsN F_law_vector_written fun _ _ _ _ _ _ us hl => match us, hl with | [_], _ => rfl⟩
  obtain ⟨fd_law_number_read, F_law_number_read⟩ := c.def_ 42 (d := d_law_number_read) rfl
  have c_law_number_read : ∀ base : Heap, Cal P w K mg base 2 "_law_number_read" (sp_law_number_read K) := fun base => ⟨_, _, ["data", "box", "least"], ok_law_number_read T (c_law_take base) F_law_number_read, He.glo_ok X G (c.fact 30 (f := .glo "_law_number_read") rfl), F_law_number_read.kp, FunD.bindsN F_law_number_read fun _ _ _ _ _ _ us hl => match us, hl with | [_, _, _], _ => rfl⟩
  obtain ⟨fd_law_name_read, F_law_name_read⟩ := c.def_ 43 (d := d_law_name_read) rfl
  have c_law_name_read : ∀ base : Heap, Cal P w K mg base 2 "_law_name_read" (sp_law_name_read K) := fun base => ⟨_, _, ["data", "box"], ok_law_name_read T (c_law_take base) (c_law_all base) F_law_name_read, He.glo_ok X G (c.fact 31 (f := .glo "_law_name_read") rfl), F_law_name_read.kp, FunD.bindsN F_law_name_read fun _ _ _ _ _ _ us hl => match us, hl with | [_, _], _ => rfl⟩
  obtain ⟨fd_law_row_read, F_law_row_read⟩ := c.def_ 45 (d := d_law_row_read) rfl
  have c_law_row_read : ∀ base : Heap, Cal P w K mg base 2 "_law_row_read" (sp_law_row_read K) := fun base => ⟨_, _, ["data", "box", "least"], ok_law_row_read T (c_law_take base) F_law_row_read, He.glo_ok X G (c.fact 33 (f := .glo "_law_row_read") rfl), F_law_row_read.kp, FunD.bindsN F_law_row_read fun _ _ _ _ _ _ us hl => match us, hl with | [_, _, _], _ => rfl⟩
  obtain ⟨fd_law_plain, F_law_plain⟩ := c.def_ 49 (d := d_law_plain) rfl
  have c_law_plain : ∀ base : Heap, Cal P w K mg base 2 "_law_plain" (sp_law_plain K) := fun base => ⟨_, _, ["letter"], ok_law_plain T (c_law_fields base) F_law_plain, He.glo_ok X G (c.fact 37 (f := .glo "_law_plain") rfl), F_law_plain.kp, FunD.bindsN F_law_plain fun _ _ _ _ _ _ us hl => match us, hl with | [_], _ => rfl⟩
  obtain ⟨fd_law_changed, F_law_changed⟩ := c.def_ 55 (d := d_law_changed) rfl
  have c_law_changed : ∀ base : Heap, Cal P w K mg base 2 "_law_changed" (sp_law_changed K) := fun base => ⟨_, _, ["state", "script", "data"], ok_law_changed T (c_law_draw base) F_law_changed, He.glo_ok X G (c.fact 43 (f := .glo "_law_changed") rfl), F_law_changed.kp, FunD.bindsN F_law_changed fun _ _ _ _ _ _ us hl => match us, hl with | [_, _, _], _ => rfl⟩
  obtain ⟨fd_entry_bytes, F_entry_bytes⟩ := c.def_ 9 (d := d_entry_bytes) rfl
  have c_entry_bytes : ∀ base : Heap, Cal P w K mg base 3 "entry_bytes" (sp_entry_bytes K) := fun base => ⟨_, _, ["entry", "number"], ok_entry_bytes T (c_number_bytes base) (c_name_bytes base) (c_vector_bytes base) (c_row_bytes base) (c_block_bytes base) F_entry_bytes, He.glo_ok X G (c.fact 8 (f := .glo "entry_bytes") rfl), F_entry_bytes.kp, FunD.bindsN F_entry_bytes fun _ _ _ _ _ _ us hl => match us, hl with | [_, _], _ => rfl⟩
  obtain ⟨fd_Reader_byte, F_Reader_byte⟩ := c.def_ 11 (d := d_Reader_byte) rfl
  have m_Reader_byte : ∀ base : Heap, MetXD P w K mg base 3 (He.ga K "Reader") "byte" (sp_Reader_byte K) [] := fun base => by
    obtain ⟨ds, hv, hb⟩ := FunD.binds1 (ps := ["self", "least", "most"]) F_Reader_byte 3 2 (fun e => nomatch e) rfl (fun T kV doc pm an cdv ct us its h1 h2 => match us, its, h1, h2 with | [_, _, _], [_, _], _, _ => ⟨_, rfl, by first | with_unfolding_all rfl | kernel_rfl⟩)
    exact ⟨_, _, ["self", "least", "most"], ds, He.cls_ok (c.fact 90 (f := .cls "Reader") rfl), He.meth_ok (c.fact 71 (f := .meth "Reader" "byte") rfl), ok_Reader_byte T  F_Reader_byte, hb, hv⟩
  have m1_Reader_byte : ∀ base : Heap, MetXD P w K mg base 3 (He.ga K "Reader") "byte" (sp_Reader_byte K) [.int 255] := fun base => by
    obtain ⟨ds, hv, hb⟩ := FunD.binds1 (ps := ["self", "least", "most"]) F_Reader_byte 2 1 (fun e => nomatch e) rfl (fun T kV doc pm an cdv ct us its h1 h2 => match us, its, h1, h2 with | [_, _], [_, _], _, _ => ⟨_, rfl, by first | with_unfolding_all rfl | kernel_rfl⟩)
    exact ⟨_, _, ["self", "least", "most"], ds, He.cls_ok (c.fact 90 (f := .cls "Reader") rfl), He.meth_ok (c.fact 71 (f := .meth "Reader" "byte") rfl), ok_Reader_byte T  F_Reader_byte, hb, hv⟩
  have m2_Reader_byte : ∀ base : Heap, MetXD P w K mg base 3 (He.ga K "Reader") "byte" (sp_Reader_byte K) [.int 0, .int 255] := fun base => by
    obtain ⟨ds, hv, hb⟩ := FunD.binds1 (ps := ["self", "least", "most"]) F_Reader_byte 1 0 (fun e => nomatch e) rfl (fun T kV doc pm an cdv ct us its h1 h2 => match us, its, h1, h2 with | [_], [_, _], _, _ => ⟨_, rfl, by first | with_unfolding_all rfl | kernel_rfl⟩)
    exact ⟨_, _, ["self", "least", "most"], ds, He.cls_ok (c.fact 90 (f := .cls "Reader") rfl), He.meth_ok (c.fact 71 (f := .meth "Reader" "byte") rfl), ok_Reader_byte T  F_Reader_byte, hb, hv⟩
  obtain ⟨fd_law_vector, F_law_vector⟩ := c.def_ 31 (d := d_law_vector) rfl
  have c_law_vector : ∀ base : Heap, Cal P w K mg base 3 "_law_vector" (sp_law_vector K) := fun base => ⟨_, _, ["state", "script"], ok_law_vector T (c_law_draw base) (c_law_count base) F_law_vector, He.glo_ok X G (c.fact 19 (f := .glo "_law_vector") rfl), F_law_vector.kp, FunD.bindsN F_law_vector fun _ _ _ _ _ _ us hl => match us, hl with | [_, _], _ => rfl⟩
  obtain ⟨fd_law_entry_written, F_law_entry_written⟩ := c.def_ 39 (d := d_law_entry_written) rfl
  have c_law_entry_written : ∀ base : Heap, Cal P w K mg base 3 "_law_entry_written" (sp_law_entry_written K) := fun base => ⟨_, _, ["fields", "number"], ok_law_entry_written T (c_law_four base) (c_law_name_written base) (c_law_vector_written base) (c_law_block_written base) F_law_entry_written, He.glo_ok X G (c.fact 27 (f := .glo "_law_entry_written") rfl), F_law_entry_written.kp, FunD.bindsN F_law_entry_written fun _ _ _ _ _ _ us hl => match us, hl with | [_, _], _ => rfl⟩
  obtain ⟨fd_law_vector_read, F_law_vector_read⟩ := c.def_ 44 (d := d_law_vector_read) rfl
  have c_law_vector_read : ∀ base : Heap, Cal P w K mg base 3 "_law_vector_read" (sp_law_vector_read K) := fun base => ⟨_, _, ["data", "box"], ok_law_vector_read T (c_law_take base) (c_law_number_read base) F_law_vector_read, He.glo_ok X G (c.fact 32 (f := .glo "_law_vector_read") rfl), F_law_vector_read.kp, FunD.bindsN F_law_vector_read fun _ _ _ _ _ _ us hl => match us, hl with | [_, _], _ => rfl⟩
  obtain ⟨fd_Reader_number, F_Reader_number⟩ := c.def_ 12 (d := d_Reader_number) rfl
  have m_Reader_number : ∀ base : Heap, MetXD P w K mg base 4 (He.ga K "Reader") "number" (sp_Reader_number K) [] := fun base => by
    obtain ⟨ds, hv, hb⟩ := FunD.binds1 (ps := ["self", "least"]) F_Reader_number 2 1 (fun e => nomatch e) rfl (fun T kV doc pm an cdv ct us its h1 h2 => match us, its, h1, h2 with | [_, _], [_], _, _ => ⟨_, rfl, by first | with_unfolding_all rfl | kernel_rfl⟩)
    exact ⟨_, _, ["self", "least"], ds, He.cls_ok (c.fact 90 (f := .cls "Reader") rfl), He.meth_ok (c.fact 72 (f := .meth "Reader" "number") rfl), ok_Reader_number T (m_Reader_byte base) (m1_Reader_byte base) (m2_Reader_byte base) F_Reader_number, hb, hv⟩
  have m1_Reader_number : ∀ base : Heap, MetXD P w K mg base 4 (He.ga K "Reader") "number" (sp_Reader_number K) [.int 0] := fun base => by
    obtain ⟨ds, hv, hb⟩ := FunD.binds1 (ps := ["self", "least"]) F_Reader_number 1 0 (fun e => nomatch e) rfl (fun T kV doc pm an cdv ct us its h1 h2 => match us, its, h1, h2 with | [_], [_], _, _ => ⟨_, rfl, by first | with_unfolding_all rfl | kernel_rfl⟩)
    exact ⟨_, _, ["self", "least"], ds, He.cls_ok (c.fact 90 (f := .cls "Reader") rfl), He.meth_ok (c.fact 72 (f := .meth "Reader" "number") rfl), ok_Reader_number T (m_Reader_byte base) (m1_Reader_byte base) (m2_Reader_byte base) F_Reader_number, hb, hv⟩
  obtain ⟨fd_Reader_device, F_Reader_device⟩ := c.def_ 13 (d := d_Reader_device) rfl
  have m_Reader_device : ∀ base : Heap, MetXD P w K mg base 4 (He.ga K "Reader") "device" (sp_Reader_device K) [] := fun base => ⟨_, _, ["self"], [], He.cls_ok (c.fact 90 (f := .cls "Reader") rfl), He.meth_ok (c.fact 73 (f := .meth "Reader" "device") rfl), ok_Reader_device T (m_Reader_byte base) (m1_Reader_byte base) (m2_Reader_byte base) F_Reader_device, FunD.bindsN F_Reader_device fun _ _ _ _ _ _ us hl => match us, hl with | [_], _ => rfl, .nil⟩
  obtain ⟨fd_Reader__character, F_Reader__character⟩ := c.def_ 15 (d := d_Reader__character) rfl
  have m_Reader__character : ∀ base : Heap, MetXD P w K mg base 4 (He.ga K "Reader") "_character" (sp_Reader__character K) [] := fun base => ⟨_, _, ["self"], [], He.cls_ok (c.fact 90 (f := .cls "Reader") rfl), He.meth_ok (c.fact 75 (f := .meth "Reader" "_character") rfl), ok_Reader__character T (c_character_of base) (m_Reader_byte base) (m1_Reader_byte base) (m2_Reader_byte base) F_Reader__character, FunD.bindsN F_Reader__character fun _ _ _ _ _ _ us hl => match us, hl with | [_], _ => rfl, .nil⟩
  obtain ⟨fd_Reader_row, F_Reader_row⟩ := c.def_ 17 (d := d_Reader_row) rfl
  have m_Reader_row : ∀ base : Heap, MetXD P w K mg base 4 (He.ga K "Reader") "row" (sp_Reader_row K) [] := fun base => by
    obtain ⟨ds, hv, hb⟩ := FunD.binds1 (ps := ["self", "least"]) F_Reader_row 2 1 (fun e => nomatch e) rfl (fun T kV doc pm an cdv ct us its h1 h2 => match us, its, h1, h2 with | [_, _], [_], _, _ => ⟨_, rfl, by first | with_unfolding_all rfl | kernel_rfl⟩)
    exact ⟨_, _, ["self", "least"], ds, He.cls_ok (c.fact 90 (f := .cls "Reader") rfl), He.meth_ok (c.fact 77 (f := .meth "Reader" "row") rfl), ok_Reader_row T (m_Reader_byte base) (m1_Reader_byte base) (m2_Reader_byte base) F_Reader_row, hb, hv⟩
  have m1_Reader_row : ∀ base : Heap, MetXD P w K mg base 4 (He.ga K "Reader") "row" (sp_Reader_row K) [.int 1] := fun base => by
    obtain ⟨ds, hv, hb⟩ := FunD.binds1 (ps := ["self", "least"]) F_Reader_row 1 0 (fun e => nomatch e) rfl (fun T kV doc pm an cdv ct us its h1 h2 => match us, its, h1, h2 with | [_], [_], _, _ => ⟨_, rfl, by first | with_unfolding_all rfl | kernel_rfl⟩)
    exact ⟨_, _, ["self", "least"], ds, He.cls_ok (c.fact 90 (f := .cls "Reader") rfl), He.meth_ok (c.fact 77 (f := .meth "Reader" "row") rfl), ok_Reader_row T (m_Reader_byte base) (m1_Reader_byte base) (m2_Reader_byte base) F_Reader_row, hb, hv⟩
  obtain ⟨fd_entries_bytes, F_entries_bytes⟩ := c.def_ 22 (d := d_entries_bytes) rfl
  have c_entries_bytes : ∀ base : Heap, Cal P w K mg base 4 "_entries_bytes" (sp_entries_bytes K) := fun base => ⟨_, _, ["letter"], ok_entries_bytes T (c_number_bytes base) (c_entry_bytes base) F_entries_bytes, He.glo_ok X G (c.fact 10 (f := .glo "_entries_bytes") rfl), F_entries_bytes.kp, FunD.bindsN F_entries_bytes fun _ _ _ _ _ _ us hl => match us, hl with | [_], _ => rfl⟩
  obtain ⟨fd_law_entry, F_law_entry⟩ := c.def_ 34 (d := d_law_entry) rfl
  have c_law_entry : ∀ base : Heap, Cal P w K mg base 4 "_law_entry" (sp_law_entry K) := fun base => ⟨_, _, ["state", "script"], ok_law_entry T (c_law_draw base) (c_law_row base) (c_law_count base) (c_law_vector base) (c_law_name base) (c_law_block base) F_law_entry, He.glo_ok X G (c.fact 22 (f := .glo "_law_entry") rfl), F_law_entry.kp, FunD.bindsN F_law_entry fun _ _ _ _ _ _ us hl => match us, hl with | [_, _], _ => rfl⟩
  obtain ⟨fd_law_entry_read, F_law_entry_read⟩ := c.def_ 46 (d := d_law_entry_read) rfl
  have c_law_entry_read : ∀ base : Heap, Cal P w K mg base 4 "_law_entry_read" (sp_law_entry_read K) := fun base => ⟨_, _, ["data", "box"], ok_law_entry_read T (c_law_number_read base) (c_law_name_read base) (c_law_vector_read base) (c_law_take base) (c_law_block base) (c_law_row_read base) F_law_entry_read, He.glo_ok X G (c.fact 34 (f := .glo "_law_entry_read") rfl), F_law_entry_read.kp, FunD.bindsN F_law_entry_read fun _ _ _ _ _ _ us hl => match us, hl with | [_, _], _ => rfl⟩
  obtain ⟨fd_law_letter_written, F_law_letter_written⟩ := c.def_ 48 (d := d_law_letter_written) rfl
  have c_law_letter_written : ∀ base : Heap, Cal P w K mg base 4 "_law_letter_written" (sp_law_letter_written K) := fun base => ⟨_, _, ["letter"], ok_law_letter_written T (c_law_four base) (c_law_entry_written base) (c_law_name_written base) (c_law_block_written base) F_law_letter_written, He.glo_ok X G (c.fact 36 (f := .glo "_law_letter_written") rfl), F_law_letter_written.kp, FunD.bindsN F_law_letter_written fun _ _ _ _ _ _ us hl => match us, hl with | [_], _ => rfl⟩
  obtain ⟨fd_Reader_name, F_Reader_name⟩ := c.def_ 14 (d := d_Reader_name) rfl
  have m_Reader_name : ∀ base : Heap, MetXD P w K mg base 5 (He.ga K "Reader") "name" (sp_Reader_name K) [] := fun base => ⟨_, _, ["self"], [], He.cls_ok (c.fact 90 (f := .cls "Reader") rfl), He.meth_ok (c.fact 74 (f := .meth "Reader" "name") rfl), ok_Reader_name T (m_Reader_byte base) (m1_Reader_byte base) (m2_Reader_byte base) (m_Reader__character base) F_Reader_name, FunD.bindsN F_Reader_name fun _ _ _ _ _ _ us hl => match us, hl with | [_], _ => rfl, .nil⟩
  obtain ⟨fd_Reader_vector, F_Reader_vector⟩ := c.def_ 16 (d := d_Reader_vector) rfl
  have m_Reader_vector : ∀ base : Heap, MetXD P w K mg base 5 (He.ga K "Reader") "vector" (sp_Reader_vector K) [] := fun base => ⟨_, _, ["self"], [], He.cls_ok (c.fact 90 (f := .cls "Reader") rfl), He.meth_ok (c.fact 76 (f := .meth "Reader" "vector") rfl), ok_Reader_vector T (m_Reader_byte base) (m1_Reader_byte base) (m2_Reader_byte base) (m_Reader_number base) (m1_Reader_number base) F_Reader_vector, FunD.bindsN F_Reader_vector fun _ _ _ _ _ _ us hl => match us, hl with | [_], _ => rfl, .nil⟩
  obtain ⟨fd_Reader_block, F_Reader_block⟩ := c.def_ 18 (d := d_Reader_block) rfl
  have m_Reader_block : ∀ base : Heap, MetXD P w K mg base 5 (He.ga K "Reader") "block" (sp_Reader_block K) [] := fun base => ⟨_, _, ["self"], [], He.cls_ok (c.fact 90 (f := .cls "Reader") rfl), He.meth_ok (c.fact 78 (f := .meth "Reader" "block") rfl), ok_Reader_block T (c_block_number base) (m_Reader_row base) (m1_Reader_row base) F_Reader_block, FunD.bindsN F_Reader_block fun _ _ _ _ _ _ us hl => match us, hl with | [_], _ => rfl, .nil⟩
  obtain ⟨fd_Reader__blocks, F_Reader__blocks⟩ := c.def_ 20 (d := d_Reader__blocks) rfl
  have m_Reader__blocks : ∀ base : Heap, MetXD P w K mg base 5 (He.ga K "Reader") "_blocks" (sp_Reader__blocks K) [] := fun base => ⟨_, _, ["self", "most"], [], He.cls_ok (c.fact 90 (f := .cls "Reader") rfl), He.meth_ok (c.fact 80 (f := .meth "Reader" "_blocks") rfl), ok_Reader__blocks T (m_Reader_byte base) (m1_Reader_byte base) (m2_Reader_byte base) (c_block_number base) (m_Reader_row base) (m1_Reader_row base) F_Reader__blocks, FunD.bindsN F_Reader__blocks fun _ _ _ _ _ _ us hl => match us, hl with | [_, _], _ => rfl, .nil⟩
  obtain ⟨fd_encode, F_encode⟩ := c.def_ 21 (d := d_encode) rfl
  have c_encode : ∀ base : Heap, Cal P w K mg base 5 "encode" (sp_encode K) := fun base => ⟨_, _, ["letter"], ok_encode T (c_number_bytes base) (c_entries_bytes base) (c_name_bytes base) (c_row_bytes base) (c_block_bytes base) F_encode, He.glo_ok X G (c.fact 9 (f := .glo "encode") rfl), F_encode.kp, FunD.bindsN F_encode fun _ _ _ _ _ _ us hl => match us, hl with | [_], _ => rfl⟩
  obtain ⟨fd_law_letter, F_law_letter⟩ := c.def_ 47 (d := d_law_letter) rfl
  have c_law_letter : ∀ base : Heap, Cal P w K mg base 5 "_law_letter" (sp_law_letter K) := fun base => ⟨_, _, ["state", "script"], ok_law_letter T (c_law_draw base) (c_law_row base) (c_law_block base) (c_law_count base) (c_law_entry base) (c_law_name base) F_law_letter, He.glo_ok X G (c.fact 35 (f := .glo "_law_letter") rfl), F_law_letter.kp, FunD.bindsN F_law_letter fun _ _ _ _ _ _ us hl => match us, hl with | [_, _], _ => rfl⟩
  obtain ⟨fd_law_letter_read, F_law_letter_read⟩ := c.def_ 52 (d := d_law_letter_read) rfl
  have c_law_letter_read : ∀ base : Heap, Cal P w K mg base 5 "_law_letter_read" (sp_law_letter_read K) := fun base => ⟨_, _, ["data", "box"], ok_law_letter_read T (c_law_take base) (c_law_number_read base) (c_law_entry_read base) (c_law_name_read base) (c_law_block base) (c_law_row_read base) F_law_letter_read, He.glo_ok X G (c.fact 40 (f := .glo "_law_letter_read") rfl), F_law_letter_read.kp, FunD.bindsN F_law_letter_read fun _ _ _ _ _ _ us hl => match us, hl with | [_, _], _ => rfl⟩
  obtain ⟨fd_Reader_entry, F_Reader_entry⟩ := c.def_ 19 (d := d_Reader_entry) rfl
  have m_Reader_entry : ∀ base : Heap, MetXD P w K mg base 6 (He.ga K "Reader") "entry" (sp_Reader_entry K) [] := fun base => ⟨_, _, ["self"], [], He.cls_ok (c.fact 90 (f := .cls "Reader") rfl), He.meth_ok (c.fact 79 (f := .meth "Reader" "entry") rfl), ok_Reader_entry T (c_Entry base) (m_Reader_number base) (m1_Reader_number base) (m_Reader_name base) (m_Reader_vector base) (m_Reader_device base) (m_Reader_byte base) (m1_Reader_byte base) (m2_Reader_byte base) (m_Reader__blocks base) F_Reader_entry, FunD.bindsN F_Reader_entry fun _ _ _ _ _ _ us hl => match us, hl with | [_], _ => rfl, .nil⟩
  obtain ⟨fd_law_due, F_law_due⟩ := c.def_ 53 (d := d_law_due) rfl
  have c_law_due : ∀ base : Heap, Cal P w K mg base 6 "_law_due" (sp_law_due K) := fun base => ⟨_, _, ["data"], ok_law_due T (c_law_letter_read base) F_law_due, He.glo_ok X G (c.fact 41 (f := .glo "_law_due") rfl), F_law_due.kp, FunD.bindsN F_law_due fun _ _ _ _ _ _ us hl => match us, hl with | [_], _ => rfl⟩
  obtain ⟨fd_law_all_due, F_law_all_due⟩ := c.def_ 54 (d := d_law_all_due) rfl
  have c_law_all_due : ∀ base : Heap, Cal P w K mg base 6 "_law_all_due" (sp_law_all_due K) := fun base => ⟨_, _, ["data"], ok_law_all_due T (c_law_letter_read base) F_law_all_due, He.glo_ok X G (c.fact 42 (f := .glo "_law_all_due") rfl), F_law_all_due.kp, FunD.bindsN F_law_all_due fun _ _ _ _ _ _ us hl => match us, hl with | [_], _ => rfl⟩
  obtain ⟨fd_next_entries, F_next_entries⟩ := c.def_ 26 (d := d_next_entries) rfl
  have c_next_entries : ∀ base : Heap, CalX P w K mg base 7 "_next_entries" (sp_next_entries K) := fun base => ⟨_, _, ["reader"], ok_next_entries T (m_Reader_number base) (m1_Reader_number base) (m_Reader_byte base) (m1_Reader_byte base) (m2_Reader_byte base) (m_Reader_entry base) F_next_entries, He.glo_ok X G (c.fact 14 (f := .glo "_next_entries") rfl), F_next_entries.kp, FunD.bindsN F_next_entries fun _ _ _ _ _ _ us hl => match us, hl with | [_], _ => rfl⟩
  obtain ⟨fd_next_letter, F_next_letter⟩ := c.def_ 25 (d := d_next_letter) rfl
  have c_next_letter : ∀ base : Heap, CalX P w K mg base 8 "_next_letter" (sp_next_letter K) := fun base => ⟨_, _, ["reader"], ok_next_letter T (m_Reader_byte base) (m1_Reader_byte base) (m2_Reader_byte base) (m_Reader_device base) (m_Reader_number base) (m1_Reader_number base) (c_next_entries base) (m_Reader_block base) (m_Reader_name base) (m_Reader_row base) (m1_Reader_row base) F_next_letter, He.glo_ok X G (c.fact 13 (f := .glo "_next_letter") rfl), F_next_letter.kp, FunD.bindsN F_next_letter fun _ _ _ _ _ _ us hl => match us, hl with | [_], _ => rfl⟩
  obtain ⟨fd_decode, F_decode⟩ := c.def_ 23 (d := d_decode) rfl
  have c_decode : ∀ base : Heap, CalX P w K mg base 9 "decode" (sp_decode K) := fun base => ⟨_, _, ["data"], ok_decode T (c_Reader base) (cd_Reader base) (c_next_letter base) F_decode, He.glo_ok X G (c.fact 11 (f := .glo "decode") rfl), F_decode.kp, FunD.bindsN F_decode fun _ _ _ _ _ _ us hl => match us, hl with | [_], _ => rfl⟩
  obtain ⟨fd_decode_all, F_decode_all⟩ := c.def_ 24 (d := d_decode_all) rfl
  have c_decode_all : ∀ base : Heap, CalX P w K mg base 9 "decode_all" (sp_decode_all K) := fun base => ⟨_, _, ["data"], ok_decode_all T (c_Reader base) (cd_Reader base) (c_next_letter base) F_decode_all, He.glo_ok X G (c.fact 12 (f := .glo "decode_all") rfl), F_decode_all.kp, FunD.bindsN F_decode_all fun _ _ _ _ _ _ us hl => match us, hl with | [_], _ => rfl⟩
  obtain ⟨fd_law_decoded, F_law_decoded⟩ := c.def_ 50 (d := d_law_decoded) rfl
  have c_law_decoded : ∀ base : Heap, Cal P w K mg base 10 "_law_decoded" (sp_law_decoded K) := fun base => ⟨_, _, ["data"], ok_law_decoded T (c_law_plain base) (c_decode base) F_law_decoded, He.glo_ok X G (c.fact 38 (f := .glo "_law_decoded") rfl), F_law_decoded.kp, FunD.bindsN F_law_decoded fun _ _ _ _ _ _ us hl => match us, hl with | [_], _ => rfl⟩
  obtain ⟨fd_law_all_decoded, F_law_all_decoded⟩ := c.def_ 51 (d := d_law_all_decoded) rfl
  have c_law_all_decoded : ∀ base : Heap, Cal P w K mg base 10 "_law_all_decoded" (sp_law_all_decoded K) := fun base => ⟨_, _, ["data"], ok_law_all_decoded T (c_decode_all base) (c_law_plain base) F_law_all_decoded, He.glo_ok X G (c.fact 39 (f := .glo "_law_all_decoded") rfl), F_law_all_decoded.kp, FunD.bindsN F_law_all_decoded fun _ _ _ _ _ _ us hl => match us, hl with | [_], _ => rfl⟩
  obtain ⟨fd_law, F_law⟩ := c.def_ 56 (d := d_law) rfl
  have e := hfa.symm.trans (He.glo_ok X G (c.fact 44 (f := .glo "law") rfl))
  cases e
  have b := FunD.bindsA (ps := ["script"]) F_law fun _ _ _ _ _ _ us hl => match us, hl with | [_], _ => rfl
  exact ⟨fd_law, fun s v => b s [v] rfl, fun base _ _ => ok_law T (c_law_draw base) (c_law_letter_written base) (c_law_letter base) (c_law_changed base) (c_law_row base) (c_law_due base) (c_law_decoded base) (c_encode base) (c_decode base) (c_law_all_due base) (c_law_all_decoded base) F_law⟩
end Vk49
set_option maxHeartbeats 0
open PySem PySem.W PySem.Calls PyProof.Rows
theorem PySem.Challenge.cw_folderkin_k49_whole_any_bytes_as_letters_holds : PySem.Challenge.rw_folderkin_k49_whole_any_bytes_as_letters.Holds := by
  w_on; o_law
  refine HandSHeadRun.head_any (r := OpenLaw.row PySem.Challenge.rw_folderkin_k49_whole_any_bytes_as_letters) (q := view (OpenLaw.row PySem.Challenge.rw_folderkin_k49_whole_any_bytes_as_letters).prog [71]) (H := Vk49.hk) (ob := Vk49.ob) (M := 12000) (loose := [PySem.Str.ofString "FolderkinError", PySem.Str.ofString "InvalidBlock", PySem.Str.ofString "InvalidBytes", PySem.Str.ofString "BLOCK", PySem.Str.ofString "block_number", PySem.Str.ofString "block_size", PySem.Str.ofString "block_bytes", PySem.Str.ofString "Entry", PySem.Str.ofString "CHARACTERS", PySem.Str.ofString "MOST_NAME", PySem.Str.ofString "character_of", PySem.Str.ofString "_MOST_DEVICE", PySem.Str.ofString "_MOST_BLOCKS", PySem.Str.ofString "_NUMBER_BYTES", PySem.Str.ofString "number_bytes", PySem.Str.ofString "name_bytes", PySem.Str.ofString "row_bytes", PySem.Str.ofString "vector_bytes", PySem.Str.ofString "entry_bytes", PySem.Str.ofString "Reader", PySem.Str.ofString "_HELLO", PySem.Str.ofString "_ASK", PySem.Str.ofString "_ENTRIES", PySem.Str.ofString "_REQUEST", PySem.Str.ofString "_BLOCK", PySem.Str.ofString "_REFUSED", PySem.Str.ofString "_MOST_INDEX", PySem.Str.ofString "encode", PySem.Str.ofString "_entries_bytes", PySem.Str.ofString "decode", PySem.Str.ofString "decode_all", PySem.Str.ofString "_next_letter", PySem.Str.ofString "_next_entries", PySem.Str.ofString "_law_draw", PySem.Str.ofString "_law_all", PySem.Str.ofString "_law_count", PySem.Str.ofString "_law_name", PySem.Str.ofString "_law_vector", PySem.Str.ofString "_law_block", PySem.Str.ofString "_law_row", PySem.Str.ofString "_law_entry", PySem.Str.ofString "_law_four", PySem.Str.ofString "_law_name_written", PySem.Str.ofString "_law_vector_written", PySem.Str.ofString "_law_block_written", PySem.Str.ofString "_law_entry_written", PySem.Str.ofString "_law_made", PySem.Str.ofString "_law_fields", PySem.Str.ofString "_law_take", PySem.Str.ofString "_law_number_read", PySem.Str.ofString "_law_name_read", PySem.Str.ofString "_law_vector_read", PySem.Str.ofString "_law_row_read", PySem.Str.ofString "_law_entry_read", PySem.Str.ofString "_law_letter", PySem.Str.ofString "_law_letter_written", PySem.Str.ofString "_law_real", PySem.Str.ofString "_law_plain", PySem.Str.ofString "_law_decoded", PySem.Str.ofString "_law_all_decoded", PySem.Str.ofString "_law_letter_read", PySem.Str.ofString "_law_due", PySem.Str.ofString "_law_all_due", PySem.Str.ofString "_law_changed"]) (d := HandSHeadRun.topDef (OpenLaw.row PySem.Challenge.rw_folderkin_k49_whole_any_bytes_as_letters).prog 71) (kwd := []) Vk49.ob_eq
    (by kernel_rfl) (fun s => by kernel_rfl) Vk49.run (by kernel_rfl) (by kernel_rfl) (by kernel_rfl) (by rfl) (by first | assumption | decide +kernel) (by decide +kernel) ⟨rfl, rfl, rfl, rfl, rfl, by decide +kernel⟩ ?hw ?hc
  case hw => w_witness2
  case hc =>
    refine L2.walk_ofE (l := PySem.Challenge.rw_folderkin_k49_whole_any_bytes_as_letters) (n := 63) (k := 11) (x := "script") (CX := L2.CX0) rfl (by decide) (by kernel_rfl) ⟨rfl, by decide, by decide⟩ ?F (fun _ _ _ _ z => z)
    intro w mg fa h Y G hmg0
    obtain ⟨K, KX, c⟩ := Y
    have hmg : mg ("law" : PySem.Str) = some (.ref fa) := by
      have e : (HandSHeadRun.topDef (OpenLaw.row PySem.Challenge.rw_folderkin_k49_whole_any_bytes_as_letters).prog 71).name = ("law" : PySem.Str) := by kernel_rfl
      rw [← e]
      exact hmg0
    obtain ⟨fd, hb, hF⟩ := Vk49.facts (P := (PySem.Challenge.rw_folderkin_k49_whole_any_bytes_as_letters).prog) (w := w) KX G hmg c
    exact ⟨K, fd, Vk49.sp_law K, KX, hb, fun H a ns hl _ hS => ⟨_, rfl, a, ns, rfl, hS, hl, fun _ => rfl⟩, hF⟩
