import PyProof.Rows.All
import Wide.All
import OpenK.AllK
import Wide.FinOn
import KE.KStateDown
import HandS.ForMost
import HandS.Codes
import HandS.Defaults
import HandS.Flow
import HandS.Walk
import HandS.Wide
import HandS.IsInst
import HandS.Iter
import KE.GoesMore
import KE.GoesEnum
import KE.LtData
import KE.DataCmp
import HandS.WideBits
import HandS.RevRange
import HandS.TupLe
import HandS.TupAny
import HandS.Style
import HandS.Dict
import HandS.More
import KE.KDictPairs
import KE.OsGo
import HandS.ForSpec
import HandS.ExcIs
import KE.KExcIs
import HandS.Head0
import HandS.Head1
import HandS.Head2
import HandS.HeadEnd
import HandS.HeadHook1
import HandS.HeadHook2
import HandS.OwnEq
import HandS.MakeKw
import KE.DataEq
import HandS.DictTup
import HandS.Deep
import KE.KDictWalk
import HandS.SortKw
import KE.DataMinKey
import HandS.FStr
import PyProof.NeKinds
import HandS.Gcd
import HandS.Text
import HandS.StrMore
import HandS.DictComp
import HandS.SetKeys
import KE.KEqDict
import HandS.SetFor
import HandS.Strs
import Lean
import PySem.Challenge.RW_folderkin_k80_blocks_that_must_come
set_option Elab.async false
set_option linter.all false
set_option maxRecDepth 100000
set_option maxHeartbeats 4000000
namespace Vf
open PySem L2 PySem.Spec PyProof.Rows

/-- what is left of a loop, of a comprehension, behind what it walks -/
def ForB (J : It) (g : TG) (t : TS) (D : Ends) (σ : L2.St) (H1 : Hp) : Prop := ∃ W : Nat → Nat → L2.St → Hp → Prop, (∃ m, W 0 m σ H1) ∧ ∀ i m σ H, W i m σ H →
  (J.stop i H ∧ D.nx σ H) ∨ (J.go i H ∧ ∃ N : L2.St → Hp → Prop, (∀ σ' H', N σ' H' → ∃ m', m' < m ∧ W (i + 1) m' σ' H') ∧ ∀ x H', J.yld i H x H' → g x σ H' fun σ2 H2 => t { D with nx := N, ct := N, bk := D.nx } σ2 H2)
def LcB (J : It) (g : TG) (tt : TT) (te : TE) (vs : List Nat) (σ : L2.St) (D : Addr) (H1 : Hp) (Q : VK) : Prop := ∃ W : Nat → Nat → Hp → Prop, (∃ m, W 0 m (upd H1 D (.lst []))) ∧ ∀ i m H, W i m H →
  (J.stop i H ∧ Q (.ref D) H) ∨ (J.go i H ∧
    ∃ Nx : Hp → Prop, (∀ H', Nx H' → ∃ m', m' < m ∧ W (i + 1) m' H') ∧
    ∀ x H', J.yld i H x H' → g x (wipe σ vs) H' fun σ2 H2 => wipe σ2 vs = wipe σ vs ∧ tt σ2 H2 fun b H3 =>
    if b = true then te σ2 H3 fun y H4 => 
      ∃ acc, H4 D = some (.lst acc) ∧ acc.length < sizeLine ∧
      Nx (upd H4 D (.lst (acc ++ [y]))) else Nx H3)
section
variable {K : PySem.W.Frag} {g : TG} {t : TS} {D : Ends} {σ : L2.St} {H : Hp} {tt : TT} {te : TE} {vs : List Nat} {Q : VK} {Da : Addr}
/-- for c in z, a text: Pv by the signs gone -/
theorem for_str {z : Str} (Pv : List Nat → L2.St → Hp → Prop) (h0 : Pv [] σ H)
    (hs : ∀ (pre : List Nat) (c : Nat) (post : List Nat) σ H, z.cps.toList = pre ++ c :: post → Pv pre σ H → g (.str ⟨#[c]⟩) σ H fun σ2 H2 => t { D with nx := Pv (pre ++ [c]), ct := Pv (pre ++ [c]), bk := D.nx } σ2 H2)
    (hd : ∀ σ H, Pv z.cps.toList σ H → D.nx σ H) : ForB (Its z) g t D σ H := by
  refine for_it walk_str (fun i => Pv (z.cps.toList.take i)) (by simpa using h0) (fun _ _ _ _ _ => trivial) (fun i x σ H H' hi p y => ?_) (fun σ H p => ?_)
  · obtain ⟨e, c, hc, hx⟩ := y
    subst e hx
    have hc' : z.cps.toList[i]? = some c := by simpa using hc
    have hi' : i < z.cps.toList.length := by simpa using hi
    have e1 : z.cps.toList = z.cps.toList.take i ++ c :: z.cps.toList.drop (i + 1) := by
      have e2 := (List.getElem?_eq_some_iff.mp hc').2
      rw [← e2, List.getElem_cons_drop, List.take_append_drop]
    have e3 : z.cps.toList.take (i + 1) = z.cps.toList.take i ++ [c] := by
      rw [List.take_add_one, hc']; rfl
    rw [e3]
    exact hs _ c _ σ _ e1 p
  · refine hd σ H ?_
    have e : z.cps.toList.take z.cps.size = z.cps.toList := List.take_of_length_le (by simp)
    rw [← e]
    exact p
theorem lc_str {z : Str} (Pv : List Nat → Hp → Prop) (h0 : Pv [] (upd H Da (.lst [])))
    (hs : ∀ (pre : List Nat) (c : Nat) (post : List Nat) H, z.cps.toList = pre ++ c :: post → Pv pre H → g (.str ⟨#[c]⟩) (wipe σ vs) H fun σ2 H2 => wipe σ2 vs = wipe σ vs ∧ tt σ2 H2 fun b H3 =>
      if b = true then te σ2 H3 fun y H4 => ∃ acc, H4 Da = some (.lst acc) ∧ acc.length < sizeLine ∧ Pv (pre ++ [c]) (upd H4 Da (.lst (acc ++ [y]))) else Pv (pre ++ [c]) H3)
    (hd : ∀ H, Pv z.cps.toList H → Q (.ref Da) H) : LcB (Its z) g tt te vs σ Da H Q := by
  refine lc_it walk_str (fun i => Pv (z.cps.toList.take i)) (by simpa using h0) (fun _ _ _ _ => trivial) (fun i x H H' hi p y => ?_) (fun H p => ?_)
  · obtain ⟨e, c, hc, hx⟩ := y
    subst e hx
    have hc' : z.cps.toList[i]? = some c := by simpa using hc
    have e1 : z.cps.toList = z.cps.toList.take i ++ c :: z.cps.toList.drop (i + 1) := by
      have e2 := (List.getElem?_eq_some_iff.mp hc').2
      rw [← e2, List.getElem_cons_drop, List.take_append_drop]
    have e3 : z.cps.toList.take (i + 1) = z.cps.toList.take i ++ [c] := by
      rw [List.take_add_one, hc']; rfl
    rw [e3]
    exact hs _ c _ _ e1 p
  · refine hd H ?_
    have e : z.cps.toList.take z.cps.size = z.cps.toList := List.take_of_length_le (by simp)
    rw [← e]
    exact p
theorem for_rng {lo : Int} {n : Nat} (Pv : Nat → L2.St → Hp → Prop) (h0 : Pv 0 σ H)
    (hs : ∀ i σ H, i < n → Pv i σ H → g (.int (lo + i)) σ H fun σ2 H2 => t { D with nx := Pv (i + 1), ct := Pv (i + 1), bk := D.nx } σ2 H2) (hd : ∀ σ H, Pv n σ H → D.nx σ H) : ForB (Itr lo n) g t D σ H := for_range Pv h0 hs hd
theorem lc_rng {lo : Int} {n : Nat} (Pv : Nat → Hp → Prop) (h0 : Pv 0 (upd H Da (.lst [])))
    (hs : ∀ i H, i < n → Pv i H → g (.int (lo + i)) (wipe σ vs) H 
      fun σ2 H2 => wipe σ2 vs = wipe σ vs ∧ tt σ2 H2 fun b H3 =>
      if b = true then te σ2 H3 fun y H4 => ∃ acc, H4 Da = some (.lst acc) ∧ acc.length < sizeLine ∧ Pv (i + 1) (upd H4 Da (.lst (acc ++ [y]))) else Pv (i + 1) H3) (hd : ∀ H, Pv n H → Q (.ref Da) H) :
    LcB (Itr lo n) g tt te vs σ Da H Q := lc_range Pv h0 hs hd
/-- for x in xs, a list: Pv by what was taken -/
theorem for_lst {a : Addr} {xs : List V} (Pv : List V → L2.St → Hp → Prop) (h0 : Pv [] σ H) (hl : ∀ pre σ H, Pv pre σ H → SqL K H a xs)
    (hs : ∀ (pre : List V) (x : V) (post : List V) σ H, xs = pre ++ x :: post → Pv pre σ H → g x σ H fun σ2 H2 => t { D with nx := Pv (pre ++ [x]), ct := Pv (pre ++ [x]), bk := D.nx } σ2 H2)
    (hd : ∀ σ H, Pv xs σ H → D.nx σ H) : ForB (Itl K a) g t D σ H := by
  refine for_list (xs := xs) (fun i => Pv (xs.take i)) (by simpa using h0) (fun i σ H _ p => hl _ σ H p) (fun i x σ H hx p => ?_) (fun σ H p => ?_)
  · have e1 : xs = xs.take i ++ x :: xs.drop (i + 1) := by
      have e2 := (List.getElem?_eq_some_iff.mp hx).2
      rw [← e2, List.getElem_cons_drop, List.take_append_drop]
    have e3 : xs.take (i + 1) = xs.take i ++ [x] := by
      rw [List.take_add_one, hx]; rfl
    rw [e3]
    exact hs _ x _ σ H e1 p
  · rw [List.take_length] at p
    exact hd σ H p
theorem lc_lst {a : Addr} {xs : List V} (Pv : List V → Hp → Prop) (h0 : Pv [] (upd H Da (.lst []))) (hl : ∀ pre H, Pv pre H → SqL K H a xs)
    (hs : ∀ (pre : List V) (x : V) (post : List V) H, xs = pre ++ x :: post → Pv pre H → g x (wipe σ vs) H fun σ2 H2 => wipe σ2 vs = wipe σ vs ∧ tt σ2 H2 fun b H3 =>
      if b = true then te σ2 H3 fun y H4 => ∃ acc, H4 Da = some (.lst acc) ∧ acc.length < sizeLine ∧ Pv (pre ++ [x]) (upd H4 Da (.lst (acc ++ [y]))) else Pv (pre ++ [x]) H3)
    (hd : ∀ H, Pv xs H → Q (.ref Da) H) : LcB (Itl K a) g tt te vs σ Da H Q := by
  refine lc_list (xs := xs) (fun i => Pv (xs.take i)) (by simpa using h0) (fun i H _ p => hl _ H p) (fun i x H hx p => ?_) (fun H p => ?_)
  · have e1 : xs = xs.take i ++ x :: xs.drop (i + 1) := by
      have e2 := (List.getElem?_eq_some_iff.mp hx).2
      rw [← e2, List.getElem_cons_drop, List.take_append_drop]
    have e3 : xs.take (i + 1) = xs.take i ++ [x] := by
      rw [List.take_add_one, hx]; rfl
    rw [e3]
    exact hs _ x _ H e1 p
  · rw [List.take_length] at p
    exact hd H p
theorem for_tpl {a : Addr} {xs : List V} (Pv : List V → L2.St → Hp → Prop) (h0 : Pv [] σ H) (hl : ∀ pre σ H, Pv pre σ H → SqT K H a xs)
    (hs : ∀ (pre : List V) (x : V) (post : List V) σ H, xs = pre ++ x :: post → Pv pre σ H → g x σ H fun σ2 H2 => t { D with nx := Pv (pre ++ [x]), ct := Pv (pre ++ [x]), bk := D.nx } σ2 H2)
    (hd : ∀ σ H, Pv xs σ H → D.nx σ H) : ForB (Itt K a) g t D σ H := by
  refine for_tup (xs := xs) (fun i => Pv (xs.take i)) (by simpa using h0) (fun i σ H _ p => hl _ σ H p) (fun i x σ H hx p => ?_) (fun σ H p => ?_)
  · have e1 : xs = xs.take i ++ x :: xs.drop (i + 1) := by
      have e2 := (List.getElem?_eq_some_iff.mp hx).2
      rw [← e2, List.getElem_cons_drop, List.take_append_drop]
    have e3 : xs.take (i + 1) = xs.take i ++ [x] := by
      rw [List.take_add_one, hx]; rfl
    rw [e3]
    exact hs _ x _ σ H e1 p
  · rw [List.take_length] at p
    exact hd σ H p
end

/-! ### readings, one lemma a head -/
section
variable {σ : L2.St} {H : Hp} {Q : VK} {D : Ends} {te ta tb tx : TE} {tt tu : TT} {t u : TS} {as : TA} {r r' : R2} {x y v : V} {K : PySem.W.Frag}
theorem e_var {i : Nat} (h : σ[i]? = some (some v)) (q : Q v H) : tVar i σ H Q := ⟨v, h, q⟩
theorem e_c (q : Q v H) : tC v σ H Q := q
theorem e_op (q : ta σ H fun x H1 => tb σ H1 fun y H2 => r x y H2 Q) : tOp r ta tb σ H Q := q
theorem e_un {r : V → Hp → VK → Prop} (q : ta σ H fun x H1 => r x H1 Q) : tUn r ta σ H Q := q
theorem e_I0 {g : Int → Int → V} {i j : Int} (q : Q (g i j) H) : rI0 g (.int i) (.int j) H Q := ⟨i, j, rfl, rfl, q⟩
theorem e_I {C : Int → Int → Prop} {g : Int → Int → V} {i j : Int} (c : C i j) (q : Q (g i j) H) : rI C g (.int i) (.int j) H Q := ⟨i, j, rfl, rfl, c, q⟩
theorem e_U {g : Int → V} {i : Int} (q : Q (g i) H) : rU g (.int i) H Q := ⟨i, rfl, q⟩
theorem e_eq (s : scal x y = true) (q : Q (.bl (decide (x = y))) H) : rEq x y H Q := ⟨s, q⟩
theorem e_ne (s : scal x y = true) (q : Q (.bl (!decide (x = y))) H) : rNe x y H Q := ⟨s, q⟩
theorem e_eqI {i j : Int} (q : Q (.bl (decide (i = j))) H) : rEq (.int i) (.int j) H Q := ⟨rfl, by
  have e : decide (V.int i = V.int j) = decide (i = j) := by
    by_cases h : i = j
    · rw [h]; simp
    · rw [decide_eq_false h, decide_eq_false (fun z => h (V.int.inj z))]
  rw [e]; exact q⟩
theorem e_neI {i j : Int} (q : Q (.bl (!decide (i = j))) H) : rNe (.int i) (.int j) H Q := ⟨rfl, by
  have e : decide (V.int i = V.int j) = decide (i = j) := by
    by_cases h : i = j
    · rw [h]; simp
    · rw [decide_eq_false h, decide_eq_false (fun z => h (V.int.inj z))]
  rw [e]; exact q⟩
theorem e_eqS {i j : Str} (q : Q (.bl (decide (i = j))) H) : rEq (.str i) (.str j) H Q := ⟨rfl, by
  have e : decide (V.str i = V.str j) = decide (i = j) := by
    by_cases h : i = j
    · rw [h]; simp
    · rw [decide_eq_false h, decide_eq_false (fun z => h (V.str.inj z))]
  rw [e]; exact q⟩
theorem e_neS {i j : Str} (q : Q (.bl (!decide (i = j))) H) : rNe (.str i) (.str j) H Q := ⟨rfl, by
  have e : decide (V.str i = V.str j) = decide (i = j) := by
    by_cases h : i = j
    · rw [h]; simp
    · rw [decide_eq_false h, decide_eq_false (fun z => h (V.str.inj z))]
  rw [e]; exact q⟩
theorem e_eqB {i j : Bool} (q : Q (.bl (i == j)) H) : rEq (.bl i) (.bl j) H Q := ⟨rfl, by
  have e : decide (V.bl i = V.bl j) = (i == j) := by cases i <;> cases j <;> rfl
  rw [e]; exact q⟩
theorem e_neB {i j : Bool} (q : Q (.bl (i != j)) H) : rNe (.bl i) (.bl j) H Q := ⟨rfl, by
  have e : (!decide (V.bl i = V.bl j)) = (i != j) := by cases i <;> cases j <;> rfl
  rw [e]; exact q⟩
theorem e_test {Q : Bool → Hp → Prop} (q : te σ H fun x H' => ∃ k, x = .bl k ∧ Q k H') : tTest te σ H Q := q
theorem e_B {Q : Bool → Hp → Prop} (q : te σ H fun x H' => ∃ k, x = .bl k ∧ Q k H') : tB te σ H Q := q
theorem e_ex {b : Bool} {P : Bool → Prop} (q : P b) : ∃ k, V.bl b = .bl k ∧ P k := ⟨b, rfl, q⟩
theorem e_and {Q : Bool → Hp → Prop} (q : tt σ H fun c H1 => if c = true then tu σ H1 Q else Q false H1) : tAnd tt tu σ H Q := q
theorem e_or {Q : Bool → Hp → Prop} (q : tt σ H fun c H1 => if c = true then Q true H1 else tu σ H1 Q) : tOr tt tu σ H Q := q
theorem e_not {Q : Bool → Hp → Prop} (q : tt σ H fun c H1 => Q (!c) H1) : tNot tt σ H Q := q
theorem e_yes {Q : Bool → Hp → Prop} (q : Q true H) : tYes σ H Q := q
theorem e_andV (q : ta σ H fun x H1 => ∃ c, x = .bl c ∧ if c = true then tb σ H1 Q else Q (.bl false) H1) : tAndV ta tb σ H Q := q
theorem e_orV (q : ta σ H fun x H1 => ∃ c, x = .bl c ∧ if c = true then Q (.bl true) H1 else tb σ H1 Q) : tOrV ta tb σ H Q := q
theorem e_notV (q : ta σ H fun x H1 => ∃ c, x = .bl c ∧ Q (.bl (!c)) H1) : tNotV ta σ H Q := q
theorem e_if (q : tt σ H fun c H1 => if c = true then ta σ H1 Q else tb σ H1 Q) : tIf tt ta tb σ H Q := q
theorem e_chain (q : ta σ H fun x H1 => tb σ H1 fun y H2 => r x y H2 fun z H3 => ∃ k, z = .bl k ∧ (if k = true then tx σ H3 fun w' H4 => r' y w' H4 Q else Q (.bl false) H3)) : tChain r r' ta tb tx σ H Q := q
theorem e_seq (q : t { D with nx := u D } σ H) : tSeq t u D σ H := q
theorem e_next (q : D.nx σ H) : tNext D σ H := q
theorem e_break (q : D.bk σ H) : tBreak D σ H := q
theorem e_cont (q : D.ct σ H) : tCont D σ H := q
theorem e_drop (q : te σ H fun _ H1 => D.nx σ H1) : tDrop te D σ H := q
theorem e_ret (q : te σ H D.rt) : tRet te D σ H := q
theorem e_retN (q : D.rt .non H) : tRetN D σ H := q
theorem e_ifS (q : tt σ H fun b H1 => if b = true then t D σ H1 else u D σ H1) : tIfS tt t u D σ H := q
theorem e_asg {g : TG} (q : te σ H fun x H1 => g x σ H1 D.nx) : tAsg te g D σ H := q
theorem e_name {i : Nat} {Q : L2.St → Hp → Prop} (q : Q (σ.set i (some v)) H) : gName i v σ H Q := q
theorem e_sub {to ti : TE} {st : TSet} {Q : L2.St → Hp → Prop} (q : to σ H fun o H1 => ti σ H1 fun i H2 => st o i v H2 fun H3 => Q σ H3) : gSub to ti st v σ H Q := q
theorem e_aug {i : Nat} {ti : TIp} (h : σ[i]? = some (some x)) (q : te σ H fun y H1 => ti x y H1 fun z H2 => D.nx (σ.set i (some z)) H2) : tAug i te ti D σ H := ⟨x, h, q⟩
theorem e_nil {Q : List V → Hp → Prop} (q : Q [] H) : tNil σ H Q := q
theorem e_cons {Q : List V → Hp → Prop} (q : ta σ H fun x H1 => as σ H1 fun xs H2 => Q (x :: xs) H2) : tCons ta as σ H Q := q
theorem e_call {sp : Sp} {dvs : List V} {E : XK} (q : as σ H fun vs H1 => sp (vs ++ dvs) H1 Q E) : tCall sp dvs E as σ H Q := q
theorem e_CB {r : List V → Hp → VK → Prop} (q : as σ H fun vs H1 => r vs H1 Q) : tCB r as σ H Q := q
theorem e_tup (q : as σ H fun xs H1 => xs.length ≤ sizeLine ∧ ∀ p, H1 p = none → Q (.ref p) (upd H1 p (.tup xs))) : tTup as σ H Q := q
theorem e_lst (q : as σ H fun xs H1 => xs.length ≤ sizeLine ∧ ∀ p, H1 p = none → Q (.ref p) (upd H1 p (.lst xs))) : tLst as σ H Q := q
theorem e_sl {r : V → Option Int → Option Int → Hp → VK → Prop} {tl th : TO} (q : te σ H fun x H1 => tl σ H1 fun l H2 => th σ H2 fun u H3 => r x l u H3 Q) : tSl r te tl th σ H Q := q
theorem e_noP {Q : Option Int → Hp → Prop} (q : Q none H) : tNoPart σ H Q := q
theorem e_part {Q : Option Int → Hp → Prop} (q : te σ H fun x H1 => ∃ i, x = .int i ∧ Q (some i) H1) : tPart te σ H Q := q
theorem e_exI {i : Int} {P : Int → Prop} (q : P i) : ∃ k, V.int i = .int k ∧ P k := ⟨i, rfl, q⟩
theorem e_bm {T : String} {r : V → List V → Hp → VK → Prop} {to : TE} (q : to σ H fun x H1 => tyV K T x H1 ∧ as σ H1 fun xs H2 => r x xs H2 Q) : tBM K T r to as σ H Q := q
theorem e_for {wi : TI} {g : TG} (q : wi σ H fun J H1 => ForB J g t D σ H1) : tFor wi g t D σ H := q
theorem e_lc {wi : TI} {g : TG} {vs : List Nat} (q : wi σ H fun J H1 => ∀ D, H1 D = none → LcB J g tt te vs σ D H1 Q) : tLc wi g tt te vs σ H Q := q
theorem e_exS {i : Str} {P : Str → Prop} (q : P i) : ∃ k, V.str i = .str k ∧ P k := ⟨i, rfl, q⟩
theorem e_exR {a : Addr} {xs : List V} {P : Addr → Prop} (h : SqL K H a xs) (q : P a) : ∃ k, V.ref a = .ref k ∧ (∃ xs, SqL K H k xs) ∧ P k := ⟨a, rfl, ⟨xs, h⟩, q⟩
theorem e_exRT {a : Addr} {xs : List V} {P : Addr → Prop} (h : SqT K H a xs) (q : P a) : ∃ k, V.ref a = .ref k ∧ (∃ xs, SqT K H k xs) ∧ P k := ⟨a, rfl, ⟨xs, h⟩, q⟩
theorem e_rng1 {n : Int} {P : Int → Prop} (h1 : -(2 ^ 62) ≤ n) (h2 : n < 2 ^ 62) (q : P n) : ∃ j : Int, [V.int n] = [.int j] ∧ -(2 ^ 62) ≤ j ∧ j < 2 ^ 62 ∧ P j := ⟨n, rfl, h1, h2, q⟩
theorem e_rng2 {m n : Int} {P : Int → Int → Prop} (h : -(2 ^ 62) ≤ m ∧ m < 2 ^ 62 ∧ -(2 ^ 62) ≤ n ∧ n < 2 ^ 62) (q : P m n) : ∃ i j : Int, [V.int m, V.int n] = [.int i, .int j] ∧ (-(2 ^ 62) ≤ i ∧ i < 2 ^ 62 ∧ -(2 ^ 62) ≤ j ∧ j < 2 ^ 62) ∧ P i j := ⟨m, n, rfl, h, q⟩
theorem e_m0 {r : V → List V → Hp → VK → Prop} {to : TE} (q : to σ H fun x H1 => (∃ a, x = .str a) ∧ r x [] H1 Q) : tM0 r to σ H Q := q
theorem e_m1 {r : V → List V → Hp → VK → Prop} {to : TE} (q : to σ H fun x H1 => (∃ a, x = .str a) ∧ te σ H1 fun y H2 => r x [y] H2 Q) : tM1 r to te σ H Q := q
theorem e_slS {z : Str} {lo hi : Option Int} (h : z.length ≤ sizeLine) (q : Q (.str (cutS z lo hi)) H) : rSlS (.str z) lo hi H Q := ⟨z, rfl, h, q⟩
theorem e_iList {R : It → Hp → Prop} {tl : TE} (q : tl σ H fun x H1 => ∃ a, x = .ref a ∧ (∃ xs, SqL K H1 a xs) ∧ R (Itl K a) H1) : iList K tl σ H R := q
theorem e_iTup {R : It → Hp → Prop} {tl : TE} (q : tl σ H fun x H1 => ∃ a, x = .ref a ∧ (∃ xs, SqT K H1 a xs) ∧ R (Itt K a) H1) : iTup K tl σ H R := q
theorem e_iStr {R : It → Hp → Prop} {tl : TE} (q : tl σ H fun v H1 => ∃ x, v = .str x ∧ R (Its x) H1) : iStr tl σ H R := q
theorem e_iRng1 {R : It → Hp → Prop} (q : as σ H fun vs H1 => ∃ j : Int, vs = [.int j] ∧ -(2 ^ 62) ≤ j ∧ j < 2 ^ 62 ∧ R (Itr 0 j.toNat) H1) : iRng1 as σ H R := q
theorem e_iRng2 {R : It → Hp → Prop} (q : as σ H fun vs H1 => ∃ i j : Int, vs = [.int i, .int j] ∧ (-(2 ^ 62) ≤ i ∧ i < 2 ^ 62 ∧ -(2 ^ 62) ≤ j ∧ j < 2 ^ 62) ∧ R (Itr i (j - i).toNat) H1) : iRng2 as σ H R := q
theorem e_ixL {p : Addr} {xs : List V} {i : Int} (h : SqL K H p xs) (ha : atI xs i = some v) (q : Q v H) : rIxL K (.ref p) (.int i) H Q := ⟨p, xs, i, v, rfl, rfl, h, ha, q⟩
theorem e_ixT {p : Addr} {xs : List V} {i : Int} (h : SqT K H p xs) (ha : atI xs i = some v) (q : Q v H) : rIxT K (.ref p) (.int i) H Q := ⟨p, xs, i, v, rfl, rfl, h, ha, q⟩
theorem e_ixS {z : Str} {i : Int} {c : Nat} (hz : z.length ≤ sizeLine) (ha : atI z.cps.toList i = some c) (q : Q (.str ⟨#[c]⟩) H) : rIxS (.str z) (.int i) H Q := ⟨z, i, c, rfl, rfl, hz, ha, q⟩
theorem e_len {p : Addr} {ys : List V} (h : SqL K H p ys) (q : Q (.int ys.length) H) : ∃ p' ys', [V.ref p] = [V.ref p'] ∧ (SqL K H p' ys' ∨ SqT K H p' ys') ∧ Q (.int (ys'.length : Nat)) H := ⟨p, ys, rfl, .inl h, q⟩
theorem e_lenT {p : Addr} {ys : List V} (h : SqT K H p ys) (q : Q (.int ys.length) H) : ∃ p' ys', [V.ref p] = [V.ref p'] ∧ (SqL K H p' ys' ∨ SqT K H p' ys') ∧ Q (.int (ys'.length : Nat)) H := ⟨p, ys, rfl, .inr h, q⟩
theorem e_lenS {z : Str} (h : z.length ≤ sizeLine) (q : Q (.int z.length) H) : ∃ z', [V.str z] = [V.str z'] ∧ z'.length ≤ sizeLine ∧ Q (.int (z'.length : Nat)) H := ⟨z, rfl, h, q⟩
theorem e_int1 {i : Int} (q : Q (.int i) H) : (∃ i', [V.int i] = [V.int i'] ∧ Q (.int i') H) ∨ ∃ k, [V.int i] = [V.bl k] ∧ Q (.int (if k = true then 1 else 0)) H := .inl ⟨i, rfl, q⟩
theorem e_setL {p : Addr} {xs : List V} {k : Int} {j : Nat} {Q : Hp → Prop} (h : H p = some (.lst xs)) (hj : ixN xs.length k = some j) (q : Q (upd H p (.lst (xs.set j v)))) : rSetL (.ref p) (.int k) v H Q := ⟨p, xs, k, j, rfl, rfl, h, hj, q⟩
theorem e_cut {Mid : L2.St → Hp → Prop} (h1 : t { D with nx := Mid } σ H) (h2 : ∀ σ' H', Mid σ' H' → u D σ' H') : C8.tCut t u D σ H := ⟨Mid, h1, h2⟩
/-- a test that is known, or open -/
theorem i_T {A B : Prop} (h : A) : if true = true then A else B := by rw [if_pos rfl]; exact h
theorem i_F {A B : Prop} (h : B) : if false = true then A else B := by rw [if_neg Bool.false_ne_true]; exact h
theorem i_d {p : Prop} [Decidable p] {A B : Prop} (h1 : p → A) (h2 : ¬ p → B) : if decide p = true then A else B := by
  by_cases h : p
  · rw [decide_eq_true h]; exact i_T (h1 h)
  · rw [decide_eq_false h]; exact i_F (h2 h)
theorem i_nd {p : Prop} [Decidable p] {A B : Prop} (h1 : ¬ p → A) (h2 : p → B) : if (!decide p) = true then A else B := by
  by_cases h : p
  · rw [decide_eq_true h]; exact i_F (h2 h)
  · rw [decide_eq_false h]; exact i_T (h1 h)
theorem i_b {b : Bool} {A B : Prop} (h1 : b = true → A) (h2 : b = false → B) : if b = true then A else B := by
  cases b
  · exact i_F (h2 rfl)
  · exact i_T (h1 rfl)
theorem i_nself {b : Bool} {A B : Prop} (h : B) : if (!(b == b)) = true then A else B := by
  rw [beq_self_eq_true]; exact i_F h
theorem i_self {α : Type} [DecidableEq α] {x : α} {A B : Prop} (h : A) : if decide (x = x) = true then A else B := by
  rw [decide_eq_true rfl]; exact i_T h
theorem i_neself {α : Type} [DecidableEq α] {x : α} {A B : Prop} (h : B) : if (!decide (x = x)) = true then A else B := by
  rw [decide_eq_true rfl]; exact i_F h
theorem i_nb {b : Bool} {A B : Prop} (h1 : b = false → A) (h2 : b = true → B) : if (!b) = true then A else B := by
  cases b
  · exact i_T (h1 rfl)
  · exact i_F (h2 rfl)
end

section
variable {K : PySem.W.Frag} {H : Hp} {Q : VK}
theorem isi_ty {x : V} {t n : String} {b : Bool} (ty : TyX K H x (.type t)) (e : PySem.W.kitOne K (.type t) (.type n) = some b) (q : Q (.bl b) H) : rIsi K [x, .ty n] H Q := ⟨x, .ty n, _, _, b, rfl, .ty n, ty, e, q⟩
theorem isi_bb {x : Bool} (q : Q (.bl true) H) : rIsi K [.bl x, .ty "bool"] H Q := isi_ty (.base (.bl x)) (kit_ty (by decide +kernel)) q
theorem isi_ib {x : Int} (q : Q (.bl false) H) : rIsi K [.int x, .ty "bool"] H Q := isi_ty (.base (.int x)) (kit_ty (by decide +kernel)) q
theorem isi_bi {x : Bool} (q : Q (.bl true) H) : rIsi K [.bl x, .ty "int"] H Q := isi_ty (.base (.bl x)) (kit_ty (by decide +kernel)) q
theorem isi_ii {x : Int} (q : Q (.bl true) H) : rIsi K [.int x, .ty "int"] H Q := isi_ty (.base (.int x)) (kit_ty (by decide +kernel)) q
theorem isi_si {x : Str} (q : Q (.bl false) H) : rIsi K [.str x, .ty "int"] H Q := isi_ty (.base (.str x)) (kit_ty (by decide +kernel)) q
theorem isi_ni (q : Q (.bl false) H) : rIsi K [.non, .ty "int"] H Q := isi_ty (.base .non) (kit_ty (by decide +kernel)) q
theorem isi_tt {p : Addr} {xs : List V} (h : H p = some (.tup xs)) (q : Q (.bl true) H) : rIsi K [.ref p, .ty "tuple"] H Q := isi_ty (.base (.tup h)) (kit_ty (by decide +kernel)) q
theorem isi_ll {p : Addr} {xs : List V} (h : H p = some (.lst xs)) (q : Q (.bl true) H) : rIsi K [.ref p, .ty "list"] H Q := isi_ty (.base (.lst h)) (kit_ty (by decide +kernel)) q
theorem isi_lt {p : Addr} {xs : List V} (h : H p = some (.lst xs)) (q : Q (.bl false) H) : rIsi K [.ref p, .ty "tuple"] H Q := isi_ty (.base (.lst h)) (kit_ty (by decide +kernel)) q
end
/-! ### defs that are called by their names -/
structure Cal (P : Program) (w : World) (K : PySem.W.Frag) (mg : Str → Option Value) (base : Heap) (k : Nat) (x : Str) (sp : Sp) : Prop where
  ex : ∃ (f : Addr) (fd : FuncData) (ps : List Str), FnOk P w K mg base CX0 k f fd ps sp ∧ mg x = some (.ref f) ∧ PySem.W.keepIn K (.ref f) = true ∧ Binds K fd ps []
theorem pe_c {X : Cx} {k j : Nat} {x : Str} {sp : Sp} {p pos : Pos} {e : Expr} {es : List Expr} {t : TA} (c : Cal X.prog X.w X.K X.mg X.base k x sp) (hr : Room j X.A) (hk : k ≤ j) (hg : Gl X x) (ha : PA X (e :: es) t)
    (hdb : (x == ("__debug__" : Str)) = false := by decide) 
    (he : starEach (e :: es) X.env = (false, eval e X.env) :: starEach es X.env := by rfl) 
    (hpl : (backTo pos (starEach es X.env)).any (·.1) = false := by rfl) :
    PE X (.Call (.Name x p) (e :: es) [] pos) (tCall sp [] E0 t) := by
  obtain ⟨f, fd, ps, F, hm, kp, b⟩ := c.ex
  exact pe_call F (hr.mono hk) hg hm kp b .nil pass0 ha hdb he hpl
theorem pe_c0 {X : Cx} {k j : Nat} {x : Str} {sp : Sp} {p pos : Pos} (c : Cal X.prog X.w X.K X.mg X.base k x sp) (hr : Room j X.A) (hk : k ≤ j) (hg : Gl X x)
    (hdb : (x == ("__debug__" : Str)) = false := by decide) :
    PE X (.Call (.Name x p) [] [] pos) (tCall sp [] E0 tNil) := by
  obtain ⟨f, fd, ps, F, hm, kp, b⟩ := c.ex
  exact pe_call0 F (hr.mono hk) hg hm kp b .nil pass0 hdb

/-- promises by arity -/
abbrev sp0 (R : Hp → VK → Prop) : Sp := fun vs H Q _ => vs = [] ∧ R H Q
abbrev sp1 (R : V → Hp → VK → Prop) : Sp := fun vs H Q _ => ∃ a, vs = [a] ∧ R a H Q
abbrev sp2 (R : V → V → Hp → VK → Prop) : Sp := fun vs H Q _ => ∃ a b, vs = [a, b] ∧ R a b H Q
abbrev sp3 (R : V → V → V → Hp → VK → Prop) : Sp := fun vs H Q _ => ∃ a b c, vs = [a, b, c] ∧ R a b c H Q
abbrev sp4 (R : V → V → V → V → Hp → VK → Prop) : Sp := fun vs H Q _ => ∃ a b c d, vs = [a, b, c, d] ∧ R a b c d H Q


theorem sz_of {n : Nat} (h : n ≤ 1000000) : n ≤ sizeLine := Nat.le_trans h (by decide)
/-! ### heaps: all but one address as it was -/
def Kp (st : Addr) (H H' : Hp) : Prop := ∀ b o, b ≠ st → H b = some o → H' b = some o
theorem Kp.refl (st : Addr) (H : Hp) : Kp st H H := fun _ _ _ h => h
theorem Kp.trans {st : Addr} {H H1 H2 : Hp} (a : Kp st H H1) (b : Kp st H1 H2) : Kp st H H2 := fun c o n h => b c o n (a c o n h)
theorem Kp.of {st : Addr} {H H' : Hp} (a : Same H H') : Kp st H H' := fun c o _ h => a c o h
theorem same_new {H : Hp} {p : Addr} {o : HO} (h : H p = none) : Same H (upd H p o) := fun b x e => by
  rw [upd_ne (ne_of_none e h)]
  exact e
theorem Kp.new {st p : Addr} {H : Hp} {o : HO} (h : H p = none) : Kp st H (upd H p o) := Kp.of (same_new h)
/-- an object that was not there at first may change -/
theorem Kp.mut {st p : Addr} {H H' : Hp} {o : HO} (a : Kp st H H') (h : H p = none) : Kp st H (upd H' p o) := fun b x n e => by
  rw [upd_ne (ne_of_none e h)]
  exact a b x n e
theorem Kp.put {st : Addr} {H H' : Hp} {o : HO} (a : Kp st H H') : Kp st H (upd H' st o) := fun b x n e => by
  rw [upd_ne n]
  exact a b x n e
theorem Same.mut {p : Addr} {H H' : Hp} {o : HO} (a : Same H H') (h : H p = none) : Same H (upd H' p o) := fun b x e => by
  rw [upd_ne (ne_of_none e h)]
  exact a b x e
theorem Kp.free {st p : Addr} {H H' : Hp} (a : Kp st H H') (hs : ∃ o, H' st = some o) (h : H' p = none) : H p = none := by
  cases q : H p with
  | none => rfl
  | some o =>
    by_cases e : p = st
    · obtain ⟨o', h'⟩ := hs
      rw [e, h'] at h
      cases h
    · rw [a p o e q] at h
      cases h

/-- the state of the draws and the script: two ints at st, the script at sc whatever is drawn -/
structure Dr (K : PySem.W.Frag) (st sc : Addr) (ns : List Int) (H : Hp) : Prop where
  s : ∃ a b : Int, 0 ≤ a ∧ 0 ≤ b ∧ H st = some (.lst [.int a, .int b])
  sc : ∀ H', Kp st H H' → SqL K H' sc (ns.map V.int)
  len : ns.length ≤ 63
theorem Dr.kp {K : PySem.W.Frag} {st sc : Addr} {ns : List Int} {H H' : Hp} (d : Dr K st sc ns H) (k : Kp st H H') (s : ∃ a b : Int, 0 ≤ a ∧ 0 ≤ b ∧ H' st = some (.lst [.int a, .int b])) : Dr K st sc ns H' :=
  ⟨s, fun H2 k2 => d.sc H2 (k.trans k2), d.len⟩
theorem Dr.same {K : PySem.W.Frag} {st sc : Addr} {ns : List Int} {H H' : Hp} (d : Dr K st sc ns H) (k : Same H H') : Dr K st sc ns H' := by
  obtain ⟨a, b, h1, h2, h3⟩ := d.s
  exact d.kp (Kp.of k) ⟨a, b, h1, h2, k _ _ h3⟩
theorem Dr.seq {K : PySem.W.Frag} {st sc : Addr} {ns : List Int} {H : Hp} (d : Dr K st sc ns H) : SqL K H sc (ns.map V.int) := d.sc H (Kp.refl st H)
theorem sq_keep {K : PySem.W.Frag} {H H' : Hp} {a p : Addr} {xs : List V} (h : SqL K H a xs) (hp : H p = none) (k : Kp p H H') : SqL K H' a xs := by
  rcases h with (h | ⟨c9, h⟩) | h
  · exact .inl (.inl (k _ _ (ne_of_none h hp) h))
  · exact .inl (.inr ⟨c9, k _ _ (ne_of_none h hp) h⟩)
  · exact .inr h
theorem Dr.start {K : PySem.W.Frag} {st sc : Addr} {ns : List Int} {H : Hp} (h : SqL K H sc (ns.map V.int)) (hp : H st = none) (hl : ns.length ≤ 63) : Dr K st sc ns (upd H st (.lst [.int 0, .int 0])) :=
  ⟨⟨0, 0, by decide, by decide, upd_same⟩, fun H' k => sq_keep h hp fun b o n e => k b o n (by rw [upd_ne n]; exact e), hl⟩
theorem Dr.ne {K : PySem.W.Frag} {st sc p : Addr} {ns : List Int} {H : Hp} (d : Dr K st sc ns H) (h : H p = none) : p ≠ st := by
  obtain ⟨a, b, _, _, h3⟩ := d.s
  intro e
  rw [e, h3] at h
  cases h
theorem pick_int {l : List Int} {d : Int} (h0 : 0 ≤ d) (h1 : d < l.length) : ∃ n, n ∈ l ∧ atI (l.map V.int) d = some (.int n) := by
  have h : d.toNat < l.length := by omega
  exact ⟨l[d.toNat], List.getElem_mem h, at_of (j := d.toNat) (by omega) (by rw [List.getElem?_map, List.getElem?_eq_getElem h]; rfl)⟩
theorem pick_nat {l : List Nat} {d : Int} (h0 : 0 ≤ d) (h1 : d < l.length) : ∃ n, n ∈ l ∧ atI l d = some n := by
  have h : d.toNat < l.length := by omega
  obtain ⟨j, hj⟩ : ∃ j : Nat, d = (j : Int) := ⟨d.toNat, by omega⟩
  have h2 : j < l.length := by omega
  subst hj
  exact ⟨l[j], List.getElem_mem h2, atI_nat (List.getElem?_eq_getElem h2)⟩
theorem at_last {ns : List Int} (h : 0 < ns.length) : ∃ x, atI (ns.map V.int) (-1) = some (.int x) := by
  have e : ns = ns.dropLast ++ [ns.getLast (by intro q; rw [q] at h; cases h)] := (List.dropLast_concat_getLast _).symm
  rw [e, List.map_append]
  exact ⟨_, atI_last _ _⟩
theorem pick_sign {z : Str} {d : Int} (h0 : 0 ≤ d) (h1 : d < (z.length : Int)) : ∃ c, c ∈ z.cps.toList ∧ atI z.cps.toList d = some c :=
  pick_nat h0 (by simpa [Str.length] using h1)
theorem len_app (a b : Str) : (a ++ b).length = a.length + b.length := PySem.Str.length_append a b
/-- what a call behind which only the draws' state has changed hands on -/
def RDraw (K : PySem.W.Frag) (st sc : Addr) (ns : List Int) (H : Hp) (G : Hp → Prop) : Prop := Dr K st sc ns H ∧ ∀ H', Kp st H H' → Dr K st sc ns H' → G H'
theorem Dr.mut {K : PySem.W.Frag} {st sc p : Addr} {ns : List Int} {H0 H1 : Hp} {o : HO} (d0 : Dr K st sc ns H0) (d : Dr K st sc ns H1) (hp : H0 p = none) (k : Kp st H0 H1) : Dr K st sc ns (upd H1 p o) := by
  obtain ⟨a, b, h1, h2, h3⟩ := d.s
  exact d0.kp (k.mut hp) ⟨a, b, h1, h2, by rw [upd_ne (d0.ne hp).symm]; exact h3⟩
section
variable {K : PySem.W.Frag} {g : TG} {σ : L2.St} {te : TE} {vs : List Nat} {Q : VK} {Da st sc : Addr} {ns : List Int} {H0 : Hp}
/-- [e for k in range(..)], e with draws -/
theorem lc_dr {lo : Int} {n : Nat} (d0 : Dr K st sc ns H0) (hD : H0 Da = none) (hn : n ≤ 1000000) (Pe : V → Prop)
    (hs : ∀ (i : Nat) (H2 : Hp) (C : VK) (E : Hp → Prop), i < n → Kp st H0 H2 → Dr K st sc ns H2 → (∀ y H3, Kp st H2 H3 → Dr K st sc ns H3 → Pe y → C y H3) →
      g (.int (lo + i)) (wipe σ vs) H2 fun σ2 H2 => wipe σ2 vs = wipe σ vs ∧ tYes σ2 H2 fun b H3 => if b = true then te σ2 H3 C else E H3)
    (hd : ∀ (H : Hp) (xs : List V), Kp st H0 H → Dr K st sc ns H → H Da = some (.lst xs) → xs.length = n → (∀ x ∈ xs, Pe x) → Q (.ref Da) H) : LcB (Itr lo n) g tYes te vs σ Da H0 Q := by
  have nD := d0.ne hD
  refine lc_rng (fun i H2 => Kp st H0 H2 ∧ Dr K st sc ns H2 ∧ ∃ xs : List V, H2 Da = some (.lst xs) ∧ xs.length = i ∧ ∀ x ∈ xs, Pe x) ⟨Kp.new hD, d0.same (same_new hD), [], upd_same, rfl, fun _ hy => by cases hy⟩ (fun i H2 hi p => ?_) (fun H2 p => ?_)
  · obtain ⟨k4, d4, xs, e4, l4, o4⟩ := p
    refine hs i H2 _ _ hi k4 d4 fun y H3 k5 d5 hy => ?_
    refine ⟨xs, k5 _ _ nD e4, Nat.lt_of_le_of_lt (Nat.le_of_lt (by omega : xs.length < 1000001)) (by decide), (k4.trans k5).mut hD, Dr.mut d0 d5 hD (k4.trans k5), xs ++ [y], upd_same, by simp [l4], fun z hz => ?_⟩
    rcases List.mem_append.mp hz with h | h
    · exact o4 z h
    · rw [List.mem_singleton.mp h]; exact hy
  · obtain ⟨k4, d4, xs, e4, l4, o4⟩ := p
    exact hd H2 xs k4 d4 e4 l4 o4
/-- [e for k in range(..)], e a function of k -/
theorem lc_map_rng {lo : Int} {n : Nat} (hD : H0 Da = none) (hn : n ≤ 1000000) (f : Nat → V)
    (hs : ∀ (i : Nat) (H2 : Hp) (C : VK) (E : Hp → Prop), i < n → Same H0 H2 → (∀ H3, Same H2 H3 → C (f i) H3) →
      g (.int (lo + i)) (wipe σ vs) H2 fun σ2 H2 => wipe σ2 vs = wipe σ vs ∧ tYes σ2 H2 fun b H3 => if b = true then te σ2 H3 C else E H3)
    (hd : ∀ (H : Hp), Same H0 H → H Da = some (.lst ((List.range n).map f)) → Q (.ref Da) H) : LcB (Itr lo n) g tYes te vs σ Da H0 Q := by
  refine lc_rng (fun i H2 => Same H0 H2 ∧ H2 Da = some (.lst ((List.range i).map f))) ⟨same_new hD, upd_same⟩ (fun i H2 hi p => ?_) (fun H2 p => hd H2 p.1 p.2)
  obtain ⟨k4, e4⟩ := p
  refine hs i H2 _ _ hi k4 fun H3 k5 => ?_
  refine ⟨_, k5 _ _ e4, Nat.lt_of_le_of_lt (by simp; omega : _ ≤ 1000000) (by decide), Same.mut (k4.trans k5) hD, ?_⟩
  rw [upd_same, List.range_succ, List.map_append]
  rfl
/-- [e for x in xs], a list, e a function of x -/
theorem lc_map_lst {a : Addr} {xs : List V} (hS : SqL K H0 a xs) (hD : H0 Da = none) (hn : xs.length ≤ 1000000) (f : V → V)
    (hs : ∀ (x : V) (H2 : Hp) (C : VK) (E : Hp → Prop), x ∈ xs → Same H0 H2 → (∀ H3, Same H2 H3 → C (f x) H3) →
      g x (wipe σ vs) H2 fun σ2 H2 => wipe σ2 vs = wipe σ vs ∧ tYes σ2 H2 fun b H3 => if b = true then te σ2 H3 C else E H3)
    (hd : ∀ (H : Hp), Same H0 H → H Da = some (.lst (xs.map f)) → Q (.ref Da) H) : LcB (Itl K a) g tYes te vs σ Da H0 Q := by
  refine lc_lst (xs := xs) (fun pre H2 => Same H0 H2 ∧ H2 Da = some (.lst (pre.map f)) ∧ pre.length ≤ xs.length) ⟨same_new hD, upd_same, Nat.zero_le _⟩ (fun pre H2 p => p.1.seq hS) (fun pre x post H2 e p => ?_) (fun H2 p => hd H2 p.1 p.2.1)
  obtain ⟨k4, e4, l4⟩ := p
  refine hs x H2 _ _ (by rw [e]; simp) k4 fun H3 k5 => ?_
  refine ⟨_, k5 _ _ e4, Nat.lt_of_le_of_lt (by simp; omega : _ ≤ 1000000) (by decide), Same.mut (k4.trans k5) hD, ?_, by rw [e]; simp⟩
  rw [upd_same, List.map_append]
  rfl
end
/-- a draw: any number below the size -/
def spDraw (K : PySem.W.Frag) : Sp := sp3 fun a b c H Q => ∃ (st sc : Addr) (ns : List Int) (n : Int), a = .ref st ∧ b = .ref sc ∧ c = .int n ∧ Dr K st sc ns H ∧ 0 < n ∧ n < 2 ^ 60 ∧
  ∀ (d : Int) (H' : Hp), 0 ≤ d → d < n → Kp st H H' → Dr K st sc ns H' → Q (.int d) H'

abbrev FnP (K : PySem.W.Frag) (x : Str) (st : Stmt) (f : Addr) (fd : FuncData) : Prop :=
  FunD K x x (defArgs st) (defBody st) (defScope st) [] [] f fd
end Vf

namespace PySem
open Sem (wp)
theorem meets_enumerate_newTup (l : Addr) (row : Array Value) (ob : Obj) (cap : Nat) :
    Meets (Builtin.«enumerate.__new__» ⟨[.type "enumerate", .ref l], []⟩) (fun _ R s => (s.heap.get? l = some ob ∧ ob.cls = .type "tuple" ∧ ob.data = .seq row cap) ∧
      R (.ok (.ret (.ref (s.heap.push { cls := .type "tuple_iterator", data := .fields #[.ref l, .int 0 0] }).objs.size)))
        { s with heap := (s.heap.push { cls := .type "tuple_iterator", data := .fields #[.ref l, .int 0 0] }).push { cls := .type "enumerate", data := .fields #[.none, .bool false, .ref s.heap.objs.size, rawInt 0, .none, .none] } }) :=
  .of_wp fun prg w A R s h => by
    obtain ⟨hp, g, d, tk, os⟩ := s; obtain ⟨⟨hl9, wc, wd⟩, h⟩ := h
    have hsub := sub_enumerate
    have isT : Heap.IsTuple (Shared.heap ⟨hp, g, d, tk, os⟩) l row := ⟨_, hl9, wc, cap, wd⟩
    have q1 : ∀ {A' : Around} {E : Value → Shared → Prop} {Q : Value → Shared → Prop}, Q (.ref hp.objs.size) ⟨hp.push { cls := .type "tuple_iterator", data := .fields #[.ref l, .int 0 0] }, g, d, tk, os⟩ → wpAny (model prg w) A' (pyIter (.ref l)) Q E ⟨hp, g, d, tk, os⟩ :=
      fun q => wpAny_pyIter_tuple isT q
    wp_walk using q1
    refine wpAny_stack_any fun here => wpAny_pure ?_
    split
    · rename_i cls9 _ _ _ _ _
      cases (cls9 == Value.type "enumerate")
      · wp_walk using q1
        exact ⟨_, rfl, h⟩
      · wp_walk using q1
        exact ⟨_, rfl, h⟩
    · wp_walk using q1
      exact ⟨_, rfl, h⟩
section
variable {prg : Program} {w : World} {A : Around} {E : Value → Shared → Prop} {s : Shared}
/-- the object that enumerate makes, and the turning over a tuple -/
abbrev enOf (it : Addr) : Obj := { data := .fields #[.none, .bool false, .ref it, rawInt 0, .none, .none], cls := .type "enumerate" }
abbrev tiOf (l : Addr) : Obj := { data := .fields #[.ref l, .int 0 0], cls := .type "tuple_iterator" }
theorem call_enumerate_tup {l : Addr} {row : Array Value} {Q : Value → Shared → Prop} (isT : s.heap.IsTuple l row)
    (h : ∀ h', IsEnum h' (s.heap.objs.size + 1) s.heap.objs.size 0 .none → h'.IsTupleIter s.heap.objs.size l 0 → h'.objs.size = s.heap.objs.size + 2 →
      (∀ bb ob, s.heap.get? bb = some ob → h'.get? bb = some ob) → Q (.ref (s.heap.objs.size + 1)) { s with heap := h' }) :
    wpAny (model prg w) A
      (call (.type "enumerate") [.ref l]) Q E s := by
  obtain ⟨ob, hl9, wc, cap, wd⟩ := isT
  refine callType_new F.called_enumerate (by decide) (F.typeCall_enumerate_1 _)
    (F.newCall_enumerate_1 _) (fun it => F.args_object_init_2 it _) F.entry_enumerate_new (meets_enumerate_newTup l row ob cap) ⟨⟨hl9, wc, wd⟩, ?_⟩
  have szz : (s.heap.push (tiOf l)).objs.size = s.heap.objs.size + 1 := Heap.size_push ..
  show _ ∧ _
  rw [szz]
  have qe : IsEnum ((s.heap.push (tiOf l)).push
      (enOf s.heap.objs.size)) (s.heap.objs.size + 1) s.heap.objs.size 0 .none := by
    have := Heap.get?_push_size (s.heap.push (tiOf l))
      (o := enOf s.heap.objs.size) rfl
    rw [szz] at this; exact this
  refine ⟨⟨_, qe, rfl⟩, h _ qe ⟨_, Heap.get?_push_of_some _ (Heap.get?_push_size _ rfl), rfl, rfl⟩ (by rw [Heap.size_push, szz]) fun bb ob x => Heap.get?_push_of_some _ (Heap.get?_push_of_some _ x)⟩
theorem enumT_end {e it t : Addr} {i : Nat} {row : Array Value} {prev : Value} {Q : Option Value → Shared → Prop} (hh : A.handled = none)
    (qe : IsEnum s.heap e it i prev) (qi : s.heap.IsTupleIter it t i) (hl9 : s.heap.IsTuple t row) (ne2 : t ≠ it) (atx : row[i]? = none)
    (hQ : ∀ h', Heap.ExtBut it s.heap h' → Q none { s with heap := h' }) : wpAny (model prg w) A (pyNext (.ref e)) Q E s := by
  have ty1 : s.TypeIs (.ref e) "enumerate" := ⟨_, qe, rfl⟩
  unfold pyNext
  refine wpAny_bind (wpAny_attempt (wpAny_callSpecial?_slot (name := Str.ofString "__next__") ty1 F.slot_enumerate_next
    (wpAny_call_entry F.slot_enumerate_next ty1 F.entry_enumerate_next ?_ (F.args_enumerate_next_1 _))))
  show wpAny (model prg w) A.in1
    (field (.ref e) 2 >>= _) _ _ s
  refine wpAny_bind (wpAny_field qe rfl (x := .ref it) rfl ?_)
  refine wpAny_bind (wpAny_nextOf_tuple_end hh qi hl9 atx fun h' x he' hx' => ?_)
  obtain ⟨ob, wo, wc⟩ := hx'
  refine wpAny_bind (wpAny_isInstance (T := "StopIteration") (b := true) ⟨ob, wo, wc⟩ isSubtype_stop ?_)
  exact wpAny_pure (hQ _ he')
end
end PySem
namespace Vf
open PySem L2 PySem.Spec PyProof.Rows
/-- enumerate(t), t a tuple -/
def IteT (K : PySem.W.Frag) (a : Addr) : It :=
  ⟨fun i H => ∃ (xs : List V) (x : V), SqT K H a xs ∧ xs[i]? = some x, fun i H v H' => ∃ T x, v = .ref T ∧ H T = none ∧ H' = upd H T (.tup [.int (i : Nat), x]) ∧ ∀ xs, SqT K H a xs → xs[i]? = some x, fun i H => ∃ xs : List V, SqT K H a xs ∧ xs.length ≤ i⟩
theorem turn_enumT {P : Program} {w : World} {K : PySem.W.Frag} {elts : List Expr} {kk : Nat} {tpos : Pos} (a e it : Addr) :
    Turn P w K (.Tuple elts kk tpos) (IteT K a) [e, it] e (fun i h => (∃ prev, IsEnum h e it ((i : Nat) : Int) prev) ∧ h.IsTupleIter it a i ∧ e ≠ it) where
  mem := by simp
  obj := fun i h here bb mb => by
    obtain ⟨⟨prev, qe⟩, ⟨ob, wo, wc, wd⟩, _⟩ := here
    have e' : bb = e ∨ bb = it := by simpa using mb
    rcases e' with z | z
    · rw [z]; exact ⟨_, qe, fun v q => nomatch q⟩
    · rw [z]; exact ⟨ob, wo, fun v q => by rw [wd] at q; cases q⟩
  keep := fun i h h' here k => let ⟨⟨prev, qe⟩, hi9, qn⟩ := here; ⟨⟨prev, k e (by simp) _ qe⟩, hi9.at fun ob q => k it (by simp) ob q, qn⟩
  item := by
    intro X hP hw hK wc i pins s σ H E I fp here got
    subst hP hw hK
    obtain ⟨⟨prev, qe⟩, qi, qn⟩ := here
    obtain ⟨xs, x, wq, atx⟩ := got
    obtain ⟨cells, rds, p, szz⟩ := I.tuple wq
    obtain ⟨u, mu, rdu⟩ := rds.get atx
    have le1 : e < s.heap.objs.size := Heap.lt_size qe
    have le2 : it < s.heap.objs.size := by obtain ⟨_, q, _⟩ := qi; exact Heap.lt_size q
    have ne1 : a ≠ e := by
      intro z
      obtain ⟨ob, wo, hc2, _⟩ := p
      rw [z, qe] at wo
      cases wo
      injection hc2 with q
      exact absurd q (by decide)
    have ne2 : a ≠ it := by
      intro z
      obtain ⟨ob, wo, hc2, _⟩ := p
      obtain ⟨o2, ho2, hc3, _⟩ := qi
      rw [z, ho2] at wo
      cases wo
      rw [hc3] at hc2
      injection hc2 with q
      exact absurd q (by decide)
    have hlt : i < cells.toArray.size := by
      have := (List.getElem?_eq_some_iff.mp mu).1
      simpa using this
    refine wpAny_pyNext_enum_itemD (Draws.tuple (A := X.A.in1) (show X.A.in1.handled = none from I.ok.hd wc) it a ne2 cells.toArray) qe ⟨qi, p⟩ hlt qn (by simp [qn, Ne.symm ne1]) fun x' h' tk hP wo hst' ty1 hsz keep1 => ?_
    have ex : x' = u := by
      have q1 : cells[i]? = some x' := by simpa using hP
      exact Option.some.inj (q1.symm.trans mu)
    subst ex
    refine ⟨_, rfl, wpAny_letOwnedTupleGo_enum (s := { s with heap := h', toks := tk + 1 }) wo fun h'' he' only1 => ?_⟩
    have ty2 : h''.get? s.heap.objs.size = some { cls := .type "tuple", data := .seq #[.int i tk, x'] } := (only1.2 _ (Nat.ne_of_gt le1)).trans ty1
    have fresh1 : ObjOk X.prog X.w (upd H s.heap.objs.size (.tup [.int (i : Nat), x])) h'' s.heap.objs.size (.tup [.int (i : Nat), x]) :=
      ⟨by show 2 ≤ sizeLine; decide, [.int i tk, x'], .cons ⟨_, rfl⟩ (.cons rdu .nil), ⟨_, ty2, rfl, _, rfl⟩⟩
    have J1 : Inv X pins σ (upd H s.heap.objs.size (.tup [.int (i : Nat), x])) { s with heap := h'', toks := tk + 1 } :=
      I.turnedNew (ch := [e, it]) (fun bb ob mb q => (only1.2 bb (fun z => mb (by simp [z]))).trans (keep1 bb ob (fun z => mb (by simp [z])) (fun z => mb (by simp [z])) q)) fp (Nat.le_refl _) fresh1
    refine ⟨.ref s.heap.objs.size, _, J1, rfl, ⟨_, x, rfl, I.hok.fresh (Nat.le_refl _), rfl, fun ys hy => by rw [I.tuple_inj hy wq]; exact atx⟩, ⟨⟨x', ?_⟩, hst'.1.at fun ob q => (only1.2 it (Ne.symm qn)).trans q, qn⟩, fun bb mb => ?_⟩
    · have up1 : ((i + 1 : Nat) : Int) = (i : Int) + 1 := by
        omega
      rw [up1]; exact he'
    · have below : bb < s.heap.objs.size := by
        have two : bb = e ∨ bb = it := by simpa using mb
        rcases two with rfl | rfl
        · exact le1
        · exact le2
      rw [upd_ne (Nat.ne_of_lt below)]
      exact (fp bb mb).1
  done := by
    intro X hP hw hK wc i pins s σ H E I fp here got
    subst hP hw hK
    obtain ⟨⟨prev, qe⟩, qi, qn⟩ := here
    obtain ⟨xs, wq, atx⟩ := got
    obtain ⟨cells, rds, p, szz⟩ := I.tuple wq
    obtain ⟨f0, f1, f2, f3, f4, f5⟩ := fp it (by simp)
    have hl := rds.length
    have ne2 : a ≠ it := by
      intro z
      obtain ⟨ob, wo, hc2, _⟩ := p
      obtain ⟨o2, ho2, hc3, _⟩ := qi
      rw [z, ho2] at wo
      cases wo
      rw [hc3] at hc2
      injection hc2 with q
      exact absurd q (by decide)
    refine enumT_end (I.ok.hd wc) qe qi p ne2 (by simp; omega) fun h' eb => ⟨rfl, I.turned (t' := s.toks) (fun bb ob mb q => eb bb ob mb q) f0 f1 f3 f4 f5⟩
  self := fun A i s Q E here h => let ⟨⟨_, qe⟩, _⟩ := here; wpAny_pyIter_enum qe h
def iEnumT (K : PySem.W.Frag) (ta : TA) : TI := fun σ H R => ta σ H fun vs H1 => ∃ a xs, vs = [.ref a] ∧ SqT K H1 a xs ∧ R (IteT K a) H1
theorem pi_enumT {X : Cx} {e : Expr} {ta : TA} {p pos tpos : Pos} {elts : List Expr} {kk : Nat} (got : Gl X "enumerate") (hm : X.mg "enumerate" = none) (ha : PA X [e] ta) (hs : starEach [e] X.env = [(false, eval e X.env)] := by rfl) :
    PI X (.Tuple elts kk tpos) (.Call (.Name "enumerate" p) [e] [] pos) (iEnumT X.K ta) := by
  constructor
  intro pins s σ H R I h
  refine Call_ (ld_blt I got hm boot_enumerate (PyProof.Rows.callWith_type1 (thn (ha.run pos pins s σ H _ I h) fun us s1 ⟨vs, H1, J1, r1, q1⟩ => ?_) hs rfl))
  obtain ⟨a, xs, ex, wq, q⟩ := q1
  subst ex
  cases r1 with
  | cons r rr =>
    cases rr
    cases r
    obtain ⟨cells, rds, p', szz⟩ := J1.tuple wq
    refine call_enumerate_tup p' fun h' qe qi hsz keep1 => wpAny_pyIter_enum qe ?_
    have J2 : Inv X pins σ H1 { s1 with heap := h' } := J1.kept (t' := s1.toks) keep1
    refine ⟨s1.heap.objs.size + 1, [s1.heap.objs.size + 1, s1.heap.objs.size], _, _, H1, rfl, J2, turn_enumT a (s1.heap.objs.size + 1) s1.heap.objs.size, ⟨⟨.none, qe⟩, qi, Nat.succ_ne_self _⟩, fun bb mb => ?_, q⟩
    have e' : bb = s1.heap.objs.size + 1 ∨ bb = s1.heap.objs.size := by simpa using mb
    have above : bb ≥ s1.heap.objs.size := by
      rcases e' with w9 | w9 <;> rw [w9]
      · exact Nat.le_succ _
      · exact Nat.le.refl
    exact J1.fpOk above (J1.hok.fresh above)
/-- enumerate of a list or of a tuple -/
theorem pi_or {X : Cx} {tg l : Expr} {w1 w2 : TI} (h1 : PI X tg l w1) (h2 : PI X tg l w2) : PI X tg l (fun σ H R => w1 σ H R ∨ w2 σ H R) := ⟨fun pins s σ H R I h => by
  rcases h with h | h
  · exact h1.run pins s σ H R I h
  · exact h2.run pins s σ H R I h⟩
end Vf

namespace Vf
open PySem L2 PySem.Spec PyProof.Rows
/-! ### rules with the written part named (inside a comprehension nothing may lean on its block) -/
section
variable {X : Cx} (K : PySem.W.Frag) {pos : Pos}
theorem ixL (hK : X.K = K := by rfl) : IxR X (rIxL K) := hK ▸ ix_list
theorem ixT (hK : X.K = K := by rfl) : IxR X (rIxT K) := hK ▸ ix_tup
theorem slL (hK : X.K = K := by rfl) : SlR X (rSlL K) := hK ▸ sl_list
theorem slT (hK : X.K = K := by rfl) : SlR X (rSlA K) := hK ▸ sl_tupA
theorem eqDK (hu : X.A.units + 64 < cLine) (hK : X.K = K := by rfl) : OpR X (compareOp .Eq) (rEqD K) := hK ▸ op_eqD hu
theorem neDK (hu : X.A.units + 64 < cLine) (hK : X.K = K := by rfl) : OpR X (compareOp .NotEq) (rNeD K) := hK ▸ op_neD hu
theorem inSK (hK : X.K = K := by rfl) : OpR X (compareOp .In) (rIn K false) := hK ▸ op_in_seq
theorem niSK (hK : X.K = K := by rfl) : OpR X (compareOp .NotIn) (rIn K true) := hK ▸ op_notIn_seq
theorem lenSK (hK : X.K = K := by rfl) : CallR X (.builtin "len") (fun xs H Q => ∃ p ys, xs = [.ref p] ∧ (SqL K H p ys ∨ SqT K H p ys) ∧ Q (.int (ys.length : Nat)) H) := hK ▸ call_len_seq
theorem lstOK (hK : X.K = K := by rfl) : CallR X (.type "list") (fun xs H Q => ∃ p ys, xs = [.ref p] ∧ (SqL K H p ys ∨ SqT K H p ys) ∧ ∀ l, H l = none → Q (.ref l) (upd H l (.lst ys))) := hK ▸ call_list_of
theorem isiK (hK : X.K = K := by rfl) : CallR X (.builtin "isinstance") (rIsi K) := hK ▸ call_isi
theorem pe_fldK {e : Expr} {f : Str} {ta : TE} (ha : PE X e ta) (hb : attributeBase e f X.env (eval e X.env) = eval e X.env := by rfl) (hK : X.K = K := by rfl) : PE X (.Attribute e f pos) (tFld K ta f) := hK ▸ pe_fld ha hb
theorem pg_tupK {es : List Expr} {k : Nat} {t : TGs} {n : Nat} (hc : X.calm = true) (h : PGs X es t)
    (hn : (assignEach es X.env).length = n := by rfl) (hst : (assignEach es X.env).findIdx? (·.1) = none := by rfl) (hK : X.K = K := by rfl) : PG X (.Tuple es k pos) (gTup K n t) := hK ▸ pg_tup hc h hn hst
end
/-! ### readings of these -/
section
variable {σ : L2.St} {H : Hp} {K : PySem.W.Frag} {ta tb : TE} {as : TA}
theorem e_iRevR {tr : L2.St → Hp → (Int → Int → Hp → Prop) → Prop} {R : It → Hp → Prop} (q : tr σ H fun a b H1 => -(2 ^ 62) ≤ a ∧ a < 2 ^ 62 ∧ -(2 ^ 62) ≤ b ∧ b < 2 ^ 62 ∧ R (Itc (a + (((b - a).toNat : Nat) : Int) - 1) (-1) (b - a).toNat) H1) : iRevR tr σ H R := q
theorem e_rg1 {Q : Int → Int → Hp → Prop} (q : ta σ H fun x H1 => ∃ n, x = .int n ∧ Q 0 n H1) : tRg1 ta σ H Q := q
theorem e_rg2 {Q : Int → Int → Hp → Prop} (q : ta σ H fun x H1 => tb σ H1 fun y H2 => ∃ i j, x = .int i ∧ y = .int j ∧ Q i j H2) : tRg2 ta tb σ H Q := q
theorem e_iEnum {R : It → Hp → Prop} (q : as σ H fun vs H1 => ∃ a xs, vs = [.ref a] ∧ SqL K H1 a xs ∧ R (Ite K a) H1) : iEnum K as σ H R := q
theorem e_iEnumT {R : It → Hp → Prop} (q : as σ H fun vs H1 => ∃ a xs, vs = [.ref a] ∧ SqT K H1 a xs ∧ R (IteT K a) H1) : iEnumT K as σ H R := q
theorem e_iRng3 {R : It → Hp → Prop} (q : as σ H fun vs H1 => ∃ (i j c : Int) (n : Nat), vs = [.int i, .int j, .int c] ∧ RgC i j c n ∧ R (Itc i c n) H1) : iRng3 as σ H R := q
theorem e_slL {Q : VK} {p : Addr} {xs : List V} {lo hi : Option Int} (h : SqL K H p xs) (q : ∀ r, H r = none → Q (.ref r) (upd H r (.lst (cutV xs lo hi)))) : rSlL K (.ref p) lo hi H Q := ⟨p, xs, rfl, h, q⟩
theorem e_app {Q : VK} {l : Addr} {xs : List V} {y : V} (h : H l = some (.lst xs)) (hz : xs.length < sizeLine) (q : Q .non (upd H l (.lst (xs ++ [y])))) : rAppend (.ref l) [y] H Q := ⟨l, xs, y, rfl, rfl, h, hz, q⟩
theorem e_ext {Q : VK} {l b : Addr} {xs zs : List V} (h : H l = some (.lst xs)) (hb : H b = some (.lst zs)) (hz : xs.length + zs.length ≤ sizeLine) (q : Q .non (upd H l (.lst (xs ++ zs)))) : rExtend (.ref l) [.ref b] H Q := ⟨l, b, xs, zs, rfl, rfl, h, hb, hz, q⟩
end
/-! ### rows of ints as data -/
abbrev Di (l : List Int) : List PyData := l.map PyData.int
theorem dpAll_ints {K : PySem.W.Frag} {H : Hp} : ∀ xs : List Int, DpAll K H (xs.map V.int) (Di xs)
  | [] => .nil
  | x :: r => .cons (.int x) (dpAll_ints r)
theorem eqvAll_ints : ∀ xs ys : List Int, PyData.eqvAll (Di xs) (Di ys) = decide (xs = ys)
  | [], [] => by
      simp [PyData.eqvAll]
  | [], _ :: _ => by
      simp [PyData.eqvAll]
  | _ :: _, [] => by
      simp [PyData.eqvAll]
  | x :: xs, y :: ys => by
    have ih := eqvAll_ints xs ys
    show (PyData.eqv (.int x) (.int y) && PyData.eqvAll (Di xs) (Di ys)) = _
    rw [ih]
    show ((x == y) && decide (xs = ys)) = decide (x :: xs = y :: ys)
    by_cases h : x = y
    · subst h; simp
    · simp [h]
theorem canAll_ints : ∀ xs : List Int, PyData.canLayAll0 (Di xs) = true
  | [] => rfl
  | x :: r => by
    show (PyData.canLay0 (.int x) && PyData.canLayAll0 (Di r)) = true
    rw [canAll_ints r]; rfl
theorem depthAll_ints : ∀ xs : List Int, PyData.depthAll (Di xs) = 0
  | [] => rfl
  | x :: r => by
    show max 0 (PyData.depthAll (Di r)) = 0
    rw [depthAll_ints r]; rfl
theorem shaped_list {ds : List PyData} (h1 : PyData.canLayAll0 ds = true) (h2 : PyData.depthAll ds ≤ 60) : SeqAt.shaped (.list ds) = true := by
  unfold SeqAt.shaped
  rw [show PyData.canLay0 (.list ds) = PyData.canLayAll0 ds from rfl, h1, show PyData.depth (.list ds) = PyData.depthAll ds + 1 from rfl]
  simp
  omega
theorem shaped_tuple {ds : List PyData} (h1 : PyData.canLayAll0 ds = true) (h2 : PyData.depthAll ds ≤ 60) : SeqAt.shaped (.tuple ds) = true := by
  unfold SeqAt.shaped
  rw [show PyData.canLay0 (.tuple ds) = PyData.canLayAll0 ds from rfl, h1, show PyData.depth (.tuple ds) = PyData.depthAll ds + 1 from rfl]
  simp
  omega
theorem shaped_li (xs : List Int) : SeqAt.shaped (.list (Di xs)) = true := shaped_list (canAll_ints xs) (by rw [depthAll_ints]; decide)
theorem shaped_ti (xs : List Int) : SeqAt.shaped (.tuple (Di xs)) = true := shaped_tuple (canAll_ints xs) (by rw [depthAll_ints]; decide)
section
variable {K : PySem.W.Frag} {H : Hp} {Q : VK} {a b : Addr} {xs ys : List Int}
theorem e_eqLL (h1 : SqL K H a (xs.map V.int)) (h2 : SqL K H b (ys.map V.int)) (q : Q (.bl (decide (xs = ys))) H) : rEqD K (.ref a) (.ref b) H Q :=
  ⟨_, _, .lst h1 (dpAll_ints xs), .lst h2 (dpAll_ints ys), shaped_li xs, shaped_li ys, by rw [show PyData.eqv (.list (Di xs)) (.list (Di ys)) = PyData.eqvAll (Di xs) (Di ys) from rfl, eqvAll_ints]; exact q⟩
theorem e_neLL (h1 : SqL K H a (xs.map V.int)) (h2 : SqL K H b (ys.map V.int)) (q : Q (.bl (!decide (xs = ys))) H) : rNeD K (.ref a) (.ref b) H Q :=
  ⟨_, _, .lst h1 (dpAll_ints xs), .lst h2 (dpAll_ints ys), shaped_li xs, shaped_li ys, by rw [show PyData.eqv (.list (Di xs)) (.list (Di ys)) = PyData.eqvAll (Di xs) (Di ys) from rfl, eqvAll_ints]; exact q⟩
theorem e_eqTT (h1 : SqT K H a (xs.map V.int)) (h2 : SqT K H b (ys.map V.int)) (q : Q (.bl (decide (xs = ys))) H) : rEqD K (.ref a) (.ref b) H Q :=
  ⟨_, _, .tup h1 (dpAll_ints xs), .tup h2 (dpAll_ints ys), shaped_ti xs, shaped_ti ys, by rw [show PyData.eqv (.tuple (Di xs)) (.tuple (Di ys)) = PyData.eqvAll (Di xs) (Di ys) from rfl, eqvAll_ints]; exact q⟩
theorem e_neTT (h1 : SqT K H a (xs.map V.int)) (h2 : SqT K H b (ys.map V.int)) (q : Q (.bl (!decide (xs = ys))) H) : rNeD K (.ref a) (.ref b) H Q :=
  ⟨_, _, .tup h1 (dpAll_ints xs), .tup h2 (dpAll_ints ys), shaped_ti xs, shaped_ti ys, by rw [show PyData.eqv (.tuple (Di xs)) (.tuple (Di ys)) = PyData.eqvAll (Di xs) (Di ys) from rfl, eqvAll_ints]; exact q⟩
end
/-! ### the order of alike data -/
def rLtD (K : PySem.W.Frag) : R2 := fun x y H Q => ∃ d e, Dp K H x d ∧ Dp K H y e ∧ PySem.W.alike d e = true ∧ d ≠ .none ∧ d.depth ≤ 60 ∧ Q (.bl (PySem.W.dataLt d e)) H
def rGtD (K : PySem.W.Frag) : R2 := fun x y H Q => ∃ d e, Dp K H x d ∧ Dp K H y e ∧ PySem.W.alike d e = true ∧ d ≠ .none ∧ d.depth ≤ 60 ∧ Q (.bl (PySem.W.dataLt e d)) H
theorem op_ltD {X : Cx} (hu : X.A.units + 64 < cLine) : OpR X (compareOp .Lt) (rLtD X.K) := by
  intro pins s σ H x y v u C I rx ry hq
  obtain ⟨d, e, hd, he, sd, se, hp, q⟩ := hq
  obtain ⟨toks1, r1⟩ := Dp.reads I d x v hd rx
  obtain ⟨toks2, r2⟩ := Dp.reads I e y u he ry
  exact PySem.W.lt_data r1 r2 sd se (by have := Nat.min_le_left d.depth e.depth; omega) ⟨.bl _, H, I, rfl, q⟩
theorem op_gtD {X : Cx} (hu : X.A.units + 64 < cLine) : OpR X (compareOp .Gt) (rGtD X.K) := by
  intro pins s σ H x y v u C I rx ry hq
  obtain ⟨d, e, hd, he, sd, se, hp, q⟩ := hq
  obtain ⟨toks1, r1⟩ := Dp.reads I d x v hd rx
  obtain ⟨toks2, r2⟩ := Dp.reads I e y u he ry
  exact PySem.W.gt_data r1 r2 sd se (by have := Nat.min_le_left d.depth e.depth; omega) ⟨.bl _, H, I, rfl, q⟩
theorem alikeAll_ints : ∀ xs ys : List Int, PySem.W.alikeAll (Di xs) (Di ys) = true
  | [], _ => by simp [PySem.W.alikeAll]
  | _ :: _, [] => by simp [PySem.W.alikeAll]
  | x :: xs, y :: ys => by
    show (PySem.W.alike (.int x) (.int y) && PySem.W.alikeAll (Di xs) (Di ys)) = true
    rw [alikeAll_ints xs ys]; rfl
theorem lt_ints : ∀ xs ys : List Int, PyProof.Rows.lexLt PyProof.Rows.itemOrd (PySem.W.keyToksAll (Di xs)) (PySem.W.keyToksAll (Di ys)) = HT.lexLt xs ys
  | [], [] => by decide
  | [], y :: ys => by
    show PyProof.Rows.lexLt PyProof.Rows.itemOrd [.inl 0] (.inl 1 :: _) = true
    rw [PySem.W.lex_atom (by decide)]
    decide
  | x :: xs, [] => by
    show PyProof.Rows.lexLt PyProof.Rows.itemOrd (.inl 1 :: _) [.inl 0] = false
    rw [PySem.W.lex_atom (by decide)]
    decide
  | x :: xs, y :: ys => by
    have ih := lt_ints xs ys
    show _ = if x = y then HT.lexLt xs ys else decide (x < y)
    by_cases h : x = y
    · subst h
      rw [if_pos rfl, ← ih]
      exact PySem.W.dataLt_all_yes (x := .int x) (y := .int x) rfl (by simp [PyData.eqv])
    · rw [if_neg h, ← PySem.W.dataLt_int x y]
      exact PySem.W.dataLt_all_no (x := .int x) (y := .int y) rfl (by simpa [PyData.eqv] using h)
theorem e_ltLL {K : PySem.W.Frag} {H : Hp} {Q : VK} {a b : Addr} {xs ys : List Int} (h1 : SqL K H a (xs.map V.int)) (h2 : SqL K H b (ys.map V.int)) (q : Q (.bl (HT.lexLt xs ys)) H) : rLtD K (.ref a) (.ref b) H Q :=
  ⟨_, _, .lst h1 (dpAll_ints xs), .lst h2 (dpAll_ints ys), alikeAll_ints xs ys, by simp, by show PyData.depthAll (Di xs) + 1 ≤ 60; rw [depthAll_ints]; decide, by
    rw [PySem.W.dataLt_list, lt_ints]; exact q⟩
/-! ### loops over rows of ints -/
theorem at_split {ns : List Int} {i : Nat} {x : V} (hx : (ns.map V.int)[i]? = some x) : ∃ y, x = .int y ∧ ns = ns.take i ++ y :: ns.drop (i + 1) ∧ ns.take (i + 1) = ns.take i ++ [y] := by
  rw [List.getElem?_map] at hx
  cases e : ns[i]? with
  | none => rw [e] at hx; cases hx
  | some y =>
    rw [e] at hx
    have e2 := (List.getElem?_eq_some_iff.mp e).2
    refine ⟨y, (Option.some.inj hx).symm, ?_, by rw [List.take_add_one, e]; rfl⟩
    rw [← e2, List.getElem_cons_drop, List.take_append_drop]
section
variable {K : PySem.W.Frag} {g : TG} {t : TS} {D : Ends} {σ : L2.St} {H : Hp} {tt : TT} {te : TE} {vs : List Nat} {Q : VK} {Da a : Addr} {ns : List Int}
theorem for_ints (Pv : List Int → L2.St → Hp → Prop) (h0 : Pv [] σ H) (hl : ∀ pre σ H, Pv pre σ H → SqL K H a (ns.map V.int))
    (hs : ∀ (pre : List Int) (x : Int) (post : List Int) σ H, ns = pre ++ x :: post → Pv pre σ H → g (.int x) σ H fun σ2 H2 => t { D with nx := Pv (pre ++ [x]), ct := Pv (pre ++ [x]), bk := D.nx } σ2 H2)
    (hd : ∀ σ H, Pv ns σ H → D.nx σ H) : ForB (Itl K a) g t D σ H := by
  refine for_list (xs := ns.map V.int) (fun i => Pv (ns.take i)) (by simpa using h0) (fun i σ H _ p => hl _ σ H p) (fun i x σ H hx p => ?_) (fun σ H p => ?_)
  · obtain ⟨y, rfl, e1, e2⟩ := at_split hx
    rw [e2]
    exact hs _ y _ σ H e1 p
  · rw [List.length_map, List.take_length] at p
    exact hd σ H p
theorem for_intsT (Pv : List Int → L2.St → Hp → Prop) (h0 : Pv [] σ H) (hl : ∀ pre σ H, Pv pre σ H → SqT K H a (ns.map V.int))
    (hs : ∀ (pre : List Int) (x : Int) (post : List Int) σ H, ns = pre ++ x :: post → Pv pre σ H → g (.int x) σ H fun σ2 H2 => t { D with nx := Pv (pre ++ [x]), ct := Pv (pre ++ [x]), bk := D.nx } σ2 H2)
    (hd : ∀ σ H, Pv ns σ H → D.nx σ H) : ForB (Itt K a) g t D σ H := by
  refine for_tup (xs := ns.map V.int) (fun i => Pv (ns.take i)) (by simpa using h0) (fun i σ H _ p => hl _ σ H p) (fun i x σ H hx p => ?_) (fun σ H p => ?_)
  · obtain ⟨y, rfl, e1, e2⟩ := at_split hx
    rw [e2]
    exact hs _ y _ σ H e1 p
  · rw [List.length_map, List.take_length] at p
    exact hd σ H p
theorem walk_enumT {xs : List V} : Walk (IteT K a) xs.length (fun H => SqT K H a xs) (YPair (fun i => some (.int (i : Nat))) (fun i => xs[i]?)) := by
  refine ⟨fun i _ hi q => ⟨xs, xs[i], q, by simp [hi]⟩,
    fun _ q => ⟨xs, q, Nat.le_refl _⟩, fun i H v H' _ q y => ?_⟩
  obtain ⟨T, x, g1, g2, g3, g4⟩ := y
  exact ⟨T, .int (i : Nat), x, g1, g2, g3, rfl, g4 xs q⟩
theorem for_enumI (Pv : List Int → L2.St → Hp → Prop) (h0 : Pv [] σ H) (hl : ∀ pre σ H, Pv pre σ H → SqL K H a (ns.map V.int))
    (hs : ∀ (pre : List Int) (x : Int) (post : List Int) (T : Addr) σ H, ns = pre ++ x :: post → Pv pre σ H → H T = none → g (.ref T) σ (upd H T (.tup [.int (pre.length : Nat), .int x])) fun σ2 H2 => t { D with nx := Pv (pre ++ [x]), ct := Pv (pre ++ [x]), bk := D.nx } σ2 H2)
    (hd : ∀ σ H, Pv ns σ H → D.nx σ H) : ForB (Ite K a) g t D σ H := by
  refine for_it (walk_enum (xs := ns.map V.int)) (fun i => Pv (ns.take i)) (by simpa using h0) (fun i σ H _ p => hl _ σ H p) (fun i x σ H H' hi p y => ?_) (fun σ H p => ?_)
  · obtain ⟨T, u, v, rfl, hT, rfl, hu, hv⟩ := y
    obtain ⟨z, rfl, e1, e2⟩ := at_split hv
    cases (Option.some.inj hu)
    rw [e2]
    have hl : (ns.take i).length = i := by rw [List.length_map] at hi; rw [List.length_take]; omega
    have q := hs (ns.take i) z _ T σ H e1 p hT
    rw [hl] at q
    exact q
  · rw [List.length_map, List.take_length] at p
    exact hd σ H p
theorem for_enumIT (Pv : List Int → L2.St → Hp → Prop) (h0 : Pv [] σ H) (hl : ∀ pre σ H, Pv pre σ H → SqT K H a (ns.map V.int))
    (hs : ∀ (pre : List Int) (x : Int) (post : List Int) (T : Addr) σ H, ns = pre ++ x :: post → Pv pre σ H → H T = none → g (.ref T) σ (upd H T (.tup [.int (pre.length : Nat), .int x])) fun σ2 H2 => t { D with nx := Pv (pre ++ [x]), ct := Pv (pre ++ [x]), bk := D.nx } σ2 H2)
    (hd : ∀ σ H, Pv ns σ H → D.nx σ H) : ForB (IteT K a) g t D σ H := by
  refine for_it (walk_enumT (xs := ns.map V.int)) (fun i => Pv (ns.take i)) (by simpa using h0) (fun i σ H _ p => hl _ σ H p) (fun i x σ H H' hi p y => ?_) (fun σ H p => ?_)
  · obtain ⟨T, u, v, rfl, hT, rfl, hu, hv⟩ := y
    obtain ⟨z, rfl, e1, e2⟩ := at_split hv
    cases (Option.some.inj hu)
    rw [e2]
    have hl : (ns.take i).length = i := by rw [List.length_map] at hi; rw [List.length_take]; omega
    have q := hs (ns.take i) z _ T σ H e1 p hT
    rw [hl] at q
    exact q
  · rw [List.length_map, List.take_length] at p
    exact hd σ H p
/-- [e for k in range(a, b, c)], e a function of the turn -/
theorem lc_map_rngC {lo c : Int} {n : Nat} {H0 : Hp} (hD : H0 Da = none) (hn : n ≤ 1000000) (f : Nat → V)
    (hs : ∀ (i : Nat) (H2 : Hp) (C : VK) (E : Hp → Prop), i < n → Same H0 H2 → (∀ H3, Same H2 H3 → C (f i) H3) →
      g (.int (lo + (i : Nat) * c)) (wipe σ vs) H2 fun σ2 H2 => wipe σ2 vs = wipe σ vs ∧ tYes σ2 H2 fun b H3 => if b = true then te σ2 H3 C else E H3)
    (hd : ∀ (H : Hp), Same H0 H → H Da = some (.lst ((List.range n).map f)) → Q (.ref Da) H) : LcB (Itc lo c n) g tYes te vs σ Da H0 Q := by
  refine lc_it walk_rangeC (fun i H2 => Same H0 H2 ∧ H2 Da = some (.lst ((List.range i).map f))) ⟨same_new hD, upd_same⟩ (fun _ _ _ _ => trivial) (fun i x H2 H' hi p y => ?_) (fun H2 p => hd H2 p.1 p.2)
  obtain ⟨rfl, rfl⟩ := y
  obtain ⟨k4, e4⟩ := p
  refine hs i _ _ _ hi k4 fun H3 k5 => ?_
  refine ⟨_, k5 _ _ e4, Nat.lt_of_le_of_lt (by simp; omega : _ ≤ 1000000) (by decide), Same.mut (k4.trans k5) hD, ?_⟩
  rw [upd_same, List.range_succ, List.map_append]
  rfl
end
theorem i_bneself {b : Bool} {A B : Prop} (h : B) : if (b != b) = true then A else B := by
  have e : (b != b) = false := by cases b <;> rfl
  rw [e]; exact i_F h
theorem i_beself {b : Bool} {A B : Prop} (h : A) : if (b == b) = true then A else B := by
  rw [beq_self_eq_true]; exact i_T h
/-! ### a list or a tuple -/
/-- a row of values, a list's or a tuple's -/
abbrev SqE (K : PySem.W.Frag) (H : Hp) (p : Addr) (xs : List V) : Prop := SqL K H p xs ∨ SqT K H p xs
theorem Same.seqE {K : PySem.W.Frag} {H H' : Hp} {a : Addr} {xs : List V} (e : Same H H') (h : SqE K H a xs) : SqE K H' a xs := by
  rcases h with h | h
  · exact .inl (e.seq h)
  · refine .inr ?_
    rcases h with (h | ⟨c9, h⟩) | h
    · exact .inl (.inl (e _ _ h))
    · exact .inl (.inr ⟨c9, e _ _ h⟩)
    · exact .inr h
theorem e_ixE {K : PySem.W.Frag} {H : Hp} {Q : VK} {p : Addr} {xs : List V} {i : Int} {v : V} (h : SqE K H p xs) (ha : atI xs i = some v) (q : Q v H) : rIxL K (.ref p) (.int i) H Q ∨ rIxT K (.ref p) (.int i) H Q := by
  rcases h with h | h
  · exact .inl (e_ixL h ha q)
  · exact .inr (e_ixT h ha q)
/-- a list of the turn's values, over a list -/
theorem lc_map_lstI {K : PySem.W.Frag} {g : TG} {te : TE} {vs : List Nat} {σ : L2.St} {Da a : Addr} {H0 : Hp} {Q : VK} {xs : List V} (hS : SqL K H0 a xs) (hD : H0 Da = none) (hn : xs.length ≤ 1000000) (f : Nat → V)
    (hs : ∀ (i : Nat) (x : V) (H2 : Hp) (C : VK) (E : Hp → Prop), xs[i]? = some x → Same H0 H2 → (∀ H3, Same H2 H3 → C (f i) H3) →
      g x (wipe σ vs) H2 fun σ2 H2 => wipe σ2 vs = wipe σ vs ∧ tYes σ2 H2 fun b H3 => if b = true then te σ2 H3 C else E H3)
    (hd : ∀ (H : Hp), Same H0 H → H Da = some (.lst ((List.range xs.length).map f)) → Q (.ref Da) H) : LcB (Itl K a) g tYes te vs σ Da H0 Q := by
  refine lc_list (xs := xs) (fun i H2 => Same H0 H2 ∧ H2 Da = some (.lst ((List.range i).map f))) ⟨same_new hD, upd_same⟩ (fun i H2 _ p => p.1.seq hS) (fun i x H2 hx p => ?_) (fun H2 p => hd H2 p.1 p.2)
  obtain ⟨k4, e4⟩ := p
  have hi := (List.getElem?_eq_some_iff.mp hx).1
  refine hs i x H2 _ _ hx k4 fun H3 k5 => ?_
  refine ⟨_, k5 _ _ e4, Nat.lt_of_le_of_lt (by rw [List.length_map, List.length_range]; omega : _ ≤ 1000000) (by decide), Same.mut (k4.trans k5) hD, ?_⟩
  rw [upd_same, List.range_succ, List.map_append]
  rfl
end Vf

namespace Vf
open PySem L2 PySem.Spec PyProof.Rows
/-- a plain tuple of pairs: made by tuple(list), or by an update -/
def PlT (H : Hp) (a : Addr) (xs : List V) : Prop := ∃ o : Obj, o.dict = none ∧ H a = some (.frz o (.tup xs))
theorem PlT.seq {K : PySem.W.Frag} {H : Hp} {a : Addr} {xs : List V} (h : PlT H a xs) : SqT K H a xs := by
  obtain ⟨o, _, e⟩ := h
  exact .inl (.inr ⟨o, e⟩)
theorem PlT.same {H H' : Hp} {a : Addr} {xs : List V} (h : PlT H a xs) (e : Same H H') : PlT H' a xs := by
  obtain ⟨o, d, q⟩ := h
  exact ⟨o, d, e _ _ q⟩
theorem uvs_of {X : Cx} {pins : List (Addr × Obj)} {σ : L2.St} {H : Hp} {s : Shared} (I : Inv X pins σ H s) : ∀ {ps : List Addr} {kvs : List (Key × V)}, Paired (fun p kv => SqT X.K H p [kV kv.1, kv.2]) ps kvs →
    ∃ (prs : List (Key × Value)) (uvs : List (Value × Value)), KV kvs prs ∧ prs.length = ps.length ∧ uvs.length = ps.length ∧
      ∀ (j : Nat) (u y : Value), uvs[j]? = some (u, y) → ∃ (b : Addr) (k : Key), ps[j]? = some b ∧ PairAt s.heap b u y ∧ prs[j]? = some (k, y) ∧ keyIs k u = true
  | _, _, .nil => ⟨[], [], .nil, rfl, rfl, fun j u y e => by simp at e⟩
  | _, _, .cons (a := p) (b := kv) h t => by
    obtain ⟨prs, uvs, r, l1, l2, q⟩ := uvs_of I t
    obtain ⟨its, rv, ht, _⟩ := I.tuple h
    obtain ⟨u, y, rfl, ru, ry⟩ := vals2 rv
    refine ⟨(kv.1, y) :: prs, (u, y) :: uvs, .cons ⟨rfl, ry⟩ r, by simp [l1], by simp [l2], fun j u' y' e => ?_⟩
    cases j with
    | zero =>
      cases (Option.some.inj e)
      exact ⟨p, kv.1, rfl, .inl ht, rfl, kV_is (P := X.prog) (w := X.w) ru⟩
    | succ j =>
      obtain ⟨b, k, e1, e2, e3, e4⟩ := q j u' y' (by simpa using e)
      exact ⟨b, k, by simpa using e1, e2, by simpa using e3, e4⟩
theorem refs_of : ∀ {ps : List Addr} {us : List Value}, Vals (ps.map V.ref) us → us = ps.map Value.ref
  | [], _, .nil => rfl
  | p :: ps, _, .cons h t => by
    cases h
    rw [refs_of t]
    rfl
/-- dict(t), t a plain tuple of pairs -/
theorem call_dictPT {X : Cx} (hcalm : X.calm = true) : CallR X (.type "dict") (fun xs H Q => ∃ (a : Addr) (ps : List Addr) (kvs : List (Key × V)), xs = [.ref a] ∧ PlT H a (ps.map V.ref) ∧ Paired (fun p kv => SqT X.K H p [kV kv.1, kv.2]) ps kvs ∧
    ∀ p, H p = none → Q (.ref p) (upd H p (.dK (mergeK [] kvs)))) := by
  intro pins s σ H xs us Q I r q
  obtain ⟨a, ps, kvs, rfl, ⟨o, hd, ea⟩, hp, q⟩ := q
  obtain ⟨u, rfl, rx⟩ := vals1 r
  cases rx
  obtain ⟨ho, hz, its, rv, o2, ho2, hc, n, hdat⟩ := (show ObjOk X.prog X.w H s.heap a (.frz o (.tup (ps.map V.ref))) from I.hok a _ ea)
  rw [ho] at ho2
  cases (Option.some.inj ho2)
  have ei := refs_of rv
  subst ei
  rw [List.length_map] at hz
  obtain ⟨prs, uvs, rel, l1, l2, hq⟩ := uvs_of I hp
  have ok : PlainSeq "tuple" s.heap a (ps.map Value.ref).toArray ∧ PairItems s.heap (ps.map Value.ref).toArray (fun j => ps.getD j 0) uvs := by
    refine ⟨⟨o, n, ho, hc, hd, hdat⟩, by simp [l2], fun j k v hj => ?_⟩
    obtain ⟨b, key, e1, e2, _, _⟩ := hq j k v hj
    have e5 : ps.getD j 0 = b := by rw [List.getD_eq_getElem?_getD, e1]; rfl
    show _ ∧ PairAt s.heap (ps.getD j 0) k v
    rw [e5]
    exact ⟨by simp [e1], e2⟩
  refine PySem.call_dict_pairs (knd := mixKind X.prog X.w) (kvs := prs) (PairArg.tuple a (ps.map Value.ref).toArray (fun j => ps.getD j 0) uvs) (I.ok.hd hcalm) ok ⟨by rw [l1, l2], fun i key v hr => ?_⟩ (by rw [l2]; exact hz) fun h' tk hd' k => ?_
  · obtain ⟨b, k, _, _, e3, e4⟩ := hq i key v hr
    exact ⟨k, e3, e4⟩
  · have hm : (s.heap.objs.size == sysModules) = false := beq_eq_false_iff_ne.mpr (Nat.ne_of_gt I.big)
    have hlen : (mergeK [] kvs).length ≤ sizeLine := by
      have h1 := length_mergeK kvs []
      have h2 := rel.length
      rw [List.length_nil] at h1
      omega
    exact ⟨.ref s.heap.objs.size, upd H s.heap.objs.size (.dK (mergeK [] kvs)), I.laid (t' := tk) (fun b ob e => k b ob (by simp) e) (Nat.le_refl _) (show ObjOk X.prog X.w _ _ _ (.dK (mergeK [] kvs)) from ⟨hlen, hm, merged [] prs, KV.merge rel .nil, hd'⟩), rfl, q _ (I.hok.fresh (Nat.le_refl _))⟩
/-- tuple(l), l a list: a plain tuple -/
theorem call_tupleF {X : Cx} : CallR X (.type "tuple") (fun xs H Q => ∃ p ys, xs = [.ref p] ∧ SqL X.K H p ys ∧ ∀ l H', H l = none → Same H H' → PlT H' l ys → (∀ b, b ≠ l → H' b = H b) → Q (.ref l) H') := by
  intro pins s σ H xs us Q I r q
  obtain ⟨p, ys, rfl, hq, q⟩ := q
  obtain ⟨u, rfl, rx⟩ := vals1 r
  cases rx
  obtain ⟨its, rv, pl, hz⟩ := I.list hq
  have hlen := rv.length
  refine call_tuple_list pl.isList (fun h' kp => ?_) (by simp only [List.size_toArray] <;> omega)
  have J1 : Inv X pins σ H { s with heap := h' } := I.kept (t' := s.toks) kp
  have hfr := J1.hok.fresh (Nat.le_refl _)
  have J2 : Inv X pins σ (upd H h'.objs.size (.frz { cls := .type "tuple", data := .seq its.toArray } (.tup ys))) { s with heap := h'.push { cls := .type "tuple", data := .seq its.toArray } } :=
    J1.laid (t' := s.toks) (fun b ob e => Heap.get?_push_of_some _ e) (Nat.le_refl _) ⟨Heap.get?_push_size _ rfl, hz, its, rv, IsTup.new _ _⟩
  exact ⟨.ref h'.objs.size, _, J2, rfl, q _ _ hfr (same_new hfr) ⟨_, rfl, upd_same⟩ fun b hb => upd_ne hb⟩
theorem tupFK (K : PySem.W.Frag) {X : Cx} (hK : X.K = K := by rfl) : CallR X (.type "tuple") (fun xs H Q => ∃ p ys, xs = [.ref p] ∧ SqL K H p ys ∧ ∀ l H', H l = none → Same H H' → PlT H' l ys → (∀ b, b ≠ l → H' b = H b) → Q (.ref l) H') := hK ▸ call_tupleF
end Vf

namespace PySem
namespace ErrX
open PySem.W PySem.Calls PyProof.Rows PySem.HandSPX
/-! ### the text of __init__ -/
def iA (p1 p2 : Pos) : Arguments := { posonlyargs := [], args := [{ arg := "self", annotation := none, pos := p1 }, { arg := "place", annotation := none, pos := p2 }], vararg := none, kwonlyargs := [], kw_defaults := [], kwarg := none, defaults := [] }
def iB (q1 q2 q3 q4 : Pos) : List Stmt := [.Assign [.Attribute (.Name "self" q1) "place" q2] (.Name "place" q3) q4]
def iS : Scope := { kind := .function, names := [(PySem.Str.ofString "self", .local), (PySem.Str.ofString "place", .local)], isGenerator := false, isCoroutine := false, more := [] }
/-- what the written part says of Low, at C, and of its __init__, at fI -/
structure ErrTxt (K : Frag) (mg : Str → Option Value) (x : Str) (C fI : Addr) : Prop where
  gC : mg x = some (.ref C)
  cls : ∃ nm q N bs bm sn sub ab col dd k0 k1 k2 k3 k5, K.lookup C = some (excClassObj nm q C N bs bm true sn sub ab col dd k0 k1 k2 k3 k5 "ValueError.__new__") ∧ refsVE bm = true
  sa : findIn K (.ref C) "__setattr__" = some (some (.builtin "object.__setattr__"))
  ga : findIn K (.ref C) "__getattribute__" = some (some (.builtin "BaseException.__getattribute__"))
  gg : findIn K (.ref C) "__getattr__" = some none
  noN : findIn K (.ref C) "place" = some none
  iC : findIn K (.ref C) "__init__" = some (some (.ref fI))
  tC : typeIn K (.ref fI) = some (.type "function")
  kC : keepIn K (.ref C) = true
  exC : subIn K (.ref C) (.type "BaseException") = some true
  tyC : typeIn K (.ref C) = some (.type "type")
  hdC : hasDictIn K C = true
  te : exmOne K (.ref C) (.ref C) = some true
  fn : ∃ (oc : Value) (od : Option Addr) (kV doc pm : Value) (an : Option Addr) (cdv ct : Value) (osl : Array (Option Value)) (p1 p2 q1 q2 q3 q4 : Pos),
    K.lookup fI = some ⟨oc, od, .func (fnOf "__init__" "FolderkinError.__init__" (iA p1 p2) (iB q1 q2 q3 q4) iS .none kV doc pm an cdv ct), osl⟩ ∧ codeIn K cdv "FolderkinError.__init__" = true
theorem one_size (v : Value) : [v].length ≤ sizeLine := by
  rw [sizeLine_eq]
  exact (by decide : 1 ≤ 16777216)
theorem kept_but {K : Frag} {h h' : Heap} {x : Addr} (X : K.In h) (hx : K.lookup x = none) (k : ∀ b o, b ≠ x → h.get? b = some o → h'.get? b = some o) : K.In h' := fun a o e =>
  k a o (fun z => by rw [z, hx] at e; cases e) (X a o e)
theorem ldC {M : Model} {s : Shared} {name : Str} {scope : Scope} {L a : Addr} {cd : Value} {m : Str → Option Value} {x : Str} {pos : Pos} {v : Value} {Q : Value → Shared → Prop} {A : Around} {E : Value → Shared → Prop} (hn : s.heap.Ns L m) (hv : m x = some v) (h : Q v s)
    (hk : scope.kind = .function := by rfl) (hl : (envOfC name scope L a cd).kindOf x = some .local := by rfl) (hd : (x == ("__debug__" : Str)) = false := by decide) :
    wpAny M A (eval (.Name x pos) (envOfC name scope L a cd)) Q E s := wpAny_Name (wpAny_loadName_local hk hl hn hv h) hd
/-- what __init__ leaves of a fresh exception at x -/
structure InitEnd (h h' : Heap) (x C dx t1 : Addr) (v : Value) : Prop where
  keep : ∀ b o, b ≠ x → h.get? b = some o → h'.get? b = some o
  obj : h'.get? x = some { cls := .ref C, dict := some dx, data := .fields #[.ref t1, .none, .none, .none, .bool false, .none] }
  dbig : h.objs.size ≤ dx
  dne : dx ≠ x
  ns : h'.Ns1 dx (fun y => if y = "place" then some v else none)
/-- a made Low -/
structure OwnMade (h h' : Heap) (e C d : Addr) (v : Value) : Prop where
  keep : ∀ b o, h.get? b = some o → h'.get? b = some o
  new : h.objs.size ≤ e
  obj : ∃ oe vs, h'.get? e = some oe ∧ oe.cls = .ref C ∧ oe.dict = some d ∧ oe.data = .fields vs ∧ vs[1]? = some .none
  dbig : h.objs.size ≤ d
  dne : d ≠ e
  ns : h'.Ns1 d (fun y => if y = "place" then some v else none)
section
variable {prog : Program} {w : World} {A : Around} {E : Value → Shared → Prop} {R : Result → Shared → Prop} {s : Shared} {K : Frag} {mg : Str → Option Value} {C fI : Addr}
theorem err_init (T : ErrTxt K mg nmx C fI) {x t0 : Addr} {v : Value} (X : K.In s.heap) (hlim : s.heap.NoLimit) (hx : s.heap.get? x = some (excO C t0)) (hnx : K.lookup x = none) (hroom : A.depth < recursionLimit)
    (hq : ∀ h' tk dx, InitEnd s.heap h' x C dx t0 v → R (.ok (.ret .none)) { s with heap := h', toks := tk }) :
    codeAny (model prog w) A (.call (.ref fI) ⟨[.ref x, v], []⟩) R s := by
  obtain ⟨oc, od, kV, doc, pm, an, cdv, ct, osl, p1, p2, q1, q2, q3, q4, ho, hcd⟩ := T.fn
  obtain ⟨nm, q, N, bs, bm, sn, sub, ab, col, dd, k0, k1, k2, k3, k5, hC, hbm⟩ := T.cls
  have hcl : clsIn K C = some { name := nm, bases := bs, mro := .ref C :: bm, ns := N, qualname := q, hasDict := true, slotNames := sn, subclasses := sub, abstract := ab, collection := col, hasDel := false } := by unfold clsIn; rw [hC] <;> rfl
  refine Att.call_fn (binds := [("self", .ref x), ("place", v)]) X hlim ho hcd hroom (BindsTo.of_eq (by first | rfl | with_unfolding_all rfl)) (by first | rfl | decide | with_unfolding_all rfl) (fun s₁ IC => ?_) rfl rfl rfl
  obtain ⟨h₁, tk₁, rfl⟩ := IC.toInCall.same
  have k : ∀ b o, s.heap.get? b = some o → h₁.get? b = some o := IC.toInCall.keep
  have hn := IC.toInCall.ns
  have hxL : s.heap.objs.size ≠ x := Nat.ne_of_gt (Heap.lt_size hx)
  have X₁ : K.In h₁ := X.keeps k
  have hx₁ := k _ _ hx
  -- self.by = by
  show wpAny _ _ (execs _ _) _ _ _
  refine wpAny_execs_cons (plainObj_wpAny_Assign_Attribute ?_)
  refine ldC (v := v) hn (by first | rfl | with_unfolding_all rfl | kernel_rfl) (ldC (v := .ref x) hn (by first | rfl | with_unfolding_all rfl | kernel_rfl) ?_)
  refine set_plain X₁ (ox := excO C t0) (od := none) ⟨hx₁, rfl, rfl, trivial⟩ T.sa ?_
  refine exc_osa X₁ hx₁ hcl (show refsVE (.ref C :: bm) = true from hbm) rfl T.noN (fun h₃ tk₃ dx k₃ dn dne hx₃ hn₃ => ?_)
  show wpAny _ _ (execs _ _) _ _ _
  have z : s.heap.objs.size < h₁.objs.size := hn.lt
  exact wpAny_execs_nil (hq h₃ tk₃ dx ⟨fun b o hb e => k₃ b o hb (k b o e), hx₃, Nat.le_of_lt (Nat.lt_of_lt_of_le z dn), dne, hn₃⟩)
theorem err_made (T : ErrTxt K mg nmx C fI) {v : Value} (X : K.In s.heap) (hlim : s.heap.NoLimit) (hroom : A.depth + 1 < recursionLimit)
    (hq : ∀ h' tk e d, OwnMade s.heap h' e C d v → R (.ok (.ret (.ref e))) { s with heap := h', toks := tk }) :
    codeAny (model prog w) A (.call (.ref C) ⟨[v], []⟩) R s := by
  obtain ⟨nm, q, N, bs, bm, sn, sub, ab, col, dd, k0, k1, k2, k3, k5, hC, hbm⟩ := T.cls
  obtain ⟨hp, g, dr, tk, os⟩ := s
  have k : ∀ b o, hp.get? b = some o → ((hp.push (kdv_tup [v])).push (excO C hp.objs.size)).get? b = some o := fun b o e => Heap.get?_push_of_some _ (Heap.get?_push_of_some _ e)
  have hget : ((hp.push (kdv_tup [v])).push (excO C hp.objs.size)).get? (hp.objs.size + 1) = some (excO C hp.objs.size) := by heap_get
  have hnx : K.lookup (hp.objs.size + 1) = none := by
    cases e : K.lookup (hp.objs.size + 1) with
    | none => rfl
    | some o =>
      have z : hp.get? (hp.objs.size + 1) = some o := X _ _ e
      exact absurd (Nat.lt_of_succ_lt (Heap.lt_size z)) (Nat.lt_irrefl _)
  refine call_own F.excBase_ValueError (fun X => refsVE_contains X bm hbm) (X _ _ hC) (looks_findIn X T.iC) (fun self => bind_fn X self T.tC) (one_size v) ?_
  refine err_init (s := ⟨(hp.push (kdv_tup [v])).push (excO C hp.objs.size), g, dr, tk, os⟩) T (X.keeps k) (hlim.keeps k) hget hnx ?_ fun h' tk' dx ⟨k', hx, dn, dne, hns⟩ => ?_
  · show A.depth + 1 < recursionLimit
    exact hroom
  · have old : ∀ b o, hp.get? b = some o → h'.get? b = some o := fun b o e => k' b o (Nat.ne_of_lt (Nat.lt_succ_of_lt (Heap.lt_size e))) (k b o e)
    have z : hp.objs.size + 1 + 1 ≤ dx := by
      first
        | (simpa only [Heap.size_push] using dn)
        | exact dn
        | (have q := dn; rw [Heap.size_push, Heap.size_push] at q; exact q)
    exact ⟨rfl, hq h' tk' (hp.objs.size + 1) dx ⟨old, Nat.le_succ _, ⟨_, _, hx, rfl, rfl, rfl, rfl⟩, Nat.le_trans (Nat.le_trans (Nat.le_succ _) (Nat.le_succ _)) z, dne, hns⟩⟩
end
end ErrX
end PySem
namespace L2
open PySem PySem.Spec PyProof.Rows
theorem relO_plc {v : V} {v' : Value} (r : RelV v v') (f : Str) : RelO (List.lookup f [(("place" : Str), v)]) (if f = "place" then some v' else none) := by
  by_cases hw : f = "place"
  · subst hw
    rw [if_pos rfl]
    have q : List.lookup ("place" : Str) [(("place" : Str), v)] = some v := by simp [List.lookup]
    rw [q]
    exact r
  · rw [if_neg hw]
    have qw : (f == ("place" : Str)) = false := by simpa using hw
    have q2 : List.lookup f [(("place" : Str), v)] = none := by simp [List.lookup, qw]
    rw [q2]
    trivial
section
variable {X : Cx} {C fI : Addr}
/-- Low(e) -/
def tMkErr (C : Addr) (ta : TA) : St → Hp → XK → Prop := fun σ H Q => ta σ H fun vs H1 => ∃ v, vs = [v] ∧ ∀ d, H1 d = none → Q (.ref C) (some d) (upd H1 d (.xd [(("place" : Str), v)]))
theorem pmk_err {a : Expr} {ta : TA} {p pos : Pos} {k : Nat} (T : PySem.ErrX.ErrTxt X.K X.mg nmx C fI) (hr : Room k X.A) (ha : PA X [a] ta) (hg : Gl X nmx := by rfl)
    (he : starEach (a :: []) X.env = (false, eval a X.env) :: starEach [] X.env := by rfl) (hpl : (backTo pos (starEach [] X.env)).any (·.1) = false := by rfl) (hdb : (nmx == ("__debug__" : Str)) = false := by decide) :
    PMk X (.Call (.Name nmx p) [a] [] pos) (tMkErr C ta) := by
  intro pins s σ H Q I h
  refine wpAny_Call_Name_kw (ld_glob I hg T.gC ?_ hdb)
  refine PySem.W.callWith_K (h₀ := X.base) I.ok.mod.kin T.kC (thn (ha.run pos pins s σ H _ I h) fun us s1 hh => ?_) he hpl
  obtain ⟨vs, H1, I1, r1, v, ev, q1⟩ := hh
  subst ev
  refine ⟨I1.kIn, ?_⟩
  cases r1 with
  | cons rv rn =>
    rename_i v' us'
    cases rn
    show wpAny _ _ (call (.ref C) [v']) _ _ _
    have hlim := I1.nolimit
    obtain ⟨hp, g, dr, tk, os⟩ := s1
    refine wpAny_call (PySem.ErrX.err_made T I1.kIn hlim (by have := hr.dp; omega) fun h' tk' e d M => ?_)
    show MkP X pins σ Q (.ref e) ⟨h', g, dr, tk', os⟩
    obtain ⟨oe, fv, hoe, hc, hd, hdat, h1⟩ := M.obj
    have hns := M.ns
    obtain ⟨G', g1, g2⟩ := restrict h' fun b => decide (b ≠ e)
    have gk : ∀ b, b ≠ e → G'.get? b = h'.get? b := fun b hb => g1 b (decide_eq_true hb)
    have ge : G'.get? e = none := g2 e (by simp)
    have old : ∀ b o, hp.get? b = some o → G'.get? b = some o := fun b o q => (gk b (Nat.ne_of_lt (Nat.lt_of_lt_of_le (Heap.lt_size q) M.new))).trans (M.keep b o q)
    have ob : ObjOk X.prog X.w (upd H1 d (.xd [(("place" : Str), v)])) G' d (.xd [(("place" : Str), v)]) :=
      ⟨_, hns.at (fun o q => (gk d M.dne).trans q), fun f => relO_plc rv f⟩
    have J : Inv X pins σ (upd H1 d (.xd [(("place" : Str), v)])) ⟨G', g, dr, tk', os⟩ := I1.laid (t' := tk') old M.dbig ob
    refine ⟨e, oe, fv, ⟨G', g, dr, tk', os⟩, _, .ref C, some d, rfl, J, fun b o q => ?_, ge, hoe, ⟨hc, hd⟩, hdat, h1, ?_, rfl, I1.bare, raises_own T.exC T.tyC, q1 d (I1.hok.fresh M.dbig)⟩
    · by_cases hb : b = e
      · have q' : G'.get? b = some o := q
        rw [hb, ge] at q'; cases q'
      · exact (gk b hb).symm.trans q
    · rw [upd_ne (Ne.symm M.dne)]
      exact I1.hok.fresh M.new
/-- raise Low(e) -/
def tRaiseErr (C : Addr) (W : WX) (ta : TA) : TS := fun _ σ H => tMkErr C ta σ H fun cls d H' => W cls d σ H'
theorem ps_raiseErr {a : Expr} {ta : TA} {W : WX} {p pos pos2 : Pos} {k : Nat} (hc : X.calm = true) (T : PySem.ErrX.ErrTxt X.K X.mg nmx C fI) (hr : Room k X.A) (tk : Takes X W) (ha : PA X [a] ta) (hg : Gl X nmx := by rfl)
    (he : starEach (a :: []) X.env = (false, eval a X.env) :: starEach [] X.env := by rfl) (hpl : (backTo pos (starEach [] X.env)).any (·.1) = false := by rfl) (hdb : (nmx == ("__debug__" : Str)) = false := by decide) :
    PS X (.Raise (some (.Call (.Name nmx p) [a] [] pos)) none pos2) (tRaiseErr C W ta) := ps_raise hc tk (pmk_err T hr ha hg he hpl hdb)
/-- low.by, low the exception that the suite holds (at a; its class cls, its dict d) -/
def tPlcErr (C : Addr) (a : Addr) (cls : Value) (d : Option Addr) (te : TE) : TE := fun σ H Q => te σ H fun x H1 => x = .ref a ∧ cls = .ref C ∧ ∃ (dd : Addr) (v : V), d = some dd ∧ H1 dd = some (.xd [(("place" : Str), v)]) ∧ Q v H1
theorem pe_plcErr {a : Addr} {oe : Obj} {cls : Value} {d : Option Addr} {pn : List (Addr × Obj)} {e : Expr} {te : TE} {pos : Pos} (T : PySem.ErrX.ErrTxt X.K X.mg nmx C fI) (hz : Zc cls d oe) (hf : ∃ vs, oe.data = .fields vs) (he : PE (X.suite a ((a, oe) :: pn)) e te)
    (hb : attributeBase e "place" X.env (eval e X.env) = eval e X.env := by rfl) :
    PE (X.suite a ((a, oe) :: pn)) (.Attribute e "place" pos) (tPlcErr C a cls d te) := by
  refine ⟨fun pins s σ H Q I h => ?_⟩
  refine attr_of hb (thn (he.run pins s σ H _ I h) fun u s1 hh => ?_)
  obtain ⟨x, H1, I1, rx, ex, ec, dd, v, ed, ea, q⟩ := hh
  subst ex
  obtain rfl : u = Value.ref a := rx
  subst ec
  subst ed
  obtain ⟨ha, _⟩ := I1.pin (a, oe) (List.mem_append_left _ List.mem_cons_self)
  obtain ⟨vs, hd⟩ := hf
  have hx : ObjOk X.prog X.w H1 s1.heap dd (.xd [(("place" : Str), v)]) := I1.hok dd _ ea
  obtain ⟨mA, hns, hr⟩ := hx
  obtain ⟨od, ho, hl⟩ := lookIn_ns hns
  have l : List.lookup ("place" : Str) [(("place" : Str), v)] = some v := by simp [List.lookup]
  obtain ⟨u, hu, ru⟩ := RelO.some_of (v := v) (o := mA "place") (by rw [← l]; exact hr "place")
  have J : PySem.W.InstAt s1.heap a oe C (some od) := ⟨ha, hz.1, by unfold PySem.W.notCls; rw [hd] <;> rfl, by rw [hz.2]; exact ho⟩
  exact HandSPX.exc_get I1.kIn J T.ga T.gg T.exC (PySem.W.findObj_own T.hdC T.noN rfl (by rw [hl, hu])) (handed_of ru) ⟨v, H1, I1.tok _, ru, q⟩
end
end L2

namespace Vf
open PySem L2 PySem.Spec PyProof.Rows
/-- isinstance(e, c), e the error that the suite holds (at a; its class cls, its own dict d) -/
def rIsP (K : PySem.W.Frag) (D a : Addr) (cls : Value) (d : Option Addr) : List V → Hp → VK → Prop := fun xs H Q => cls = .ref D ∧ ∃ (dd : Addr) (pl c : V) (cv : Value) (b : Bool),
  d = some dd ∧ H dd = some (.xd [(("place" : Str), pl)]) ∧ xs = [.ref a, c] ∧ (∀ u, RelV c u → u = cv) ∧ PySem.W.kitOne K (.ref D) cv = some b ∧ Q (.bl b) H
theorem call_isP {X : Cx} {a D : Addr} {oe : Obj} {cls : Value} {d : Option Addr} {pn : List (Addr × Obj)} (C : ExcC X.K D) (hz : Zc cls d oe) (hf : ∃ vs, oe.data = .fields vs) : CallR (X.suite a ((a, oe) :: pn)) (.builtin "isinstance") (rIsP X.K D a cls d) := by
  intro pins s σ H xs us Q I r h
  obtain ⟨rfl, dd, pl, c, cv, b, rfl, ea, rfl, hcv, e, q⟩ := h
  obtain ⟨u1, u2, rfl, r1, r2⟩ := vals2 r
  cases (show u1 = Value.ref a from r1)
  have e2 := hcv _ r2
  subst e2
  obtain ⟨ha, _⟩ := I.pin (a, oe) (List.mem_append_left _ List.mem_cons_self)
  obtain ⟨vs, hd⟩ := hf
  obtain ⟨mA, hns, _⟩ := (show ObjOk X.prog X.w H s.heap dd (.xd [(("place" : Str), pl)]) from I.hok dd _ ea)
  obtain ⟨od, ho, _⟩ := lookIn_ns hns
  have J : PySem.W.InstAt s.heap a oe D (some od) := ⟨ha, hz.1, by unfold PySem.W.notCls; rw [hd] <;> rfl, by rw [hz.2]; exact ho⟩
  have hcl : (PySem.W.clsIn X.K D).isSome = true := by
    have h1 := C.hd
    unfold PySem.W.hasDictIn at h1
    cases h2 : PySem.W.clsIn X.K D with
    | none => rw [h2] at h1; cases h1
    | some cd => rfl
  exact PySem.W.kia_one (PySem.W.kitx_exc hcl C.hg C.hk C.hs C.ha C.hn C.ht C.hm) I.kIn J e (fun z => nomatch z) fun tk => ⟨.bl b, H, I.kept (t' := tk) fun _ _ z => z, rfl, q⟩
end Vf

namespace Vf
open PySem L2 PySem.Spec PyProof.Rows He
/-! ### the head's facts, and further ones that are yes or no -/
abbrev AlX : Type := AlD × Bool
def obsX (fa : List Fa) (fn : List DefD) (ex : List (PySem.W.Frag → Bool)) (K : PySem.W.Frag) : AlX := (obsD fa fn K, ex.all fun p => p K)
def obsXG (n : Nat) (fa : List Fa) (fn : List DefD) (ex : List (PySem.W.Frag → Bool)) (g : Addr → Option Obj) : AlX := obsX fa fn ex (frG g (asD g n))
def SaysX (fa : List Fa) (fn : List DefD) (ex : List (PySem.W.Frag → Bool)) (K : PySem.W.Frag) : Prop := SaysD fa fn K ∧ (ex.all fun p => p K) = true
def hookX (n : Nat) (fa : List Fa) (fn : List DefD) (ex : List (PySem.W.Frag → Bool)) : PySem.W.Hook where
  α := AlX
  obs := fun s => obsXG n fa fn ex s.heap.get?
  val := fun _ => (valD fn, true)
  says := fun _ h => ∃ K : PySem.W.Frag, K.In h ∧ SaysX fa fn ex K
  of := fun _ _ e => ⟨_, frG_in, congrArg (fun z : AlX => z.1) e, congrArg (fun z : AlX => z.2) e⟩
  keeps := fun _ _ _ ⟨K, hK, c⟩ k => ⟨K, PySem.W.Frag.In.keeps hK k, c⟩
theorem obsXG_eq {n : Nat} {fa : List Fa} {fn : List DefD} {ex : List (PySem.W.Frag → Bool)} {g : Addr → Option Obj} {s : Shared} (h : ∀ a, g a = s.heap.get? a) : obsXG n fa fn ex g = (hookX n fa fn ex).obs s := by
  have e : g = s.heap.get? := funext h
  rw [e] <;> rfl
theorem SaysX.more {fa : List Fa} {fn : List DefD} {ex : List (PySem.W.Frag → Bool)} {K : PySem.W.Frag} (c : SaysX fa fn ex K) (i : Nat) {p : PySem.W.Frag → Bool} (h : ex[i]? = some p := by rfl) : p K = true :=
  List.all_eq_true.mp c.2 p (List.mem_of_getElem? h)
/-! ### an own error, over ValueError through own classes, with __init__ from one of them -/
def errB (K : PySem.W.Frag) (C : Addr) : Bool := match K.lookup C with
  | some ⟨.type "type", _, .cls cd, sl⟩ => (match cd.mro, sl.toList with
    | .ref D :: bm, [_, _, _, _, some (.builtin n), _] => D == C && (n == "ValueError.__new__" && (!cd.hasDel && (cd.hasDict && PySem.HandSPX.refsVE bm)))
    | _, _ => false)
  | _ => false
theorem errB_ok {K : PySem.W.Frag} {C : Addr} (q : errB K C = true) : ∃ nm qn N bs bm sn sub ab col dd k0 k1 k2 k3 k5, K.lookup C = some (excClassObj nm qn C N bs bm true sn sub ab col dd k0 k1 k2 k3 k5 "ValueError.__new__") ∧ PySem.HandSPX.refsVE bm = true := by
  unfold errB at q
  split at q
  · rename_i dd cd sl ho
    split at q
    · rename_i D bm k0 k1 k2 k3 n k5 hm hs
      simp only [Bool.and_eq_true, beq_iff_eq, Bool.not_eq_true'] at q
      obtain ⟨rfl, rfl, hdel, hdi, hv⟩ := q
      obtain ⟨nm, bs, mro, ns, qn, hd, sn, sub, ab, col, del⟩ := cd
      dsimp only at hm hdel hdi
      subst hm hdel hdi
      obtain ⟨l⟩ := sl
      simp only at hs
      subst hs
      exact ⟨nm, qn, ns, bs, bm, sn, sub, ab, col, dd, k0, k1, k2, k3, k5, ho, hv⟩
    · cases q
  · cases q
def errAll (x bx : Str) (K : PySem.W.Frag) : Bool :=
  errB K (ga K x) && (eqO (PySem.W.findIn K (.ref (ga K x)) "__setattr__") (some (some (.builtin "object.__setattr__"))) && (eqO (PySem.W.findIn K (.ref (ga K x)) "__getattribute__") (some (some (.builtin "BaseException.__getattribute__"))) &&
  (eqO (PySem.W.findIn K (.ref (ga K x)) "__getattr__") (some none) && (eqO (PySem.W.findIn K (.ref (ga K x)) "place") (some none) && (eqO (PySem.W.findIn K (.ref (ga K x)) "__init__") (some (some (.ref (ma K (ga K bx) "__init__")))) &&
  (decide (PySem.W.typeIn K (.ref (ma K (ga K bx) "__init__")) = some (.type "function")) && (PySem.W.keepIn K (.ref (ga K x)) && (decide (PySem.W.subIn K (.ref (ga K x)) (.type "BaseException") = some true) && (decide (PySem.W.typeIn K (.ref (ga K x)) = some (.type "type")) &&
  (PySem.W.hasDictIn K (ga K x) && (decide (PySem.W.exmOne K (.ref (ga K x)) (.ref (ga K x)) = some true) && (decide (PySem.W.exmOne K (.ref (ga K x)) (.ref (ga K bx)) = some true) && (eqO (PySem.W.findIn K (.ref (ga K x)) "__class__") (some (some (.builtin "object.__class__"))) &&
  (eqO (PySem.W.specialIn K (.builtin "object.__class__") "__get__") (some (some (.builtin "getset_descriptor.__get__"))) && (decide (PySem.W.takesIn K (.builtin "object.__class__") = some true) && (decide (PySem.W.mroIn K (ga K x) (.type "object") = some true) &&
  (decide (PySem.W.kitOne K (.ref (ga K x)) (.ref (ga K x)) = some true) && (decide (PySem.W.kitOne K (.ref (ga K x)) (.ref (ga K bx)) = some true) && decide (PySem.W.kitOne K (.ref (ga K x)) (.type "ValueError") = some true)))))))))))))))))))
structure ErrAll (K : PySem.W.Frag) (mg : Str → Option Value) (x bx : Str) : Prop where
  er : PySem.ErrX.ErrTxt K mg x (ga K x) (ma K (ga K bx) "__init__")
  gB : mg bx = some (.ref (ga K bx))
  ec : ExcC K (ga K x)
  xb : PySem.W.exmOne K (.ref (ga K x)) (.ref (ga K bx)) = some true
  ii : PySem.W.kitOne K (.ref (ga K x)) (.ref (ga K x)) = some true
  ib : PySem.W.kitOne K (.ref (ga K x)) (.ref (ga K bx)) = some true
  iv : PySem.W.kitOne K (.ref (ga K x)) (.type "ValueError") = some true
theorem errAll_ok {K : PySem.W.Frag} {h : Heap} {mg : Str → Option Value} {x bx : Str} {fd : FuncData} {p1 p2 q1 q2 q3 q4 : Pos} (X : K.In h) (G : h.Ns mainGlobals mg) (c1 : (Fa.glo x).ok K = true) (c2 : (Fa.glo bx).ok K = true) (ce : errAll x bx K = true)
    (F : FunD K "__init__" "FolderkinError.__init__" (PySem.ErrX.iA p1 p2) (PySem.ErrX.iB q1 q2 q3 q4) PySem.ErrX.iS [] [] (ma K (ga K bx) "__init__") fd) : ErrAll K mg x bx := by
  obtain ⟨e1, ce⟩ := ba ce
  obtain ⟨e2, ce⟩ := ba ce
  obtain ⟨e3, ce⟩ := ba ce
  obtain ⟨e4, ce⟩ := ba ce
  obtain ⟨e5, ce⟩ := ba ce
  obtain ⟨e6, ce⟩ := ba ce
  obtain ⟨e7, ce⟩ := ba ce
  obtain ⟨e8, ce⟩ := ba ce
  obtain ⟨e9, ce⟩ := ba ce
  obtain ⟨e10, ce⟩ := ba ce
  obtain ⟨e11, ce⟩ := ba ce
  obtain ⟨e12, ce⟩ := ba ce
  obtain ⟨e13, ce⟩ := ba ce
  obtain ⟨e14, ce⟩ := ba ce
  obtain ⟨e15, ce⟩ := ba ce
  obtain ⟨e16, ce⟩ := ba ce
  obtain ⟨e17, ce⟩ := ba ce
  obtain ⟨e18, ce⟩ := ba ce
  obtain ⟨e19, e20⟩ := ba ce
  obtain ⟨oc, od, dV, kV, doc, pm, an, cdv, ct, osl, rfl, lk, hcd, dfl, _⟩ := F.ex
  have ed : dV = .none := by
    rcases dfl with ⟨_, h⟩ | ⟨h, _⟩
    · exact h
    · exact absurd rfl h
  subst ed
  exact { er := { gC := glo_ok X G c1, cls := errB_ok e1, sa := eqO_ok e2, ga := eqO_ok e3, gg := eqO_ok e4, noN := eqO_ok e5, iC := eqO_ok e6, tC := of_decide_eq_true e7, kC := e8, exC := of_decide_eq_true e9, tyC := of_decide_eq_true e10, hdC := e11, te := of_decide_eq_true e12,
                  fn := ⟨oc, od, kV, doc, pm, an, cdv, ct, osl, p1, p2, q1, q2, q3, q4, lk, hcd⟩ },
          gB := glo_ok X G c2, ec := ⟨eqO_ok e3, eqO_ok e4, of_decide_eq_true e9, e11, eqO_ok e14, eqO_ok e15, of_decide_eq_true e16, of_decide_eq_true e17⟩,
          xb := of_decide_eq_true e13, ii := of_decide_eq_true e18, ib := of_decide_eq_true e19, iv := of_decide_eq_true e20 }
/-! ### calls of a def that may raise -/
structure CalX (P : Program) (w : World) (K : PySem.W.Frag) (mg : Str → Option Value) (base : Heap) (k : Nat) (x : Str) (sp : Sp) : Prop where
  ex : ∃ (f : Addr) (fd : FuncData) (ps : List Str), FnOk P w K mg base (L2.CX P w) k f fd ps sp ∧ mg x = some (.ref f) ∧ PySem.W.keepIn K (.ref f) = true ∧ Binds K fd ps []
theorem pe_cX {X : Cx} {k j : Nat} {x : Str} {sp : Sp} {p pos : Pos} {e : Expr} {es : List Expr} {t : TA} {W : WX} (c : CalX X.prog X.w X.K X.mg X.base k x sp) (hr : Room j X.A) (hk : k ≤ j) (tk : Takes X W) (hg : Gl X x) (ha : PA X (e :: es) t)
    (hdb : (x == ("__debug__" : Str)) = false := by decide) (he : starEach (e :: es) X.env = (false, eval e X.env) :: starEach es X.env := by rfl)
    (hpl : (backTo pos (starEach es X.env)).any (·.1) = false := by rfl) : PE X (.Call (.Name x p) (e :: es) [] pos) (tCallS sp (WE W) t) := by
  obtain ⟨f, fd, ps, F, hm, kp, b⟩ := c.ex
  exact pe_callS F (hr.mono hk) hg hm kp b (fun σ => passAt tk σ) ha hdb he hpl
/-- promises of a def that may raise, by arity -/
abbrev sp1X (R : V → Hp → VK → XK → Prop) : Sp := fun vs H Q E => ∃ a, vs = [a] ∧ R a H Q E
end Vf

namespace Vf
open PySem L2 PySem.Spec PyProof.Rows
/-- x == y, x an instance of a class with its own __eq__ that answers True or False; y one too, or a tuple -/
def rEqO (K : PySem.W.Frag) (C : Addr) (sp : Sp) (E : XK) : R2 := fun x y H Q => ∃ (a b dx : Addr) (fs : List (Str × V)), x = .ref a ∧ y = .ref b ∧ H a = some (.ins C dx fs) ∧
  ((∃ (dy : Addr) (gs : List (Str × V)), H b = some (.ins C dy gs)) ∨ (PySem.W.notFirst K C (.type "tuple") = true ∧ ∃ ys, SqT K H b ys)) ∧ sp [x, y] H (fun z H' => ∃ t, z = .bl t ∧ Q z H') E
theorem op_eqOwn {X : Cx} {CX : CXT} {C f : Addr} {fd : FuncData} {ps : List Str} {sp : Sp} {E : XK} {n : Nat} (F : FnOk X.prog X.w X.K X.mg X.base CX n f fd ps sp)
    (hs : PySem.W.findIn X.K (.ref C) "__eq__" = some (some (.ref f))) (hf : PySem.W.isFn X.K (.ref f) = true) (hb : Binds X.K fd ps []) (hx : Passes CX X E) (hr : Room n X.A) : OpR X (compareOp .Eq) (rEqO X.K C sp E) := by
  intro pins s σ H x y v u Q I rx ry q
  obtain ⟨a, b, dx, fs, rfl, rfl, ha, hy, hsp⟩ := q
  cases rx
  cases ry
  obtain ⟨mA, J, _⟩ := ins_get I.hok ha
  obtain ⟨od, J, _⟩ := J.look
  obtain ⟨m, hF⟩ := I.fr
  have go : ∀ tb : Value, PySem.W.Looks (model X.prog X.w) s.heap (typeOf (.ref b)) tb → PySem.W.notFirst X.K C tb = true → wpAny (model X.prog X.w) X.A (richCompare .Eq (.ref a) (.ref b)) (EP X pins σ Q) X.xe s := fun tb ht hn => by
    refine PySem.W.cmp_K (op := .Eq) (tb := tb) hr.units0 hF I.ok.mod.kin J ht hn hs hf ?_
    have hl := F.len _ _ _ _ hsp
    have r2 : Vals [V.ref a, V.ref b] [Value.ref a, Value.ref b] := .cons rfl (.cons rfl .nil)
    refine wpAny_call (codeAny_mono (F.run X.A X.stack s H ⟨[.ref a, .ref b], []⟩ [.ref a, .ref b] [.ref a, .ref b] _ E hr I.env0 (by
      have := hb s [.ref a, .ref b] I.kIn (by simpa using hl)
      simpa using this) r2 hsp) fun r s' hq => ?_)
    cases r with
    | error e => exact hx pins σ H s e s' I hq
    | ok fl =>
      cases fl with
      | ret w =>
        obtain ⟨z, H', I', rz, t, ez, hQ⟩ := I.after hq
        subst ez
        cases rz
        exact ⟨.bl t, H', I', rfl, hQ⟩
      | next => exact False.elim hq
      | brk => exact False.elim hq
      | cont => exact False.elim hq
  rcases hy with ⟨dy, gs, hy⟩ | ⟨hn, ys, hy⟩
  · obtain ⟨mB, J', _⟩ := ins_get I.hok hy
    obtain ⟨od', J', _⟩ := J'.look
    exact go (.ref C) J'.type (by simp [PySem.W.notFirst])
  · obtain ⟨its, rv, ⟨o, ho, hc, _⟩, _⟩ := I.tuple hy
    exact go (.type "tuple") (fun A Q E s' k z => wpAny_typeOf (T := "tuple") ⟨o, k _ _ ho, hc⟩ z) hn
end Vf

namespace Vf
open PySem L2 PySem.Spec PyProof.Rows He
/-! ### an own class: all yes-or-no facts of it -/
def clsB (x : Str) (K : PySem.W.Frag) : Bool :=
  eqO (PySem.W.findIn K (.ref (ga K x)) "__class__") (some (some (.builtin "object.__class__"))) &&
  (eqO (PySem.W.specialIn K (.builtin "object.__class__") "__get__") (some (some (.builtin "getset_descriptor.__get__"))) && (decide (PySem.W.takesIn K (.builtin "object.__class__") = some true) &&
  (decide (PySem.W.mroIn K (ga K x) (.type "object") = some true) && (decide (PySem.W.kitOne K (.ref (ga K x)) (.ref (ga K x)) = some true) && (decide (PySem.W.kitOne K (.type "tuple") (.ref (ga K x)) = some false) && PySem.W.notFirst K (ga K x) (.type "tuple"))))))
structure ClsT (K : PySem.W.Frag) (x : Str) : Prop where
  ha : PySem.W.findIn K (.ref (ga K x)) "__class__" = some (some (.builtin "object.__class__"))
  hn : PySem.W.specialIn K (.builtin "object.__class__") "__get__" = some (some (.builtin "getset_descriptor.__get__"))
  htk : PySem.W.takesIn K (.builtin "object.__class__") = some true
  hm : PySem.W.mroIn K (ga K x) (.type "object") = some true
  own : PySem.W.kitOne K (.ref (ga K x)) (.ref (ga K x)) = some true
  tup : PySem.W.kitOne K (.type "tuple") (.ref (ga K x)) = some false
  nf : PySem.W.notFirst K (ga K x) (.type "tuple") = true
theorem clsB_ok {x : Str} {K : PySem.W.Frag} (c : clsB x K = true) : ClsT K x := by
  unfold clsB at c
  obtain ⟨c1, c⟩ := ba c
  obtain ⟨c2, c⟩ := ba c
  obtain ⟨c3, c⟩ := ba c
  obtain ⟨c4, c⟩ := ba c
  obtain ⟨c5, c⟩ := ba c
  obtain ⟨c6, c7⟩ := ba c
  exact ⟨eqO_ok c1, eqO_ok c2, of_decide_eq_true c3, of_decide_eq_true c4, of_decide_eq_true c5, of_decide_eq_true c6, c7⟩
/-- == by its own __eq__ -/
def eqB (x : Str) (K : PySem.W.Frag) : Bool := eqO (PySem.W.findIn K (.ref (ga K x)) "__eq__") (some (some (.ref (ma K (ga K x) "__eq__")))) && PySem.W.isFn K (.ref (ma K (ga K x) "__eq__"))
structure EqC (P : Program) (w : World) (K : PySem.W.Frag) (mg : Str → Option Value) (base : Heap) (k : Nat) (x : Str) (sp : Sp) : Prop where
  ex : ∃ (f : Addr) (fd : FuncData) (ps : List Str), FnOk P w K mg base CX0 k f fd ps sp ∧ PySem.W.findIn K (.ref (ga K x)) "__eq__" = some (some (.ref f)) ∧ PySem.W.isFn K (.ref f) = true ∧ Binds K fd ps []
theorem op_eqC {X : Cx} {k j : Nat} {x : Str} {sp : Sp} (c : EqC X.prog X.w X.K X.mg X.base k x sp) (hr : Room j X.A) (hk : k ≤ j) : OpR X (compareOp .Eq) (rEqO X.K (ga X.K x) sp E0) := by
  obtain ⟨f, fd, ps, F, hs, hf, hb⟩ := c.ex
  exact op_eqOwn F hs hf hb pass0 (hr.mono hk)
/-- C(e, .., k = v) -/
structure MakN (P : Program) (w : World) (K : PySem.W.Frag) (mg : Str → Option Value) (base : Heap) (k : Nat) (x : Str) (C : Addr) (sp : Sp) (n : Nat) (ks : List Str) (gV : List V → List V → List V) : Prop where
  ex : ∃ (f : Addr) (fd : FuncData) (ps : List Str) (g : List Value → List Value → List Value), Mk K C f ∧ FnOk P w K mg base CX0 k f fd ps sp ∧ mg x = some (.ref C) ∧ KBn K fd ps (n + 1) ks g gV
theorem pe_mkN {X : Cx} {k j n : Nat} {C : Addr} {x : Str} {sp : Sp} {p pos : Pos} {e : Expr} {es : List Expr} {kws : List Keyword} {ks : List Str} {t tk : TA} {gV : List V → List V → List V} (c : MakN X.prog X.w X.K X.mg X.base k x C sp n ks gV) (hr : Room j X.A) (hk : k + 1 ≤ j) (hg : Gl X x)
    (ha : PA X (e :: es) t) (hkw : PK X kws tk) (hall : (backToKw pos (keywordEach kws X.env)).all (·.1.isSome) = true := by rfl) (hks : (backToKw pos (keywordEach kws X.env)).filterMap (·.1) = ks := by rfl)
    (hdb : (x == ("__debug__" : Str)) = false := by decide) (he : starEach (e :: es) X.env = (false, eval e X.env) :: starEach es X.env := by rfl)
    (hpl : ((backTo pos (starEach (e :: es) X.env)).any (·.1) || (backToKw pos (keywordEach kws X.env)).any (·.1.isNone)) = false := by rfl) :
    PE X (.Call (.Name x p) (e :: es) kws pos) (tMakeN C n ks.length sp gV E0 t tk) := by
  obtain ⟨f, fd, ps, g, M, F, hm, b⟩ := c.ex
  exact pe_makeN M F (hr.mono hk) hg hm b pass0 ha hkw hall hks hdb he hpl
theorem e_tMake {C : Addr} {sp : Sp} {dvs : List V} {E : XK} {t : TA} {σ : L2.St} {H : Hp} {Q : VK} (q : t σ H fun vs H1 => ∀ x dx, H1 x = none → H1 dx = none → dx ≠ x → sp (.ref x :: (vs ++ dvs)) (upd (upd H1 dx (.own x)) x (.ins C dx [])) (fun v H2 => v = .non ∧ Q (.ref x) H2) E) : tMake C sp dvs E t σ H Q := q
theorem e_tMakeN {C : Addr} {n m : Nat} {sp : Sp} {gV : List V → List V → List V} {E : XK} {t tk : TA} {σ : L2.St} {H : Hp} {Q : VK} (q : t σ H fun vs H1 => tk σ H1 fun zs H2 => vs.length = n ∧ zs.length = m ∧
  ∀ x dx, H2 x = none → H2 dx = none → dx ≠ x → sp (gV (.ref x :: vs) zs) (upd (upd H2 dx (.own x)) x (.ins C dx [])) (fun v H3 => v = .non ∧ Q (.ref x) H3) E) : tMakeN C n m sp gV E t tk σ H Q := q
/-! ### == and != of data with any texts -/
def rEqP (K : PySem.W.Frag) : R2 := fun x y H Q => ∃ d e, Dp K H x d ∧ Dp K H y e ∧ d.plain = true ∧ e.plain = true ∧ d.depth ≤ 60 ∧ Q (.bl (PyData.eqv d e)) H
def rNeP (K : PySem.W.Frag) : R2 := fun x y H Q => ∃ d e, Dp K H x d ∧ Dp K H y e ∧ d.plain = true ∧ e.plain = true ∧ d.depth ≤ 60 ∧ Q (.bl (!PyData.eqv d e)) H
theorem op_eqP {X : Cx} (hu : X.A.units + 64 < cLine) : OpR X (compareOp .Eq) (rEqP X.K) := by
  intro pins s σ H x y v u Q I rx ry h
  obtain ⟨d, e, hd, he, sd, se, hp, q⟩ := h
  obtain ⟨as, r1⟩ := Dp.reads I d x v hd rx
  obtain ⟨bs, r2⟩ := Dp.reads I e y u he ry
  exact PySem.SeqAt.eq_plain r1 r2 sd se (by omega) ⟨.bl _, H, I, rfl, q⟩
theorem op_neP {X : Cx} (hu : X.A.units + 64 < cLine) : OpR X (compareOp .NotEq) (rNeP X.K) := by
  intro pins s σ H x y v u Q I rx ry h
  obtain ⟨d, e, hd, he, sd, se, hp, q⟩ := h
  obtain ⟨as, r1⟩ := Dp.reads I d x v hd rx
  obtain ⟨bs, r2⟩ := Dp.reads I e y u he ry
  exact PySem.SeqAt.ne_plain r1 r2 sd se (by omega) ⟨.bl _, H, I, rfl, q⟩
end Vf

namespace Vf
open PySem L2 PySem.Spec PyProof.Rows He
/-! ### t[::-1] of a pair -/
section
variable {prog : Program} {w : World} {A : Around} {E : Value → Shared → Prop} {s : Shared}
theorem rev2_applied {sl : Addr} {u : Tok} {Q : Int × Int × Nat → Shared → Prop} (hs : s.heap.IsSliceOf sl .none .none (.int (-1) u)) (h : Q (1, -1, 2) s) :
    wpAny (model prog w) A (Builtin.Slice.sliceApplied (.ref sl) (pure ((2 : Nat) : Int))) Q E s := by
  obtain ⟨os, hos, hcs, hds⟩ := id hs
  unfold Builtin.Slice.sliceApplied Builtin.Slice.sliceFields
  refine wpAny_bind (wpAny_bind (wpAny_field hos hds (x := .none) rfl (wpAny_bind (wpAny_field hos hds (x := .none) rfl (wpAny_bind (wpAny_field hos hds (x := .int (-1) u) rfl (wpAny_pure ?_)))))))
  refine wpAny_bind (slicePart_int ?_)
  show wpAny _ _ (if ((-1 : Int) == 0) = true then _ else _) _ _ s
  rw [if_neg (by decide)]
  refine wpAny_bind (slicePart_none (wpAny_bind (slicePart_none (wpAny_bind (wpAny_pure ?_)))))
  show wpAny _ _ (match Builtin.Slice.sliceAdjust none none (-1) ((2 : Nat) : Int) with | (lo, hi) => pure (lo, (-1 : Int), Builtin.Slice.slicePlaces lo hi (-1))) _ _ s
  exact wpAny_pure h
theorem getItem_pair_rev {t sl : Addr} {v0 v1 : Value} {u : Tok} {Q : Value → Shared → Prop} (ht : IsTup s.heap t #[v0, v1]) (hs : s.heap.IsSliceOf sl .none .none (.int (-1) u))
    (h : Q (.ref s.heap.objs.size) { s with heap := s.heap.push { cls := .type "tuple", data := .seq #[v1, v0] } }) : wpAny (model prog w) A (getItem (.ref t) (.ref sl)) Q E s := by
  obtain ⟨os, hos, hcs, hds⟩ := id hs
  have hTs : s.TypeIs (.ref sl) "slice" := ⟨os, hos, hcs⟩
  unfold getItem
  try with_reducible refine wpAny_holding ?_
  first | refine wpAny_bind (wpAny_pure ?_) | skip
  refine wpAny_bind (wpAny_sequenceKey ht.typeIs (by decide) ?_)
  refine wpAny_bind (wpAny_callSpecial?_slot (name := Str.ofString "__getitem__") ht.typeIs PyProof.Rows.slot_tuple_getitem
    (wpAny_call_entry PyProof.Rows.slot_tuple_getitem ht.typeIs entry_tuple_getitem ?_ (args_tuple_getitem _ _)))
  show wpAny _ _ (Builtin.Tuple.tupleItemsOf (.ref t) >>= _) _ _ s
  refine wpAny_bind (tupleItemsOf_ ht ?_)
  refine wpAny_bind (wpAny_typeOf hTs ?_)
  rw [if_pos (by decide)]
  refine wpAny_bind (rev2_applied hs ?_)
  show wpAny _ _ (if (((1 : Int)) == 0 && (-1 : Int) == 1 && ((2 : Nat) == 2)) = true then _ else _) _ _ s
  rw [if_neg (by decide)]
  have hz : sizeOk (.seq #[v1, v0]) := by show (2 : Nat) ≤ sizeLine; decide
  first
    | exact wpAny_bind (m := Builtin.Tuple.tupleExact _) (wpAny_newObj_type (wpAny_pure ⟨_, rfl, wpAny_pure h⟩) hz)
    | exact wpAny_bind (m := Builtin.Tuple.tupleExact _) (wpAny_newObj_type (wpAny_bind (wpAny_pure (wpAny_pure ⟨_, rfl, wpAny_pure h⟩))) hz)
    | exact wpAny_bind (wpAny_bind (m := Builtin.Tuple.tupleExact _) (wpAny_newObj_type (wpAny_pure (wpAny_pure ⟨_, rfl, wpAny_pure h⟩)) hz))
    | exact wpAny_bind (wpAny_bind (m := Builtin.Tuple.tupleExact _) (wpAny_newObj_type (wpAny_pure ⟨_, rfl, wpAny_pure h⟩) hz))
end
section
variable {X : Cx}
def tRevT (K : PySem.W.Frag) (te : TE) : TE := fun σ H Q => te σ H fun x H1 => ∃ a u v, x = .ref a ∧ SqT K H1 a [u, v] ∧ ∀ p, H1 p = none → Q (.ref p) (upd H1 p (.tup [v, u]))
theorem pe_revT {e : Expr} {te : TE} {k : Nat} {p1 p2 p3 pos : Pos} (he : PE X e te) : PE X (.Subscript e (.Slice none none (some (.UnaryOp .USub (.Constant (.int 1) k p1) p2)) p3) pos) (tRevT X.K te) := by
  refine ⟨fun pins s σ H Q I h => ?_⟩
  refine Subscript_ (thn (he.run pins s σ H _ I h) fun v s1 ⟨x, H1, I1, r1, q1⟩ => ?_)
  obtain ⟨a, x0, x1, ex, hx, q⟩ := q1
  subst ex
  cases r1
  have hst : PO X (some (.UnaryOp .USub (.Constant (.int 1) k p1) p2)) (tPart (tUn (rU fun i => .int (-i)) (tC (.int 1)))) := po_some (pe_un un_neg pe_int)
  refine wpAny_Slice (thn (po_none.run pins s1 σ H1 (fun o H2 => o = none ∧ H2 = H1) I1 ⟨rfl, rfl⟩) fun vl s2 ⟨l, H2, I2, pl, el, e2⟩ => ?_)
  subst el e2
  refine thn (po_none.run pins s2 σ H2 (fun o H3 => o = none ∧ H3 = H2) I2 ⟨rfl, rfl⟩) fun vu s3 ⟨u, H3, I3, pu, eu, e3⟩ => ?_
  subst eu e3
  refine thn (hst.run pins s3 σ H3 (fun o H4 => o = some (-1) ∧ H4 = H3) I3 ⟨1, rfl, -1, rfl, rfl, rfl⟩) fun vs s4 ⟨o, H4, I4, ps, eo, e4⟩ => ?_
  subst eo e4
  cases pl
  cases pu
  cases ps with
  | int i tk =>
  have I5 : Inv X pins σ H4 { s4 with heap := s4.heap.push { cls := .type "slice", data := .fields #[.none, .none, .int (-1) tk] } } := I4.kept (t' := s4.toks) fun b ob q => Heap.get?_push_of_some _ q
  obtain ⟨its, r, ht, hz⟩ := I5.tuple hx
  obtain ⟨w0, w1, rfl, rv0, rv1⟩ := vals2 r
  show wpAny (model X.prog X.w) X.A (subscriptTail e (.Slice none none (some (.UnaryOp .USub (.Constant (.int 1) k p1) p2)) p3) (.ref a) (.ref s4.heap.objs.size)) (EP X pins σ Q) X.xe { s4 with heap := s4.heap.push { cls := .type "slice", data := .fields #[.none, .none, .int (-1) tk] } }
  refine tail_any (ops := [.ref a, .ref s4.heap.objs.size]) ht.typeIs PyProof.Rows.slot_tuple_getitem.lookup ?_ (by with_unfolding_all rfl)
  refine getItem_pair_rev ht (Heap.IsSliceOf.new _ _ _ _) ?_
  refine ⟨.ref _, _, I5.laid (t' := s4.toks) (o := .tup [x1, x0]) (fun b ob q => Heap.get?_push_of_some _ q) (Nat.le_refl _) ?_, rfl, q _ (I5.hok.fresh (Nat.le_refl _))⟩
  exact ⟨by show (2 : Nat) ≤ sizeLine; decide, _, .cons rv1 (.cons rv0 .nil), IsTup.new _ _⟩
/-! ### del d[t], the keys tuples -/
def sDDelT (td ty : TE) : TS := fun D σ H => td σ H fun x H1 => ty σ H1 fun y H2 => ∃ a kvs k b, x = .ref a ∧ H2 a = some (.dT kvs) ∧ y = .ref b ∧ H2 b = some (.tup (k.map kV)) ∧ (valV kvs k).isSome = true ∧ D.nx σ (upd H2 a (.dT (dropK kvs k)))
theorem ps_ddelT {o i : Expr} {pos tpos : Pos} {td ty : TE} (hu : X.A.units + 1 < cLine) (ho : PE X o td) (hi : PE X i ty) : PS X (.Delete [.Subscript o i tpos] pos) (sDDelT td ty) := by
  refine ⟨fun pins s σ H D I h => ?_⟩
  refine wpAny_Delete (wpAny_deleteEach_cons (wpAny_delete_Subscript (thn (ho.run pins s σ H _ I h) fun u s1 ⟨x, H1, I1, rx, q1⟩ => thn (hi.run pins s1 σ H1 _ I1 q1) fun iv s2 ⟨y, H2, I2, ry, a, kvs, k, b, ex, e, ey, eb, l, q2⟩ => ?_)))
  subst ex ey
  obtain rfl : u = Value.ref a := rx
  obtain rfl : iv = Value.ref b := ry
  obtain ⟨z, hd, xs, rel, dd⟩ := dt_of I2.hok e
  have hz : xs.length ≤ sizeLine := by rw [← Paired.length rel]; exact z
  obtain ⟨v0, ev⟩ := Option.isSome_iff_exists.mp l
  obtain ⟨w', hw, rw'⟩ := RelO.some_of (v := v0) (o := (atKey xs k).map (·.2)) (by rw [← ev]; exact rel.val k)
  obtain ⟨p, hp, hp2⟩ := Option.map_eq_some_iff.mp hw
  refine wpAny_delItem_heap (hsz := hz) (knd := tupleKind (mixKind X.prog X.w)) (tupleKind_room_in1 hu) (key_of I2.hok eb) hd dd hp fun h' dd' hs => ?_
  obtain ⟨q, es, ep, hq, h2, h3, h4, _, h5⟩ := dd'
  have I3 : Inv X pins σ (upd H2 a (.dT (dropK kvs k))) { s2 with heap := h', toks := s2.toks + (tupleKind (mixKind X.prog X.w)).draws k } :=
    d_write I2 (by rw [e]; exact True.intro) hs ⟨q, hq⟩ ⟨Nat.le_trans (dropK_le kvs k) z, hd, _, (DX.KT_drop k rel).keeps (fun c ys ec => (by rw [upd_ne (ne_of ec e (fun z => nomatch z))]; exact ec)), q, es, ep, hq, h2, h3, h4, h5⟩
  exact wpAny_deleteEach_nil ⟨σ, _, I3, q2⟩
end
end Vf

namespace Vf
open PySem L2 PySem.Spec PyProof.Rows He
theorem un65 {k : Nat} {A : Around} (r : Room k A) : A.units + 65 < cLine := by have := r.un; omega
/-! ### d.values() of a dict whose keys are tuples -/
def Itdt (d : Addr) (o : Obj) (kvs : List (List L2.Key × V)) : It :=
  ⟨fun i H => H d = some (.frz o (.dT kvs)) ∧ i < kvs.length, fun i H x H' => H' = H ∧ ∃ k, kvs[i]? = some (k, x), fun i H => H d = some (.frz o (.dT kvs)) ∧ kvs.length ≤ i⟩
theorem frzTV {X : Cx} {pins : List (Addr × Obj)} {σ : L2.St} {H : Hp} {s : Shared} {d : Addr} {o : Obj} {kvs : List (List L2.Key × V)} (I : Inv X pins σ H s) (h : H d = some (.frz o (.dT kvs))) :
    (d == sysModules) = false ∧ ∃ (es : Array DictEntry) (ep : Nat), o.data = .dict es ep ∧ s.heap.DictRaw d es ep ∧ es.size = kvs.length ∧
      ∀ (i : Nat) (k : List L2.Key) (v : V), kvs[i]? = some (k, v) → ∃ hi : i < es.size, RelV v es[i].val := by
  obtain ⟨hd, z, hs, xs, pr, o', es, ep, ho, hx, hdt, he, _⟩ := I.hok d _ h
  rw [hd] at ho
  cases ho
  have l1 : es.size = xs.length := size_of_entries he
  have l2 : kvs.length = xs.length := Paired.length pr
  refine ⟨hs, es, ep, hdt, ⟨o, hd, hx, hdt⟩, by omega, fun i k v e => ?_⟩
  obtain ⟨b, hb, e1, e2, e3⟩ := L2.paired_get pr e
  have q := entry_at he i
  rw [hb] at q
  obtain ⟨hi, q2⟩ := Array.getElem?_eq_some_iff.mp q
  exact ⟨hi, by rw [q2]; exact e3⟩
section
variable {P : Program} {w : World} {K : PySem.W.Frag} {tg : Expr} {d : Addr} {o : Obj} {es : Array DictEntry} {ep : Nat}
theorem turn_valsT {kvs : List (List L2.Key × V)} (it : Addr) (hod : o.data = .dict es ep) (hz : es.size = kvs.length) : Turn P w K tg (Itdt d o kvs) [it] it (fun i h => h.IsValIter it d i es.size ep) where
  mem := by simp
  obj := fun i h st b hb => by
    have e : b = it := by simpa using hb
    subst e
    obtain ⟨oi, e, c, dd⟩ := st
    exact ⟨oi, e, fun v z => by rw [dd] at z; cases z⟩
  keep := fun i h h' st k => st.at fun oi e => k it (by simp) oi e
  item := by
    intro X hP hw hK hc i pins s σ H E I hf st hg
    subst hP hw hK
    obtain ⟨hd, hi⟩ := hg
    obtain ⟨f0, f1, f2, f3, f4, f5⟩ := hf it (by simp)
    obtain ⟨hs, es', ep', hdt, hm, hsz, ent⟩ := frzTV I hd
    obtain ⟨rfl, rfl⟩ := dict_ep hod hdt
    obtain ⟨⟨k, v⟩, hkv⟩ : ∃ p, kvs[i]? = some p := ⟨kvs[i], List.getElem?_eq_getElem hi⟩
    obtain ⟨hi2, ru⟩ := ent i k v hkv
    refine PySem.wpAny_pyNext_values_item_raw st hm hi2 fun h' st' sb => ?_
    have I1 : Inv X pins σ H { s with heap := h' } := I.turned (t' := s.toks) (fun b ob hb e => (sb.2 b hb).trans e) f0 f1 f3 f4 f5
    obtain ⟨oi, e, c, dd⟩ := id st'
    exact ⟨_, rfl, go_of (s := { s with heap := h' }) e c dd (by decide) ⟨v, H, I1, ru, ⟨rfl, k, hkv⟩, st', fun b hb => (hf b hb).1⟩⟩
  done := by
    intro X hP hw hK hc i pins s σ H E I hf st hg
    subst hP hw hK
    obtain ⟨hd, hi⟩ := hg
    obtain ⟨f0, f1, f2, f3, f4, f5⟩ := hf it (by simp)
    obtain ⟨hs, es', ep', hdt, hm, hsz, ent⟩ := frzTV I hd
    obtain ⟨rfl, rfl⟩ := dict_ep hod hdt
    exact PySem.wpAny_pyNext_values_end_raw (I.ok.hd hc) st hm (by omega) fun h' eb => ⟨rfl, I.turned (t' := s.toks) (fun b ob hb e => eb b ob hb e) f0 f1 f3 f4 f5⟩
  self := fun A i s Q E st h => wpAny_pyIter_valiter st h
end
section
variable {X : Cx} {tg e : Expr} {td : TE} {apos cpos : Pos}
def iValsT (td : TE) : TI := fun σ H R => td σ H fun x H1 => ∃ d o kvs, x = .ref d ∧ H1 d = some (.frz o (.dT kvs)) ∧ R (Itdt d o kvs) H1
theorem pi_valuesT (he : PE X e td) (hbase : attributeBase e "values" X.env (eval e X.env) = eval e X.env := by rfl) (hline : (apos.endLine == cpos.line) = true := by rfl) : PI X tg (.Call (.Attribute e "values" apos) [] [] cpos) (iValsT td) := by
  refine ⟨fun pins s σ H R I h => ?_⟩
  refine wpAny_Call_method (T := "dict") (id := "dict.values") hbase rfl hline F.plainAttrs_dict F.slot_dict_values F.type_dict_values (thn (he.run pins s σ H _ I h) fun u s1 ⟨x, H1, I1, rx, d, o, kvs, ex, hd, q⟩ => ?_)
  subst ex
  obtain rfl : u = Value.ref d := rx
  obtain ⟨hs, es, ep, hdt, hm, hsz, ent⟩ := frzTV I1 hd
  have hnd : ∃ o, s1.heap.get? d = some o ∧ o.ExactDict := by
    obtain ⟨hd2, z, hs2, xs, pr, o', es', ep', ho, hx, _⟩ := I1.hok d _ hd
    exact ⟨o', ho, hx⟩
  obtain ⟨od, hod, hxd⟩ := hnd
  refine ⟨hm.typeIs, fun a ha => (by cases ha; exact ⟨od, hod, hxd.2.1⟩), ?_⟩
  have I2 : Inv X pins σ H1 { s1 with heap := s1.heap.push { cls := .type "dict_values", data := .fields #[.ref d] } } := I1.kept (t' := s1.toks) fun b ob q => Heap.get?_push_of_some _ q
  have fin : wpAny (model X.prog X.w) X.A (pyIter (.ref s1.heap.objs.size)) (PIE X pins σ tg R) X.xe { s1 with heap := s1.heap.push { cls := .type "dict_values", data := .fields #[.ref d] } } := by
    refine PySem.wpAny_pyIter_values_raw (d := d) (es := es) (ep := ep) ⟨_, Heap.get?_push_size _ rfl, rfl, rfl⟩ (hm.at fun _ e => Heap.get?_push_of_some _ e) (pi_one (tk := s1.toks) I2 _ (turn_valsT _ hdt hsz) ⟨_, Heap.get?_push_size _ rfl, rfl, ?_⟩ q)
    rfl
  show wpAny _ _ (callWith cpos (.builtin "dict.values") [.ref d] [] []) _ X.xe s1
  exact method_meetsIn F.slot_dict_values F.entry_dict_values rfl (PySem.evalArgs_none ⟨rfl, hm.typeIs, F.args_dict_values_1 _, _, PySem.meets_dict_values_raw d hs, ⟨es, ep, hm⟩, fin⟩)
theorem walk_valsT {kvs : List (List L2.Key × V)} {d : Addr} {o : Obj} : Walk (Itdt d o kvs) kvs.length (fun H => H d = some (.frz o (.dT kvs))) (fun i H x H' => H' = H ∧ ∃ k, kvs[i]? = some (k, x)) :=
  ⟨fun _ _ hi q => ⟨q, hi⟩, fun _ q => ⟨q, Nat.le_refl _⟩, fun _ _ _ _ _ _ y => y⟩
end
end Vf

namespace Vf
open PySem L2 PySem.Spec PyProof.Rows
/-! ### max(xs, key=f): xs a list of references, f an own def whose answers are data of one form -/
theorem run_in {X : Cx} {k : Nat} {f : Addr} {fd : FuncData} {ps : List Str} {sp : Sp} (F : FnOk X.prog X.w X.K X.mg X.base CX0 k f fd ps sp) (hb : Binds X.K fd ps []) {B : Around} (hr : Room k B) (hB : B.frames = X.A.frames)
    {pins : List (Addr × Obj)} {σ : L2.St} {H : Hp} {s : Shared} (I : Inv X pins σ H s) {vs : List V} {us : List Value} (r : Vals vs us) {Q : VK} (h : sp vs H Q E0) {T E : Value → Shared → Prop}
    (hT : ∀ u s', EP X pins σ Q u s' → T u s') : wpAny (model X.prog X.w) B (call (.ref f) us) T E s := by
  have hl : us.length = ps.length := by rw [← r.length]; exact F.len _ _ _ _ h
  have e0 : Env0 X.prog X.w X.K X.mg X.base B X.stack s H := by
    have e := I.env0
    exact ⟨hB.trans e.frames, e.mod, e.bs, e.bsz, e.funs, e.frf, e.hok, e.bare⟩
  have b0 := hb s us I.kIn (by rw [List.append_nil]; exact hl)
  rw [List.append_nil] at b0
  refine wpAny_call (codeAny_mono (F.run B X.stack s H ⟨us, []⟩ us vs Q E0 hr e0 b0 r h) fun r s' hq => ?_)
  cases r with
  | error e => exact False.elim hq
  | ok fl =>
    cases fl with
    | ret u => exact hT u s' (I.after hq)
    | next => exact False.elim hq
    | brk => exact False.elim hq
    | cont => exact False.elim hq
structure MxK (K : PySem.W.Frag) (sp : Sp) (a : Addr) (ps : List Addr) (kd : Nat → PyData) (J : Hp → Prop) : Prop where
  lst : ∀ H, J H → SqL K H a (ps.map V.ref)
  turn : ∀ i p H, ps[i]? = some p → J H → sp [.ref p] H (fun y H' => J H' ∧ (∀ z d, Dp K H z d → Dp K H' z d) ∧ Dp K H' y (kd i)) E0
  alk : ∀ i j, i < ps.length → j < ps.length → PySem.W.alike (kd i) (kd j) = true
  nn : ∀ i, i < ps.length → kd i ≠ .none
  dep : ∀ i, i < ps.length → (kd i).depth ≤ 60
abbrev mxB (kd : Nat → PyData) (i j : Nat) : Bool := PySem.W.dataLt (kd j) (kd i)
theorem argBest_lt (bt : Nat → Nat → Bool) : ∀ j, argBest bt j ≤ j
  | 0 => Nat.le_refl _
  | j + 1 => by
    have ih := argBest_lt bt j
    show (if bt (j + 1) (argBest bt j) = true then j + 1 else argBest bt j) ≤ j + 1
    split <;> omega
def mxS (v : Value) (kb : Value) (c : Nat) : Obj := { cls := .type "list", dict := none, data := .seq #[v, kb] c, slots := #[] }
structure MxSt (X : Cx) (pins : List (Addr × Obj)) (σ : L2.St) (a : Addr) (ps : List Addr) (kd : Nat → PyData) (J : Hp → Prop) (S it : Addr) (j : Nat) (s : Shared) : Prop where
  ex : ∃ (H : Hp) (y : V) (kb : Value) (c : Nat) (p : Addr), Inv X pins σ H s ∧ J H ∧ RelV y kb ∧ Dp X.K H y (kd (argBest (mxB kd) j)) ∧ ps[argBest (mxB kd) j]? = some p ∧ (FpOk X pins H S ∧ FpOk X pins H it) ∧ S ≠ it ∧
    s.heap.get? S = some (mxS (.ref p) kb c) ∧ s.heap.IsListIter it a (j + 1)
section
variable {X : Cx} {k : Nat} {f a : Addr} {fd : FuncData} {nm : List Str} {sp : Sp} {pins : List (Addr × Obj)} {σ : L2.St} {ps : List Addr} {kd : Nat → PyData} {J : Hp → Prop} {S it : Addr} {R : Result → Shared → Prop}
theorem fp_at {H H' : Hp} {b : Addr} (h : FpOk X pins H b) (n : H' b = none) : FpOk X pins H' b := ⟨n, h.2⟩
theorem iter_nocell {h : Heap} {it a : Addr} {i : Nat} (st : h.IsListIter it a i) : ∃ o, h.get? it = some o ∧ ∀ v, o.data ≠ .cell v := by
  obtain ⟨o, e, c, d⟩ := st
  exact ⟨o, e, fun v z => by rw [d] at z; cases z⟩
/-- f at the item, S and the iterator held -/
theorem mx_turn (F : FnOk X.prog X.w X.K X.mg X.base CX0 k f fd nm sp) (hb : Binds X.K fd nm []) (hr : Room (k + 1) X.A) (M : MxK X.K sp a ps kd J) {H : Hp} {s : Shared} {i m : Nat} {p : Addr} {o : Obj} (hp : ps[i]? = some p) (I : Inv X pins σ H s) (hJ : J H)
    (fS : FpOk X pins H S) (fI : FpOk X pins H it) (hS : s.heap.get? S = some o) (hoc : ∀ v, o.data ≠ .cell v) (st : s.heap.IsListIter it a m) {T E : Value → Shared → Prop}
    (hT : ∀ u s' H' y, Inv X pins σ H' s' → J H' → RelV y u → Dp X.K H' y (kd i) → (∀ z d, Dp X.K H z d → Dp X.K H' z d) → FpOk X pins H' S → FpOk X pins H' it → s'.heap.get? S = some o → s'.heap.IsListIter it a m → T u s') :
    wpAny (model X.prog X.w) X.A.in1 (call (.ref f) [.ref p]) T E s := by
  have I' : Inv X (pins ++ pinsAt [S, it] s.heap) σ H s := I.pinned (fp := [S, it]) (fun b hb' => by
      rcases List.mem_cons.mp hb' with e | hb'
      · rw [e]; exact fS
      · rw [List.mem_singleton.mp hb']; exact fI) (fun b hb' => by
      rcases List.mem_cons.mp hb' with e | hb'
      · rw [e]; exact ⟨o, hS, hoc⟩
      · rw [List.mem_singleton.mp hb']; exact iter_nocell st)
  refine run_in F hb hr.in1 rfl I' (vs := [.ref p]) (.cons rfl .nil) (M.turn i p H hp hJ) fun u s' q => ?_
  obtain ⟨y, H', I2, ry, j2, dk, dy⟩ := q
  obtain ⟨oi, hi, ci⟩ := iter_nocell st
  have pS := I2.pin (S, o) (List.mem_append_right _ (List.mem_append_right _ (mem_pinsAt (by simp) hS)))
  have pI := I2.pin (it, oi) (List.mem_append_right _ (List.mem_append_right _ (mem_pinsAt (by simp) hi)))
  refine hT u s' H' y I2.unpinned j2 ry dy dk (fp_at fS pS.2.1) (fp_at fI pI.2.1) pS.1 (st.at fun o' e => ?_)
  rw [hi] at e
  cases e
  exact pI.1
theorem mx_loop (F : FnOk X.prog X.w X.K X.mg X.base CX0 k f fd nm sp) (hb : Binds X.K fd nm []) (hr : Room (k + 1) X.A) (M : MxK X.K sp a ps kd J) (kw : List (Str × Value)) :
    ∀ (m j : Nat) (s : Shared), ps.length - (j + 1) = m → j + 1 ≤ ps.length → MxSt X pins σ a ps kd J S it j s →
    (∀ (H' : Hp) (s' : Shared) (p : Addr), Inv X pins σ H' s' → J H' → ps[argBest (mxB kd) (ps.length - 1)]? = some p → R (.ok (.ret (.ref p))) s') → codeAny (model X.prog X.w) X.A (.builtin "max.loop" ⟨[.ref it, .ref f, .ref S], kw⟩) R s := by
  have hname : (toString "max" ++ toString ".loop" : String) = "max.loop" := by decide
  intro m
  induction m with
  | zero =>
    intro j s hm hj ⟨H, y, kb, c, p, I, hJ, ry, dy, hp, ⟨fS, fI⟩, ne, hS, st⟩ hR
    obtain ⟨its, rv, pl, hz⟩ := I.list (M.lst H hJ)
    have hl := rv.length
    rw [List.length_map] at hl
    refine codeAny_builtin PySem.F.entry_max_loop ?_
    rw [Around.under_plainId PySem.F.plain_max_loop _]
    show wpAny _ X.A.in1 (seqItems? (.ref S) >>= _) _ _ s
    refine wpAny_bind (wpAny_seqItems hS rfl ?_)
    refine wpAny_bind (wpAny_tryCatch ?_)
    refine wpAny_pyNext_list_end hr.hd st pl.isList (by simp; omega) fun h' eb => ?_
    have I1 : Inv X pins σ H { s with heap := h' } := I.turned (t' := s.toks) (fun b o hb e => eb b o hb e) fI.1 fI.2.1 fI.2.2.2.1 fI.2.2.2.2.1 fI.2.2.2.2.2
    have hS' : ({ s with heap := h' } : Shared).heap.get? S = some (mxS (.ref p) kb c) := eb S _ ne hS
    show wpAny _ X.A.in1 (updateSeq S (fun _ => #[]) >>= _) _ _ _
    refine wpAny_bind (wpAny_updateSeq hS' rfl (wpAny_bind (wpAny_letGo (wpAny_pure ?_))))
    have I2 := I1.turned (it := S) (t' := s.toks) (h' := h'.update S (Obj.mapSeq fun _ => #[])) (fun b o hb e => (Heap.get?_update_other _ _ (Ne.symm hb)).trans e) fS.1 fS.2.1 fS.2.2.2.1 fS.2.2.2.2.1 fS.2.2.2.2.2
    refine hR H _ p I2 hJ ?_
    rw [show ps.length - 1 = j from by omega]
    exact hp
  | succ m ih =>
    intro j s hm hj ⟨H, y, kb, c, p, I, hJ, ry, dy, hp, ⟨fS, fI⟩, ne, hS, st⟩ hR
    obtain ⟨its, rv, pl, hz⟩ := I.list (M.lst H hJ)
    have hlt : j + 1 < ps.length := by omega
    have hx : ps[j + 1]? = some ps[j + 1] := List.getElem?_eq_getElem hlt
    obtain ⟨u, hu, ru⟩ := rv.get (i := j + 1) (x := .ref ps[j + 1]) (by rw [List.getElem?_map, hx]; rfl)
    cases ru
    generalize ps[j + 1] = q at hx hu
    refine codeAny_builtin PySem.F.entry_max_loop ?_
    rw [Around.under_plainId PySem.F.plain_max_loop _]
    show wpAny _ X.A.in1 (seqItems? (.ref S) >>= _) _ _ s
    refine wpAny_bind (wpAny_seqItems hS rfl ?_)
    refine wpAny_bind (wpAny_tryCatch ?_)
    refine wpAny_pyNext_list_item st pl.isList (x := .ref q) (by simpa using hu) fun h' st' sb => ?_
    have I1 : Inv X pins σ H { s with heap := h' } := I.turned (t' := s.toks) (fun b o hb e => (sb.2 b hb).trans e) fI.1 fI.2.1 fI.2.2.2.1 fI.2.2.2.2.1 fI.2.2.2.2.2
    have hS' : ({ s with heap := h' } : Shared).heap.get? S = some (mxS (.ref p) kb c) := (sb.2 S ne).trans hS
    refine wpAny_bind (wpAny_tryCatch (wpAny_holding (mx_turn F hb hr M hx I1 hJ fS fI hS' (fun v z => nomatch z) st' fun kx s2 H2 y2 I2 j2 ry2 dy2 dk fS2 fI2 hS2 st2 => ?_)))
    have dy3 := dk _ _ dy
    have hbl := argBest_lt (mxB kd) j
    obtain ⟨as1, r1⟩ := Dp.reads I2 _ _ _ dy2 ry2
    obtain ⟨as2, r2⟩ := Dp.reads I2 _ _ _ dy3 ry
    refine wpAny_bind (wpAny_tryCatch (wpAny_holding (wpAny_bind (PySem.W.gt_data r1 r2 (M.alk _ _ hlt (by omega)) (M.nn _ hlt) (by
      have h1 := Nat.min_le_left (kd (j + 1)).depth (kd (argBest (mxB kd) j)).depth
      have h2 := M.dep _ hlt
      have h3 := hr.un
      show X.A.units + 1 + _ < _
      omega) ?_))))
    refine wpAny_bind (wpAny_holding (wpAny_truthy_bool ?_))
    refine wpAny_bind (wpAny_letGo (wpAny_pure ?_))
    have eB : argBest (mxB kd) (j + 1) = if PySem.W.dataLt (kd (argBest (mxB kd) j)) (kd (j + 1)) = true then j + 1 else argBest (mxB kd) j := rfl
    cases hcmp : PySem.W.dataLt (kd (argBest (mxB kd) j)) (kd (j + 1)) with
    | true =>
      rw [hcmp, if_pos rfl] at eB
      simp only [if_true]
      refine wpAny_bind (wpAny_updateSeq hS2 rfl (wpAny_bind (wpAny_letGo ?_)))
      rw [hname]
      refine wpAny_pure ⟨plainId_quiet PySem.F.plain_max_loop _, ih (j + 1) _ (by omega) hlt ⟨H2, y2, kx, c, q, ?_, j2, ry2, by rw [eB]; exact dy2, by rw [eB]; exact hx, ⟨fS2, fI2⟩, ne, ?_, st2.at fun o e => ?_⟩ hR⟩
      · exact I2.turned (it := S) (t' := s2.toks) (fun b o hb e => (Heap.get?_update_other _ _ (Ne.symm hb)).trans e) fS2.1 fS2.2.1 fS2.2.2.2.1 fS2.2.2.2.2.1 fS2.2.2.2.2.2
      · exact Heap.get?_update_self _ hS2 rfl
      · exact (Heap.get?_update_other _ _ ne).trans e
    | false =>
      rw [hcmp, if_neg Bool.false_ne_true] at eB
      simp only [Bool.false_eq_true, if_false]
      refine wpAny_bind (wpAny_letGo ?_)
      rw [hname]
      exact wpAny_pure ⟨plainId_quiet PySem.F.plain_max_loop _, ih (j + 1) _ (by omega) hlt ⟨H2, y, kb, c, p, I2, j2, ry, by rw [eB]; exact dy3, by rw [eB]; exact hp, ⟨fS2, fI2⟩, ne, hS2, st2⟩ hR⟩
end
section
variable {X : Cx} {k : Nat} {f a : Addr} {fd : FuncData} {nm : List Str} {sp : Sp} {pins : List (Addr × Obj)} {σ : L2.St} {ps : List Addr} {kd : Nat → PyData} {J : Hp → Prop}
theorem mx_start (F : FnOk X.prog X.w X.K X.mg X.base CX0 k f fd nm sp) (hb : Binds X.K fd nm []) (hr : Room (k + 1) X.A) (M : MxK X.K sp a ps kd J) {S it : Addr} {R : Result → Shared → Prop} (kw : List (Str × Value)) (hn : 0 < ps.length) {H : Hp} {s : Shared} {c : Nat} (I : Inv X pins σ H s) (hJ : J H)
    (fS : FpOk X pins H S) (fI : FpOk X pins H it) (ne : S ≠ it) (hS : s.heap.get? S = some { cls := .type "list", dict := none, data := .seq #[] c, slots := #[] }) (st : s.heap.IsListIter it a 0)
    (hR : ∀ (H' : Hp) (s' : Shared) (p : Addr), Inv X pins σ H' s' → J H' → ps[argBest (mxB kd) (ps.length - 1)]? = some p → R (.ok (.ret (.ref p))) s') : codeAny (model X.prog X.w) X.A (.builtin "max.loop" ⟨[.ref it, .ref f, .ref S], kw⟩) R s := by
  have hname : (toString "max" ++ toString ".loop" : String) = "max.loop" := by decide
  obtain ⟨its, rv, pl, hz⟩ := I.list (M.lst H hJ)
  have hx : ps[0]? = some ps[0] := List.getElem?_eq_getElem hn
  obtain ⟨u, hu, ru⟩ := rv.get (i := 0) (x := .ref ps[0]) (by rw [List.getElem?_map, hx]; rfl)
  cases ru
  generalize ps[0] = q at hx hu
  refine codeAny_builtin PySem.F.entry_max_loop ?_
  rw [Around.under_plainId PySem.F.plain_max_loop _]
  show wpAny _ X.A.in1 (seqItems? (.ref S) >>= _) _ _ s
  refine wpAny_bind (wpAny_seqItems hS rfl ?_)
  refine wpAny_bind (wpAny_tryCatch ?_)
  refine wpAny_pyNext_list_item st pl.isList (x := .ref q) (by simpa using hu) fun h' st' sb => ?_
  have I1 : Inv X pins σ H { s with heap := h' } := I.turned (t' := s.toks) (fun b o hb e => (sb.2 b hb).trans e) fI.1 fI.2.1 fI.2.2.2.1 fI.2.2.2.2.1 fI.2.2.2.2.2
  have hS' : ({ s with heap := h' } : Shared).heap.get? S = some { cls := .type "list", dict := none, data := .seq #[] c, slots := #[] } := (sb.2 S ne).trans hS
  refine wpAny_bind (wpAny_tryCatch (wpAny_holding (mx_turn F hb hr M hx I1 hJ fS fI hS' (fun v z => nomatch z) st' fun kx s2 H2 y2 I2 j2 ry2 dy2 dk fS2 fI2 hS2 st2 => ?_)))
  refine wpAny_bind (wpAny_updateSeq hS2 rfl ?_)
  rw [hname]
  refine wpAny_pure ⟨plainId_quiet PySem.F.plain_max_loop _, mx_loop F hb hr M kw _ 0 _ rfl hn ⟨H2, y2, kx, c + 1, q, ?_, j2, ry2, dy2, hx, ⟨fS2, fI2⟩, ne, ?_, st2.at fun o e => ?_⟩ hR⟩
  · exact I2.turned (it := S) (t' := s2.toks) (fun b o hb e => (Heap.get?_update_other _ _ (Ne.symm hb)).trans e) fS2.1 fS2.2.1 fS2.2.2.2.1 fS2.2.2.2.2.1 fS2.2.2.2.2.2
  · exact Heap.get?_update_self _ hS2 rfl
  · exact (Heap.get?_update_other _ _ ne).trans e
/-- the best of a row, the first of equals -/
abbrev mxI (kd : Nat → PyData) (n : Nat) : Nat := argBest (mxB kd) (n - 1)
def rMaxF (K : PySem.W.Frag) (sp : Sp) : List V → Hp → VK → Prop := fun vs H Q => ∃ (a : Addr) (ps : List Addr) (kd : Nat → PyData) (J : Hp → Prop), vs = [.ref a] ∧ 0 < ps.length ∧ J H ∧ MxK K sp a ps kd J ∧
  ∀ H' p, J H' → ps[mxI kd ps.length]? = some p → Q (.ref p) H'
theorem cr_maxF (F : FnOk X.prog X.w X.K X.mg X.base CX0 k f fd nm sp) (hb : Binds X.K fd nm []) (hr : Room (k + 1) X.A) : CallRK X (.builtin "max") [Str.ofString "key"] (fun vs zs H Q => zs = [.ref f] ∧ rMaxF X.K sp vs H Q) := by
  intro pins s σ H vs zs us ws Q I r rz hq
  obtain ⟨rfl, a, ps, kd, J, rfl, hn, hJ, M, q⟩ := hq
  obtain rfl := Vals.ref1 r
  obtain ⟨w1, rfl, e1⟩ := vals1 rz
  obtain rfl : w1 = Value.ref f := e1
  have hname : (toString "max" ++ toString ".loop" : String) = "max.loop" := by decide
  refine PyProof.Rows.kmk_tree PySem.F.kind_max PySem.F.plain_max PySem.F.entry_max (PyProof.Rows.kmk_max_key _ _) ?_
  refine wpAny_bind (wpAny_of_eq (a := [some (.ref f), none]) (by rfl) ?_)
  refine wpAny_bind (wpAny_pure ?_)
  obtain ⟨its, rv, pl, hz⟩ := I.list (M.lst H hJ)
  refine wpAny_bind (wpAny_pyIter_list pl.isList ?_)
  have I1 : Inv X pins σ H { s with heap := s.heap.push { cls := .type "list_iterator", data := .fields #[.ref a, .int 0 0] } } := I.kept (t' := s.toks) fun b o e => Heap.get?_push_of_some _ e
  have fI : FpOk X pins H s.heap.objs.size := I.fpOk (Nat.le_refl _) (I.hok.fresh (Nat.le_refl _))
  have st0 : ({ s with heap := s.heap.push { cls := .type "list_iterator", data := .fields #[.ref a, .int 0 0] } } : Shared).heap.IsListIter s.heap.objs.size a 0 := ⟨_, Heap.get?_push_size _ rfl, rfl, rfl⟩
  generalize hs1 : ({ s with heap := s.heap.push { cls := .type "list_iterator", data := .fields #[.ref a, .int 0 0] } } : Shared) = s1 at I1 st0 ⊢
  have sz1 : s1.heap.objs.size = s.heap.objs.size + 1 := by rw [← hs1]; exact size_push' ..
  have fS : FpOk X pins H s1.heap.objs.size := I1.fpOk (Nat.le_refl _) (I1.hok.fresh (Nat.le_refl _))
  refine wpAny_bind (wpAny_newObj_type ?_)
  rw [hname]
  have I2 : Inv X pins σ H { s1 with heap := s1.heap.push { cls := .type "list", data := .seq #[] 0 } } := I1.kept (t' := s1.toks) fun b o e => Heap.get?_push_of_some _ e
  exact wpAny_pure ⟨plainId_quiet PySem.F.plain_max_loop _, mx_start F hb hr M _ hn I2 hJ fS fI (fun z => by rw [sz1] at z; exact absurd z (Nat.succ_ne_self _)) (Heap.get?_push_size _ rfl) (st0.at fun o e => Heap.get?_push_of_some _ e) fun H' s' p I' hJ' hp => ⟨.ref p, H', I', rfl, q H' p hJ' hp⟩⟩
end
def tMaxF (K : PySem.W.Frag) (sp : Sp) (ta : TA) : TE := fun σ H Q => ta σ H fun vs H1 => rMaxF K sp vs H1 Q
theorem pe_maxF {X : Cx} {k j : Nat} {x : Str} {sp : Sp} {p p2 p3 pos : Pos} {e : Expr} {t : TA} (c : Cal X.prog X.w X.K X.mg X.base k x sp) (hr : Room j X.A) (hk : k + 1 ≤ j) (hg : Gl X "max") (hm : X.mg "max" = none) (hgx : Gl X x) (ha : PA X [e] t)
    (hdb : (x == ("__debug__" : Str)) = false := by decide)
    (he : backTo pos (starEach [e] X.env) = (false, eval e X.env) :: backTo pos (starEach [] X.env) := by rfl) (hpl : (backTo pos (starEach [e] X.env)).any (·.1) = false := by rfl)
    (hall : (backToKw pos (keywordEach [⟨some "key", .Name x p2, p3⟩] X.env)).all (·.1.isSome) = true := by rfl) (hnone : (backToKw pos (keywordEach [⟨some "key", .Name x p2, p3⟩] X.env)).any (·.1.isNone) = false := by rfl) (hks : (backToKw pos (keywordEach [⟨some "key", .Name x p2, p3⟩] X.env)).filterMap (·.1) = [Str.ofString "key"] := by rfl) :
    PE X (.Call (.Name "max" p) [e] [⟨some "key", .Name x p2, p3⟩] pos) (tMaxF X.K sp t) := by
  obtain ⟨f, fd, ps, F, hmx, hkp, hb⟩ := c.ex
  refine ⟨fun pins s σ H Q I h => ?_⟩
  refine wpAny_Call_Name_kw (ld_blt I hg hm (u := .builtin "max") (by first | rfl | decide +kernel) ?_ (by decide) (by decide))
  refine PyProof.Rows.callWith_kw (thn (ha.run pos pins s σ H _ I h) fun us s1 ⟨vs, H1, I1, r1, q1⟩ => thn ((pk_cons (pe_glob (v := .ref f) hgx hmx rfl hdb) pk_nil).run pos pins s1 σ H1 (fun zs H2 => zs = [V.ref f] ∧ rMaxF X.K sp vs H2 Q) I1 ⟨rfl, q1⟩) fun ws s2 ⟨zs, H2, I2, r2, q2⟩ => ?_) he hpl hall hnone
  rw [hks]
  exact cr_maxF F hb (hr.mono hk) pins s2 σ H2 vs zs us ws Q I2 r1 r2 q2
end Vf

namespace Vf
open PySem L2 PySem.Spec PyProof.Rows He
/-! ### a written tuple, known to be a plain one -/
def tTupP (t : TA) : TE := fun σ H Q => t σ H fun xs H1 => xs.length ≤ sizeLine ∧ ∀ p H', H1 p = none → Same H1 H' → PlT H' p xs → (∀ b, b ≠ p → H' b = H1 b) → Q (.ref p) H'
theorem pe_tupP {X : Cx} {es : List Expr} {x1} {pos : Pos} {t : TA} (h : PA X es t) : PE X (.Tuple es x1 pos) (tTupP t) := by
  refine ⟨fun pins s σ H Q I hq => ?_⟩
  refine wpAny_Tuple_spliced (thn (h.run pos pins s σ H _ I hq) fun us s1 ⟨xs, H1, I1, r, z, q⟩ => ⟨by rw [← r.length]; exact z, ?_⟩)
  have hf : H1 s1.heap.objs.size = none := I1.hok.fresh (Nat.le_refl _)
  have J : Inv X pins σ (upd H1 s1.heap.objs.size (.frz { cls := .type "tuple", data := .seq us.toArray } (.tup xs))) { s1 with heap := s1.heap.push { cls := .type "tuple", data := .seq us.toArray } } :=
    I1.laid (t' := s1.toks) (fun b u e => Heap.get?_push_of_some _ e) (Nat.le_refl _) ⟨Heap.get?_push_size _ rfl, z, us, r, ⟨_, Heap.get?_push_size _ rfl, rfl, _, rfl⟩⟩
  exact ⟨.ref s1.heap.objs.size, _, J, rfl, q _ _ hf (same_new hf) ⟨_, rfl, upd_same⟩ fun b hb => upd_ne hb⟩
theorem e_tupP {t : TA} {σ : L2.St} {H : Hp} {Q : VK} (q : t σ H fun xs H1 => xs.length ≤ sizeLine ∧ ∀ p H', H1 p = none → Same H1 H' → PlT H' p xs → (∀ b, b ≠ p → H' b = H1 b) → Q (.ref p) H') : tTupP t σ H Q := q
/-! ### an own class beside lists -/
def clsLB (x : Str) (K : PySem.W.Frag) : Bool := decide (PySem.W.kitOne K (.type "list") (.ref (ga K x)) = some false) && PySem.W.notFirst K (ga K x) (.type "list")
structure ClsL (K : PySem.W.Frag) (x : Str) : Prop where
  lst : PySem.W.kitOne K (.type "list") (.ref (ga K x)) = some false
  nf : PySem.W.notFirst K (ga K x) (.type "list") = true
theorem clsLB_ok {x : Str} {K : PySem.W.Frag} (c : clsLB x K = true) : ClsL K x := by
  unfold clsLB at c
  obtain ⟨c1, c2⟩ := ba c
  exact ⟨of_decide_eq_true c1, c2⟩
/-- x == y, x an instance with its own __eq__; y one too, a tuple or a list -/
def rEqOL (K : PySem.W.Frag) (C : Addr) (sp : Sp) (E : XK) : R2 := fun x y H Q => ∃ (a b dx : Addr) (fs : List (Str × V)), x = .ref a ∧ y = .ref b ∧ H a = some (.ins C dx fs) ∧
  ((∃ (dy : Addr) (gs : List (Str × V)), H b = some (.ins C dy gs)) ∨ (PySem.W.notFirst K C (.type "tuple") = true ∧ ∃ ys, SqT K H b ys) ∨ (PySem.W.notFirst K C (.type "list") = true ∧ ∃ ys, SqL K H b ys)) ∧ sp [x, y] H (fun z H' => ∃ t, z = .bl t ∧ Q z H') E
theorem op_eqOwnL {X : Cx} {CX : CXT} {C f : Addr} {fd : FuncData} {ps : List Str} {sp : Sp} {E : XK} {n : Nat} (F : FnOk X.prog X.w X.K X.mg X.base CX n f fd ps sp)
    (hs : PySem.W.findIn X.K (.ref C) "__eq__" = some (some (.ref f))) (hf : PySem.W.isFn X.K (.ref f) = true) (hb : Binds X.K fd ps []) (hx : Passes CX X E) (hr : Room n X.A) : OpR X (compareOp .Eq) (rEqOL X.K C sp E) := by
  intro pins s σ H x y v u Q I rx ry q
  obtain ⟨a, b, dx, fs, rfl, rfl, ha, hy, hsp⟩ := q
  cases rx
  cases ry
  obtain ⟨mA, J, _⟩ := ins_get I.hok ha
  obtain ⟨od, J, _⟩ := J.look
  obtain ⟨m, hF⟩ := I.fr
  have go : ∀ tb : Value, PySem.W.Looks (model X.prog X.w) s.heap (typeOf (.ref b)) tb → PySem.W.notFirst X.K C tb = true → wpAny (model X.prog X.w) X.A (richCompare .Eq (.ref a) (.ref b)) (EP X pins σ Q) X.xe s := fun tb ht hn => by
    refine PySem.W.cmp_K (op := .Eq) (tb := tb) hr.units0 hF I.ok.mod.kin J ht hn hs hf ?_
    have hl := F.len _ _ _ _ hsp
    have r2 : Vals [V.ref a, V.ref b] [Value.ref a, Value.ref b] := .cons rfl (.cons rfl .nil)
    refine wpAny_call (codeAny_mono (F.run X.A X.stack s H ⟨[.ref a, .ref b], []⟩ [.ref a, .ref b] [.ref a, .ref b] _ E hr I.env0 (by
      have := hb s [.ref a, .ref b] I.kIn (by simpa using hl)
      simpa using this) r2 hsp) fun r s' hq => ?_)
    cases r with
    | error e => exact hx pins σ H s e s' I hq
    | ok fl =>
      cases fl with
      | ret w =>
        obtain ⟨z, H', I', rz, t, ez, hQ⟩ := I.after hq
        subst ez
        cases rz
        exact ⟨.bl t, H', I', rfl, hQ⟩
      | next => exact False.elim hq
      | brk => exact False.elim hq
      | cont => exact False.elim hq
  rcases hy with ⟨dy, gs, hy⟩ | ⟨hn, ys, hy⟩ | ⟨hn, ys, hy⟩
  · obtain ⟨mB, J', _⟩ := ins_get I.hok hy
    obtain ⟨od', J', _⟩ := J'.look
    exact go (.ref C) J'.type (by simp [PySem.W.notFirst])
  · obtain ⟨its, rv, ⟨o, ho, hc, _⟩, _⟩ := I.tuple hy
    exact go (.type "tuple") (fun A Q E s' k z => wpAny_typeOf (T := "tuple") ⟨o, k _ _ ho, hc⟩ z) hn
  · obtain ⟨its, rv, ⟨o, n, ho, hc, _⟩, _⟩ := I.list hy
    exact go (.type "list") (fun A Q E s' k z => wpAny_typeOf (T := "list") ⟨o, k _ _ ho, hc⟩ z) hn
theorem op_eqCL {X : Cx} {k j : Nat} {x : Str} {sp : Sp} (c : EqC X.prog X.w X.K X.mg X.base k x sp) (hr : Room j X.A) (hk : k ≤ j) : OpR X (compareOp .Eq) (rEqOL X.K (ga X.K x) sp E0) := by
  obtain ⟨f, fd, ps, F, hs, hf, hb⟩ := c.ex
  exact op_eqOwnL F hs hf hb pass0 (hr.mono hk)
/-! ### xs != ys, lists of the same objects -/
def rNeR (K : PySem.W.Frag) : R2 := fun x y H Q => ∃ (a b : Addr) (ps : List Addr), x = .ref a ∧ y = .ref b ∧ SqL K H a (ps.map V.ref) ∧ SqL K H b (ps.map V.ref) ∧ Q (.bl false) H
theorem op_neR {X : Cx} {k : Nat} (hr : Room k X.A) : OpR X (compareOp .NotEq) (rNeR X.K) := by
  intro pins s σ H x y v u Q I rx ry q
  obtain ⟨a, b, ps, rfl, rfl, ha, hb, q⟩ := q
  cases rx
  cases ry
  obtain ⟨its, rv, pl, _⟩ := I.list ha
  obtain ⟨its2, rv2, pl2, _⟩ := I.list hb
  have e1 := refs_of rv
  have e2 := refs_of rv2
  subst e1 e2
  have h := SeqAt.RcNeAt.lists (A := X.A) (s := s) (e := fun _ => true) pl.isList pl2.isList rfl hr.units0 fun j h1 h2 => SeqAt.EqAt.same _
  have e0 : ((List.range (ps.map Value.ref).toArray.size).all fun _ => true) = true := List.all_eq_true.mpr fun _ _ => rfl
  rw [e0] at h
  have h2 : SeqAt.RcNeAt X.A s (.ref a) (.ref b) false := h
  exact h2 X.prog X.w X.xe _ ⟨.bl false, H, I, rfl, q⟩
/-! ### data: ints, bools, texts, tuples of ints -/
theorem plain_ints : ∀ xs : List Int, PyData.plainAll (Di xs) = true
  | [] => by simp [PyData.plainAll]
  | x :: xs => by
    show PyData.plainAll (.int x :: Di xs) = true
    rw [PyData.plainAll, plain_ints xs]
    simp [PyData.plain]
theorem e_eqPV {K : PySem.W.Frag} {x y : V} {H : Hp} {Q : VK} {d e : PyData} (h1 : Dp K H x d) (h2 : Dp K H y e) (p1 : d.plain = true) (p2 : e.plain = true) (hd : d.depth ≤ 60) {b : Bool} (hb : PyData.eqv d e = b) (q : Q (.bl b) H) : rEqP K x y H Q := ⟨d, e, h1, h2, p1, p2, hd, by rw [hb]; exact q⟩
theorem e_nePV {K : PySem.W.Frag} {x y : V} {H : Hp} {Q : VK} {d e : PyData} (h1 : Dp K H x d) (h2 : Dp K H y e) (p1 : d.plain = true) (p2 : e.plain = true) (hd : d.depth ≤ 60) {b : Bool} (hb : PyData.eqv d e = b) (q : Q (.bl (!b)) H) : rNeP K x y H Q := ⟨d, e, h1, h2, p1, p2, hd, by rw [hb]; exact q⟩
theorem dp_ti {K : PySem.W.Frag} {H : Hp} {a : Addr} {xs : List Int} (h : SqT K H a (xs.map V.int)) : Dp K H (.ref a) (.tuple (Di xs)) := .tup h (dpAll_ints xs)
theorem e_eqPT {K : PySem.W.Frag} {H : Hp} {Q : VK} {a b : Addr} {xs ys : List Int} (h1 : SqT K H a (xs.map V.int)) (h2 : SqT K H b (ys.map V.int)) (q : Q (.bl (decide (xs = ys))) H) : rEqP K (.ref a) (.ref b) H Q :=
  e_eqPV (dp_ti h1) (dp_ti h2) (by simp [PyData.plain, plain_ints]) (by simp [PyData.plain, plain_ints]) (by
    show PyData.depthAll (Di xs) + 1 ≤ 60
    rw [depthAll_ints]; decide) (eqvAll_ints xs ys) q
end Vf

namespace Vf
open PySem L2 PySem.Spec PyProof.Rows He
/-- a name that the top imports -/
def bfB (x : Str) (id : String) (K : PySem.W.Frag) : Bool := eqO (PySem.W.nsIn K mainGlobals x) (some (some (.builtin id)))
theorem bfB_ok {K : PySem.W.Frag} {h : Heap} {mg : Str → Option Value} (X : K.In h) (G : h.Ns mainGlobals mg) {x : Str} {id : String} (c : bfB x id K = true) : mg x = some (.builtin id) := PySem.W.mg_of X G (eqO_ok c)
/-- s.index(y), y found -/
theorem mt_idxS {X : Cx} : MtR X "str.index" (fun x xs H Q => ∃ (a b : Str) (k : Nat), x = .str a ∧ xs = [.str b] ∧ Txt.index0 a b = some k ∧ Q (.int (k : Nat)) H) := by
  intro pins s σ H x xs v us Q I rx rs h
  obtain ⟨a, b, k, rfl, rfl, hy, hq⟩ := h
  obtain ⟨t, rfl⟩ := rx
  cases rs with
  | cons r1 rs =>
    cases rs
    obtain ⟨u, rfl⟩ := r1
    cases q : Builtin.Str.occurrences a b 0 a.length 1 with
    | nil =>
      unfold Txt.index0 at hy
      rw [q] at hy
      cases hy
    | cons k' rest =>
      unfold Txt.index0 at hy
      rw [q] at hy
      cases hy
      exact PySem.SC.index q ⟨.int (k : Nat), H, I.tok _, ⟨_, rfl⟩, hq⟩
/-- reversed(range(a, b, c)) -/
def PRg3 (X : Cx) (e : Expr) (t : L2.St → Hp → (Int → Int → Int → Nat → Hp → Prop) → Prop) : Prop :=
  ∀ (pins : List (Addr × Obj)) (s : Shared) (σ : L2.St) (H : Hp) (Q : Int → Int → Int → Nat → Hp → Prop), Inv X pins σ H s → t σ H Q →
    wpAny (model X.prog X.w) X.A (eval e X.env) (fun x s' => ∃ r a b c n t u v H', x = .ref r ∧ IsRange s'.heap r a b c t u v ∧ Builtin.Range.handS_smallRev a b c = true ∧ Builtin.Range.rangeSize a b c = (n : Nat) ∧ Inv X pins σ H' s' ∧ Q a b c n H') X.xe s
def tRg3 (ta : TA) : L2.St → Hp → (Int → Int → Int → Nat → Hp → Prop) → Prop := fun σ H Q => ta σ H fun vs H1 => ∃ i j k n, vs = [.int i, .int j, .int k] ∧ RgC i j k n ∧ Builtin.Range.handS_smallRev i j k = true ∧ Q i j k n H1
theorem prg_3 {X : Cx} {a b c : Expr} {ta : TA} {p pos : Pos} (hg : Gl X "range") (hm : X.mg "range" = none) (ha : PA X [a, b, c] ta)
    (hs : starEach [a, b, c] X.env = (false, eval a X.env) :: starEach [b, c] X.env := by rfl) (hpl : (backTo pos (starEach [b, c] X.env)).any (·.1) = false := by rfl) : PRg3 X (.Call (.Name "range" p) [a, b, c] [] pos) (tRg3 ta) := by
  intro pins s σ H Q I h
  refine Call_ (ld_blt I hg hm boot_range (PyProof.Rows.callWith_type1 (thn (ha.run pos pins s σ H _ I h) fun us s1 ⟨vs, H1, I1, r1, q1⟩ => ?_) hs hpl))
  obtain ⟨i, j, k, n, e, ⟨c0, c1, c2, c3⟩, hr, q⟩ := q1
  subst e
  cases r1 with
  | cons r rr =>
    cases rr with
    | cons r' rr =>
      cases rr with
      | cons r'' rr =>
        cases rr
        obtain ⟨t, rfl⟩ := r
        obtain ⟨t', rfl⟩ := r'
        obtain ⟨t'', rfl⟩ := r''
        exact call_range_3 c0 ⟨_, i, j, k, n, _, _, _, H1, rfl, IsRange.new .., hr, c3, I1.kept fun b u e => Heap.get?_push_of_some _ e, q⟩ (.inl (PyProof.noPylong_small c1))
def iRevR3 (tr : L2.St → Hp → (Int → Int → Int → Nat → Hp → Prop) → Prop) : TI := fun σ H R => tr σ H fun a _ c n H1 => R (Itc (a + ((n : Int) - 1) * c) (-c) n) H1
theorem pi_revR3 {X : Cx} {tg e : Expr} {tr : L2.St → Hp → (Int → Int → Int → Nat → Hp → Prop) → Prop} {p pos : Pos} (hg : Gl X "reversed") (hm : X.mg "reversed" = none) (he : PRg3 X e tr) (hs : starEach [e] X.env = (false, eval e X.env) :: starEach [] X.env := by rfl) :
    PI X tg (.Call (.Name "reversed" p) [e] [] pos) (iRevR3 tr) := by
  refine ⟨fun pins s σ H R I h => ?_⟩
  refine Call_ (ld_blt I hg hm PyProof.Rows.boot_reversed (PyProof.Rows.callWith_type1 (args_cons (thn (he pins s σ H _ I h) fun u s1 hx => args_nil ?_) hs) hs rfl))
  obtain ⟨r, a, b, c, n, t, w1, v, H1, eu, hr, hsm, hn, I1, q⟩ := hx
  subst eu
  refine call_reversed_range hr hsm (wpAny_pyIter_rangeiter (Heap.get?_push_size _ rfl) ?_)
  refine pi_one (tk := s1.toks) I1 _ (turn_rangeC _ (a + ((n : Int) - 1) * c) (-c) n) ?_ q
  have e1 : a + ((n : Int) - 1) * c + ((0 : Nat) : Int) * (-c) = a + (Builtin.Range.rangeSize a b c - 1) * c := by
    rw [hn]
    show _ + (0 : Int) * (-c) = _
    rw [Int.zero_mul, Int.add_zero]
  have e2 : (n : Int) - ((0 : Nat) : Int) = Builtin.Range.rangeSize a b c := by rw [hn]; omega
  show IsRangeIter _ _ (a + ((n : Int) - 1) * c + ((0 : Nat) : Int) * (-c)) ((n : Int) - ((0 : Nat) : Int)) (-c)
  rw [e1, e2]
  exact Heap.get?_push_size _ rfl
theorem pi_tupK {X : Cx} {tg e : Expr} {te : TE} (K : PySem.W.Frag) (h : PE X e te) (hK : X.K = K := by rfl) : PI X tg e (iTup K te) := hK ▸ pi_tup h
theorem pi_listK {X : Cx} {tg e : Expr} {te : TE} (K : PySem.W.Frag) (h : PE X e te) (hK : X.K = K := by rfl) : PI X tg e (iList K te) := hK ▸ pi_list h
end Vf

namespace Vf
open PySem L2 PySem.Spec PyProof.Rows He
/-! ### a dict comprehension over what is walked -/
def DcB (J : It) (g : TG) (tt : TT) (tk tv : TE) (vs : List Nat) (σ : L2.St) (D : Addr) (H1 : Hp) (Q : VK) : Prop := ∃ W : Nat → Nat → Hp → Prop, (∃ m, W 0 m (upd H1 D (.dK []))) ∧ ∀ i m H, W i m H →
  (J.stop i H ∧ Q (.ref D) H) ∨ (J.go i H ∧
    ∃ Nx : Hp → Prop, (∀ H', Nx H' → ∃ m', m' < m ∧ W (i + 1) m' H') ∧
    ∀ x H', J.yld i H x H' → g x (wipe σ vs) H' fun σ2 H2 => wipe σ2 vs = wipe σ vs ∧ tt σ2 H2 fun b H3 =>
    if b = true then tk σ2 H3 fun y H4 =>
      tv σ2 H4 fun z H5 => ∃ kvs k, y = kV k ∧ H5 D = some (.dK kvs) ∧ kvs.length < sizeLine ∧
      Nx (upd H5 D (.dK (putK kvs k z))) else Nx H3)
theorem e_dc {wi : TI} {g : TG} {tt : TT} {tk tv : TE} {vs : List Nat} {σ : L2.St} {H : Hp} {Q : VK} (q : wi σ H fun J H1 => ∀ D, H1 D = none → DcB J g tt tk tv vs σ D H1 Q) : tDc wi g tt tk tv vs σ H Q := q
theorem dc_it {J : It} {n : Nat} {G : Hp → Prop} {Y : Nat → Hp → V → Hp → Prop} (w : Walk J n G Y) {g : TG} {tt : TT} {tk tv : TE} {vs : List Nat} {σ : L2.St} {H1 : Hp} {D : Addr} {Q : VK} (Pv : Nat → Hp → Prop) (h0 : Pv 0 (upd H1 D (.dK []))) (hG : ∀ i H, i ≤ n → Pv i H → G H)
    (hs : ∀ i x H H', i < n → Pv i H → Y i H x H' → g x (wipe σ vs) H' fun σ2 H2 => wipe σ2 vs = wipe σ vs ∧ tt σ2 H2 fun b H3 =>
      if b = true then tk σ2 H3 fun y H4 => tv σ2 H4 fun z H5 => ∃ kvs k, y = kV k ∧ H5 D = some (.dK kvs) ∧ kvs.length < sizeLine ∧ Pv (i + 1) (upd H5 D (.dK (putK kvs k z))) else Pv (i + 1) H3)
    (hd : ∀ H, Pv n H → Q (.ref D) H) : DcB J g tt tk tv vs σ D H1 Q := by
  refine ⟨fun i m H => m = n - i ∧ i ≤ n ∧ Pv i H, ⟨n, by simp, Nat.zero_le _, h0⟩, ?_⟩
  rintro i m H ⟨rfl, hi, p⟩
  by_cases lt : i < n
  · exact .inr ⟨w.goes i H lt (hG i H hi p), Pv (i + 1), fun H' p' => ⟨n - (i + 1), by omega, rfl, lt, p'⟩, fun x H' y => hs i x H H' lt p (w.yields i H x H' lt (hG i H hi p) y)⟩
  · have e : i = n := by omega
    subst e
    exact .inl ⟨w.stops H (hG i H hi p), hd H p⟩
theorem tupOK (K : PySem.W.Frag) {X : Cx} (hK : X.K = K := by rfl) : CallR X (.type "tuple") (fun xs H Q => ∃ p ys, xs = [.ref p] ∧ ((SqL K H p ys ∧ ∀ l, H l = none → Q (.ref l) (upd H l (.tup ys))) ∨ (SqT K H p ys ∧ Q (.ref p) H))) := hK ▸ call_tuple_of
/-! ### dicts that differ in nothing -/
def rNeDD (K : PySem.W.Frag) : R2 := fun x y H Q => ∃ a b ks ls, x = .ref a ∧ y = .ref b ∧ H a = some (.dK ks) ∧ H b = some (.dK ls) ∧ ks.length = ls.length ∧
  (∀ p ∈ ks, ∃ u d, valV ls p.1 = some u ∧ Dp K H p.2 d ∧ Dp K H u d ∧ PySem.W.alike d d = true ∧ d.depth ≤ 60 ∧ PyData.eqv d d = true) ∧ Q (.bl false) H
theorem hits_data {X : Cx} {pins : List (Addr × Obj)} {σ : L2.St} {H : Hp} {s : Shared} (I : Inv X pins σ H s) {A : Around} (hu : A.units + 60 < cLine) {ls : List (L2.Key × V)} {vb : List (L2.Key × Value)} (rb : KV ls vb) {ks : List (L2.Key × V)} {va : List (L2.Key × Value)} (ra : KV ks va) :
    (∀ p ∈ ks, ∃ u d, valV ls p.1 = some u ∧ Dp X.K H p.2 d ∧ Dp X.K H u d ∧ PySem.W.alike d d = true ∧ d.depth ≤ 60 ∧ PyData.eqv d d = true) → PySem.W.KeqHits A s vb va true := by
  unfold KV at ra
  induction ra with
  | nil => intro _; exact .nil
  | @cons p q ps qs h t ih =>
    intro hp
    obtain ⟨h1, h2⟩ := h
    obtain ⟨u, d, e, d1, d2, al, dp, ev⟩ := hp p (List.mem_cons_self ..)
    have rr : RelO (some u) (valueAt vb p.1) := by rw [← e]; exact rb.val p.1
    obtain ⟨y, hy, ry⟩ := rr.some_of
    obtain ⟨key, v⟩ := q
    have h1' : p.1 = key := h1
    rw [h1'] at hy
    obtain ⟨as1, r1⟩ := Dp.reads I d p.2 v d1 h2
    obtain ⟨as2, r2⟩ := Dp.reads I d u y d2 ry
    have eq := PySem.W.eqAt_alike d d A s v y as1 as2 r1 r2 al (by have := Nat.min_le_left d.depth d.depth; omega)
    rw [ev] at eq
    have z := PySem.W.KeqHits.hit hy eq (ih fun p' hm => hp p' (List.mem_cons_of_mem _ hm))
    exact z
theorem op_neDD {X : Cx} (hu : X.A.units + 64 < cLine) : OpR X (compareOp .NotEq) (rNeDD X.K) := by
  intro pins s σ H x y v u Q I rx ry h
  obtain ⟨a, b, ks, ls, rfl, rfl, ea, eb, hlen, hp, q⟩ := h
  obtain rfl : v = Value.ref a := rx
  obtain rfl : u = Value.ref b := ry
  obtain ⟨_, ya, va, ra, da⟩ := (show ObjOk X.prog X.w H s.heap a (.dK ks) from I.hok a _ ea)
  obtain ⟨_, yb, vb, rb, db⟩ := (show ObjOk X.prog X.w H s.heap b (.dK ls) from I.hok b _ eb)
  have hl : va.length = vb.length := by rw [← ra.length, ← rb.length]; exact hlen
  refine PySem.W.keq_ne (knd := mixKind X.prog X.w) (r := true) ya yb da db (by omega) (fun _ => hits_data I (by show X.A.units + 1 + 60 < cLine; omega) rb ra hp) ?_
  rw [show (va.length == vb.length && true) = true from by rw [hl]; simp]
  exact ⟨.bl false, H, I, rfl, q⟩
end Vf

/-! set(xs), xs a list of ints: as HandS.SetFor has it for a tuple; sorted of it by cr_sortedSet. -/
namespace Vf
open PySem L2 PySem.Spec PyProof.Rows He
section
variable {P : Program} {w : World} {A : Around} {E : Value → Shared → Prop} {s : Shared}
/-- the new set as it is made -/
abbrev emptyS (w : World) : Obj := { cls := .type "set", dict := none, data := .set #[] 0 (.fresh 0 0 (!w.params.followText "set-order")) }
theorem set_of_ints {l : Addr} {its : Array Value} (ns : List Int) {Q : Value → Shared → Prop}
    (h0 : A.handled = none) (isl : s.heap.IsList l its) (hin : IntsAre its.toList ns)
    (small : ns.length + 1 < scanBound)
    (q : ∀ (g : Heap) (tk n : Nat), SetR w g s.heap.objs.size (fun j => decide (j ∈ ns)) n → n ≤ ns.length →
      (∀ b o, s.heap.get? b = some o → g.get? b = some o) →
      Q (.ref s.heap.objs.size) { s with heap := g, toks := tk }) :
    wpAny (model P w) A (call (.type "set") [.ref l]) Q E s := by
  have size : its.size = ns.length := by
    rw [← IntsAre.length hin]; exact Array.length_toList.symm
  obtain ⟨_, _, mro⟩ := F.called_set.mro
  have made := F.called_set.made; have sub := F.called_set.sub
  have e1 := F.called_set.notType; have e2 := F.called_set.canCreate
  have e3 := F.typeCall_set_1 (.ref l)
  refine wpAny_call (codeAny_of_tree ?_)
  show wpAny _ _ (callAny (.type "set") _) _ _ _
  refine wpAny_pure ⟨Code.quiet_builtin _ (by decide +kernel),
    codeAny_builtin F.entry_type_call ?_⟩
  rw [Around.under_plain (weight_type_call_type "set" [.ref l] []) rfl]
  repeat (any_goals (first | assumption | wp_step))

  refine codeAny_mono (code_set_led1 (.ref l) (E := E)
    (Q₁ := fun r t => r = .ref s.heap.objs.size ∧ t = { s with heap := s.heap.push (emptyS w) })
    ⟨rfl, rfl⟩) fun r t hr => ?_
  rcases r with e | fl
  · exact hr
  cases fl with
  | ret obj =>
    obtain ⟨rfl, rfl⟩ := hr
    have at1 : (s.heap.push (emptyS w)).get? s.heap.objs.size = some (emptyS w) := Heap.get?_push_size _ rfl
    have ty1 : Shared.TypeIs { s with heap := s.heap.push (emptyS w) } (.ref s.heap.objs.size) "set" := ⟨_, at1, rfl⟩
    have look := F.called_set.init.lookup
    have bind := F.called_set.init.bind (.ref s.heap.objs.size)
    repeat (any_goals (first | assumption | wp_step))

    refine codeAny_mono (codeAny_call_builtin
      (R := wants (fun r t => r = .none ∧ ∃ g tk n, t = { s with heap := g, toks := tk } ∧
        SetR w g s.heap.objs.size (fun j => decide (j ∈ ns)) n ∧ n ≤ ns.length ∧
        (∀ b o, s.heap.get? b = some o → g.get? b = some o)) E)
      F.called_set.init.plain F.entry_set_init (check_set_init_1 ty1 ?_)) fun r2 t2 hr2 => ?_
    · have isl1 : (s.heap.push (emptyS w)).IsList l its := isl.push _
      have d1 := F.sub_list_set
      have d2 := F.sub_list_frozenset
      have nd : (Value.type "list" == Value.type "dict") = false := by decide
      obtain ⟨ol, hol, hcl, nl, hdl⟩ := id isl
      obtain ⟨oc, od, odt, osl⟩ := ol
      simp only at hcl hdl
      subst hcl; subst hdl
      have hol1 := Heap.get?_push_of_some (emptyS w) hol
      unfold Builtin.«set.__init__» noKeywords Builtin.Frozenset.updateFrom
      generalize hPI : pyIter = PI
      wp_walk
      subst hPI

      refine wpAny_pyIter_list isl1 ?_
      refine wpAny_bind (wpAny_runValue ?_)
      have lt : l < s.heap.objs.size := Heap.lt_size hol
      have h3 : A.in1.in1.in1.handled = none := by simp [h0]
      have sz : (s.heap.push (emptyS w)).objs.size = s.heap.objs.size + 1 := Heap.size_push ..
      have n1 : l ≠ (s.heap.push (emptyS w)).objs.size := by rw [sz]; exact Nat.ne_of_lt (Nat.lt_succ_of_lt lt)
      have n2 : s.heap.objs.size ∉ [(s.heap.push (emptyS w)).objs.size, l] := by
        rw [sz]
        intro m
        rcases List.mem_cons.mp m with z | z
        · exact Nat.succ_ne_self _ z.symm
        · exact Nat.ne_of_gt lt (List.mem_singleton.mp z)
      have val : ∀ (i : Nat) (v : Value), its[i]? = some v → ∃ k t, ns[i]? = some k ∧ v = .int k t := fun i v hv => by
        have hi : i < ns.length := by rw [← size]; exact (Array.getElem?_eq_some_iff.mp hv).1
        obtain ⟨t, e⟩ := IntsAre.int_at hin i v (by rw [Array.getElem?_toList]; exact hv)
        rw [List.getD_eq_getElem?_getD, List.getElem?_eq_getElem hi] at e
        exact ⟨ns[i], t, List.getElem?_eq_getElem hi, e⟩
      refine set_update_ints ((Walks.list h3 _ l n1 its).toS) s.heap.objs.size n2 ns size small val
        (its.size - 0) 0 _ (by omega) (Nat.zero_le _)
        ⟨⟨_, Heap.get?_push_size _ rfl, rfl, rfl⟩, isl1.push _⟩
        ⟨0, Nat.le_refl 0, setR_new_at (Heap.get?_push_of_some _ at1)⟩ fun t' n mv le R => ?_
      obtain ⟨g, g2, dr, tk, os⟩ := t'
      have eg : g2 = s.gens := mv.gens
      have ed : dr = s.drawn := mv.drawn
      have eo : os = s.os := mv.os
      subst eg ed eo
      rw [size] at le
      show wpAny _ _ _ _ _ _
      refine wpAny_pure ?_
      show wpAny _ _ (ret Value.none) _ _ _
      refine wpAny_pure ⟨rfl, g, tk, n, rfl, R, le, fun b o e => ?_⟩
      have lb : b < s.heap.objs.size := Heap.lt_size e
      refine mv.heap b o (fun m => ?_) (Heap.get?_push_of_some _ (Heap.get?_push_of_some _ e))
      rcases List.mem_cons.mp m with z | z
      · exact Nat.ne_of_lt lb z
      · have := List.mem_singleton.mp z
        rw [sz] at this
        exact Nat.ne_of_lt (Nat.lt_succ_of_lt lb) this
    · rcases r2 with e | fl2
      · exact hr2
      cases fl2 with
      | ret r =>
        obtain ⟨rfl, g, tk, n, rfl, h1, h2, h3⟩ := hr2
        repeat (any_goals (first | assumption | wp_step))
        exact q _ _ _ h1 h2 h3
      | _ => exact hr2.elim
  | _ => exact hr.elim
end
/-- set(xs), xs a list of ints -/
def rSetL (K : PySem.W.Frag) (w : World) : List V → Hp → VK → Prop := fun xs H Q => ∃ (p : Addr) (ns : List Int), xs = [.ref p] ∧ SqL K H p (ns.map V.int) ∧ ns.length ≤ 1000 ∧
  ∀ a n, H a = none → n ≤ ns.length → Q (.ref a) (upd H a (SetO w a (fun j => decide (j ∈ ns)) n))
theorem cr_setL {X : Cx} (hc : X.calm = true) : CallR X (.type "set") (rSetL X.K X.w) := by
  intro pins s σ H xs us Q I r h
  obtain ⟨p, ns, rfl, hq, hl, q⟩ := h
  obtain ⟨u, rfl, rx⟩ := vals1 r
  cases rx
  obtain ⟨its, rv, pl, hz⟩ := I.list hq
  refine set_of_ints ns (I.ok.hd hc) pl.isList (by simpa using ints_of_vals rv) (by unfold scanBound; omega) fun g tk n R le k => ?_
  exact ⟨.ref s.heap.objs.size, _, I.laid (t' := tk) k (Nat.le_refl _) (setO_new R), rfl, q _ n (I.hok.fresh (Nat.le_refl _)) le⟩
end Vf
namespace Vf
open PySem L2 PySem.Spec PyProof.Rows He
theorem niDK (K : PySem.W.Frag) {X : Cx} (hu : X.A.units + 65 < cLine) (hK : X.K = K := by rfl) : OpR X (compareOp .NotIn) (rNotInD K) := hK ▸ op_notInD hu
/-! ### [e for x in xs for y in f(x)] -/
/-- the inner clause's turns, Nx where it ends -/
def Inn (J1 : It) (g1 : TG) (tt1 : TT) (te : TE) (vs1 : List Nat) (σ2 : L2.St) (D : Addr) (H4 : Hp) (Nx : Hp → Prop) : Prop :=
  ∃ W1 : Nat → Nat → Hp → Prop, (∃ m, W1 0 m H4) ∧ ∀ j k H, W1 j k H → (J1.stop j H ∧ Nx H) ∨ (J1.go j H ∧
    ∃ Nx1 : Hp → Prop, (∀ H', Nx1 H' → ∃ k', k' < k ∧ W1 (j + 1) k' H') ∧
    ∀ x H', J1.yld j H x H' → g1 x (wipe σ2 vs1) H' fun σ3 H5 => wipe σ3 vs1 = wipe σ2 vs1 ∧ tt1 σ3 H5 fun b H6 =>
      if b = true then te σ3 H6 fun y H7 => ∃ acc, H7 D = some (.lst acc) ∧ acc.length < sizeLine ∧ Nx1 (upd H7 D (.lst (acc ++ [y])))
      else Nx1 H6)
def Lc2B (J : It) (g : TG) (tt : TT) (wi1 : TI) (g1 : TG) (tt1 : TT) (te : TE) (vs vs1 : List Nat) (σ : L2.St) (D : Addr) (H1 : Hp) (Q : VK) : Prop :=
  ∃ W : Nat → Nat → Hp → Prop, (∃ m, W 0 m (upd H1 D (.lst []))) ∧ ∀ i m H, W i m H → (J.stop i H ∧ Q (.ref D) H) ∨ (J.go i H ∧
    ∃ Nx : Hp → Prop, (∀ H', Nx H' → ∃ m', m' < m ∧ W (i + 1) m' H') ∧
    ∀ x H', J.yld i H x H' → g x (wipe σ vs) H' fun σ2 H2 => wipe σ2 vs = wipe σ vs ∧ tt σ2 H2 fun b H3 =>
      if b = true then wi1 σ2 H3 fun J1 H4 => Inn J1 g1 tt1 te vs1 σ2 D H4 Nx else Nx H3)
theorem e_lc2 {wi wi1 : TI} {g g1 : TG} {tt tt1 : TT} {te : TE} {vs vs1 : List Nat} {σ : L2.St} {H : Hp} {Q : VK}
    (q : wi σ H fun J H1 => ∀ D, H1 D = none → Lc2B J g tt wi1 g1 tt1 te vs vs1 σ D H1 Q) : tLc2 wi g tt wi1 g1 tt1 te vs vs1 σ H Q := q
theorem inn_it {J : It} {n : Nat} {G : Hp → Prop} {Y : Nat → Hp → V → Hp → Prop} (w : Walk J n G Y) {g : TG} {tt : TT} {te : TE} {vs : List Nat} {σ : L2.St} {D : Addr} {H1 : Hp} {Nx : Hp → Prop}
    (Pv : Nat → Hp → Prop) (h0 : Pv 0 H1) (hG : ∀ i H, i ≤ n → Pv i H → G H)
    (hs : ∀ i x H H', i < n → Pv i H → Y i H x H' → g x (wipe σ vs) H' fun σ2 H2 => wipe σ2 vs = wipe σ vs ∧ tt σ2 H2 fun b H3 =>
      if b = true then te σ2 H3 fun y H4 => ∃ acc, H4 D = some (.lst acc) ∧ acc.length < sizeLine ∧ Pv (i + 1) (upd H4 D (.lst (acc ++ [y]))) else Pv (i + 1) H3)
    (hd : ∀ H, Pv n H → Nx H) : Inn J g tt te vs σ D H1 Nx := by
  refine ⟨fun i m H => m = n - i ∧ i ≤ n ∧ Pv i H, ⟨n, by simp, Nat.zero_le _, h0⟩, ?_⟩
  rintro i m H ⟨rfl, hi, p⟩
  by_cases lt : i < n
  · exact .inr ⟨w.goes i H lt (hG i H hi p), Pv (i + 1), fun H' p' => ⟨n - (i + 1), by omega, rfl, lt, p'⟩, fun x H' y => hs i x H H' lt p (w.yields i H x H' lt (hG i H hi p) y)⟩
  · have e : i = n := by omega
    subst e
    exact .inl ⟨w.stops H (hG i H hi p), hd H p⟩
theorem lc2_it {J : It} {n : Nat} {G : Hp → Prop} {Y : Nat → Hp → V → Hp → Prop} (w : Walk J n G Y) {g g1 : TG} {tt tt1 : TT} {te : TE} {wi1 : TI} {vs vs1 : List Nat} {σ : L2.St} {D : Addr} {H1 : Hp} {Q : VK}
    (Pv : Nat → Hp → Prop) (h0 : Pv 0 (upd H1 D (.lst []))) (hG : ∀ i H, i ≤ n → Pv i H → G H)
    (hs : ∀ i x H H', i < n → Pv i H → Y i H x H' → g x (wipe σ vs) H' fun σ2 H2 => wipe σ2 vs = wipe σ vs ∧ tt σ2 H2 fun b H3 =>
      if b = true then wi1 σ2 H3 fun J1 H4 => Inn J1 g1 tt1 te vs1 σ2 D H4 (Pv (i + 1)) else Pv (i + 1) H3)
    (hd : ∀ H, Pv n H → Q (.ref D) H) : Lc2B J g tt wi1 g1 tt1 te vs vs1 σ D H1 Q := by
  refine ⟨fun i m H => m = n - i ∧ i ≤ n ∧ Pv i H, ⟨n, by simp, Nat.zero_le _, h0⟩, ?_⟩
  rintro i m H ⟨rfl, hi, p⟩
  by_cases lt : i < n
  · exact .inr ⟨w.goes i H lt (hG i H hi p), Pv (i + 1), fun H' p' => ⟨n - (i + 1), by omega, rfl, lt, p'⟩, fun x H' y => hs i x H H' lt p (w.yields i H x H' lt (hG i H hi p) y)⟩
  · have e : i = n := by omega
    subst e
    exact .inl ⟨w.stops H (hG i H hi p), hd H p⟩
end Vf

namespace Vk80
open PySem PySem.Spec PyProof.Rows L2 Vf
def topS (i : Nat) : Stmt := PySem.Challenge.pw_folderkin_k80_blocks_that_must_come.main.body.getD i (.Pass ⟨0, 0, 0, 0⟩)
abbrev s_wall : Stmt := topS 0
abbrev N_wall : List Str := ["k"]
theorem sc_wall : FnScope N_wall ["k"] (defScope s_wall) := ⟨rfl, rfl, rfl, by decide +kernel, rfl, by decide +kernel, by decide +kernel⟩
abbrev s_FolderkinError___init__ : Stmt := inClass (topS 2) 0
abbrev N_FolderkinError___init__ : List Str := ["self", "place"]
theorem sc_FolderkinError___init__ : FnScope N_FolderkinError___init__ ["self", "place"] (defScope s_FolderkinError___init__) := ⟨rfl, rfl, rfl, by decide +kernel, rfl, by decide +kernel, by decide +kernel⟩
abbrev s_block_number : Stmt := topS 7
abbrev N_block_number : List Str := ["data", "number", "byte"]
theorem sc_block_number : FnScope N_block_number ["data"] (defScope s_block_number) := ⟨rfl, rfl, rfl, by decide +kernel, rfl, by decide +kernel, by decide +kernel⟩
abbrev s_block_size : Stmt := topS 8
abbrev N_block_size : List Str := ["number", "size"]
theorem sc_block_size : FnScope N_block_size ["number"] (defScope s_block_size) := ⟨rfl, rfl, rfl, by decide +kernel, rfl, by decide +kernel, by decide +kernel⟩
abbrev s_block_bytes : Stmt := topS 9
abbrev N_block_bytes : List Str := ["number", "size", "behind"]
theorem sc_block_bytes : FnScope N_block_bytes ["number"] (defScope s_block_bytes) := ⟨rfl, rfl, rfl, by decide +kernel, rfl, by decide +kernel, by decide +kernel⟩
abbrev s_split : Stmt := topS 10
abbrev N_split : List Str := ["content", "at"]
theorem sc_split : FnScope N_split ["content"] (defScope s_split) := ⟨rfl, rfl, rfl, by decide +kernel, rfl, by decide +kernel, by decide +kernel⟩
abbrev s_near_places : Stmt := topS 12
abbrev N_near_places : List Str := ["store", "entry", "places", "word", "where", "blocks", "index", "block"]
theorem sc_near_places : FnScope N_near_places ["store", "entry"] (defScope s_near_places) := ⟨rfl, rfl, rfl, by decide +kernel, rfl, by decide +kernel, by decide +kernel⟩
abbrev s_near_rows : Stmt := topS 13
abbrev N_near_rows : List Str := ["store", "entry", "temp", "files", "attic", "name", "index", "row"]
theorem sc_near_rows : FnScope N_near_rows ["store", "entry"] (defScope s_near_rows) := ⟨rfl, rfl, rfl, by decide +kernel, rfl, by decide +kernel, by decide +kernel⟩
abbrev s_kept_blocks : Stmt := topS 14
abbrev N_kept_blocks : List Str := ["store", "entry", "temp", "at", "index", "block", "data"]
theorem sc_kept_blocks : FnScope N_kept_blocks ["store", "entry"] (defScope s_kept_blocks) := ⟨rfl, rfl, rfl, by decide +kernel, rfl, by decide +kernel, by decide +kernel⟩
abbrev s_missing : Stmt := topS 15
abbrev N_missing : List Str := ["store", "entry", "places", "found", "block"]
theorem sc_missing : FnScope N_missing ["store", "entry"] (defScope s_missing) := ⟨rfl, rfl, rfl, by decide +kernel, rfl, by decide +kernel, by decide +kernel⟩
abbrev s_must_come : Stmt := topS 17
abbrev N_must_come : List Str := ["store", "entries", "entry", "block"]
theorem sc_must_come : FnScope N_must_come ["store", "entries"] (defScope s_must_come) := ⟨rfl, rfl, rfl, by decide +kernel, rfl, by decide +kernel, by decide +kernel⟩
abbrev s_Entry___init__ : Stmt := inClass (topS 19) 0
abbrev N_Entry___init__ : List Str := ["self", "name", "vector", "height", "maker", "deleted", "time", "blocks"]
theorem sc_Entry___init__ : FnScope N_Entry___init__ ["self", "name", "vector", "height", "maker", "deleted", "time", "blocks"] (defScope s_Entry___init__) := ⟨rfl, rfl, rfl, by decide +kernel, rfl, by decide +kernel, by decide +kernel⟩
abbrev s_Entry___eq__ : Stmt := inClass (topS 19) 1
abbrev N_Entry___eq__ : List Str := ["self", "other"]
theorem sc_Entry___eq__ : FnScope N_Entry___eq__ ["self", "other"] (defScope s_Entry___eq__) := ⟨rfl, rfl, rfl, by decide +kernel, rfl, by decide +kernel, by decide +kernel⟩
abbrev s_Store___init__ : Stmt := inClass (topS 21) 0
abbrev N_Store___init__ : List Str := ["self", "files", "log", "name", "content", "time"]
theorem sc_Store___init__ : FnScope N_Store___init__ ["self", "files", "log"] (defScope s_Store___init__) := ⟨rfl, rfl, rfl, by decide +kernel, rfl, by decide +kernel, by decide +kernel⟩
abbrev s_Store_set_budget : Stmt := inClass (topS 21) 1
abbrev N_Store_set_budget : List Str := ["self", "count"]
theorem sc_Store_set_budget : FnScope N_Store_set_budget ["self", "count"] (defScope s_Store_set_budget) := ⟨rfl, rfl, rfl, by decide +kernel, rfl, by decide +kernel, by decide +kernel⟩
abbrev s_Store_done : Stmt := inClass (topS 21) 2
abbrev N_Store_done : List Str := ["self"]
theorem sc_Store_done : FnScope N_Store_done ["self"] (defScope s_Store_done) := ⟨rfl, rfl, rfl, by decide +kernel, rfl, by decide +kernel, by decide +kernel⟩
abbrev s_Store__count_write : Stmt := inClass (topS 21) 3
abbrev N_Store__count_write : List Str := ["self"]
theorem sc_Store__count_write : FnScope N_Store__count_write ["self"] (defScope s_Store__count_write) := ⟨rfl, rfl, rfl, by decide +kernel, rfl, by decide +kernel, by decide +kernel⟩
abbrev s_Store_names : Stmt := inClass (topS 21) 4
abbrev N_Store_names : List Str := ["self"]
theorem sc_Store_names : FnScope N_Store_names ["self"] (defScope s_Store_names) := ⟨rfl, rfl, rfl, by decide +kernel, rfl, by decide +kernel, by decide +kernel⟩
abbrev s_Store_read : Stmt := inClass (topS 21) 5
abbrev N_Store_read : List Str := ["self", "name", "content", "time"]
theorem sc_Store_read : FnScope N_Store_read ["self", "name"] (defScope s_Store_read) := ⟨rfl, rfl, rfl, by decide +kernel, rfl, by decide +kernel, by decide +kernel⟩
abbrev s_Store_write : Stmt := inClass (topS 21) 6
abbrev N_Store_write : List Str := ["self", "name", "content", "time"]
theorem sc_Store_write : FnScope N_Store_write ["self", "name", "content", "time"] (defScope s_Store_write) := ⟨rfl, rfl, rfl, by decide +kernel, rfl, by decide +kernel, by decide +kernel⟩
abbrev s_Store_remove : Stmt := inClass (topS 21) 7
abbrev N_Store_remove : List Str := ["self", "name"]
theorem sc_Store_remove : FnScope N_Store_remove ["self", "name"] (defScope s_Store_remove) := ⟨rfl, rfl, rfl, by decide +kernel, rfl, by decide +kernel, by decide +kernel⟩
abbrev s_Store_rename : Stmt := inClass (topS 21) 8
abbrev N_Store_rename : List Str := ["self", "old", "new"]
theorem sc_Store_rename : FnScope N_Store_rename ["self", "old", "new"] (defScope s_Store_rename) := ⟨rfl, rfl, rfl, by decide +kernel, rfl, by decide +kernel, by decide +kernel⟩
abbrev s_Store_temp_names : Stmt := inClass (topS 21) 9
abbrev N_Store_temp_names : List Str := ["self"]
theorem sc_Store_temp_names : FnScope N_Store_temp_names ["self"] (defScope s_Store_temp_names) := ⟨rfl, rfl, rfl, by decide +kernel, rfl, by decide +kernel, by decide +kernel⟩
abbrev s_Store_temp : Stmt := inClass (topS 21) 10
abbrev N_Store_temp : List Str := ["self", "name"]
theorem sc_Store_temp : FnScope N_Store_temp ["self", "name"] (defScope s_Store_temp) := ⟨rfl, rfl, rfl, by decide +kernel, rfl, by decide +kernel, by decide +kernel⟩
abbrev s_Store_append_temp : Stmt := inClass (topS 21) 11
abbrev N_Store_append_temp : List Str := ["self", "name", "data", "byte"]
theorem sc_Store_append_temp : FnScope N_Store_append_temp ["self", "name", "data"] (defScope s_Store_append_temp) := ⟨rfl, rfl, rfl, by decide +kernel, rfl, by decide +kernel, by decide +kernel⟩
abbrev s_Store_cut_temp : Stmt := inClass (topS 21) 12
abbrev N_Store_cut_temp : List Str := ["self", "name", "count"]
theorem sc_Store_cut_temp : FnScope N_Store_cut_temp ["self", "name", "count"] (defScope s_Store_cut_temp) := ⟨rfl, rfl, rfl, by decide +kernel, rfl, by decide +kernel, by decide +kernel⟩
abbrev s_Store_place : Stmt := inClass (topS 21) 13
abbrev N_Store_place : List Str := ["self", "name", "time"]
theorem sc_Store_place : FnScope N_Store_place ["self", "name", "time"] (defScope s_Store_place) := ⟨rfl, rfl, rfl, by decide +kernel, rfl, by decide +kernel, by decide +kernel⟩
abbrev s_Store_attic : Stmt := inClass (topS 21) 14
abbrev N_Store_attic : List Str := ["self", "name", "vector", "content"]
theorem sc_Store_attic : FnScope N_Store_attic ["self"] (defScope s_Store_attic) := ⟨rfl, rfl, rfl, by decide +kernel, rfl, by decide +kernel, by decide +kernel⟩
abbrev s_Store_attic_put : Stmt := inClass (topS 21) 15
abbrev N_Store_attic_put : List Str := ["self", "name", "vector", "content"]
theorem sc_Store_attic_put : FnScope N_Store_attic_put ["self", "name", "vector", "content"] (defScope s_Store_attic_put) := ⟨rfl, rfl, rfl, by decide +kernel, rfl, by decide +kernel, by decide +kernel⟩
abbrev s_Store_attic_drop : Stmt := inClass (topS 21) 16
abbrev N_Store_attic_drop : List Str := ["self", "index"]
theorem sc_Store_attic_drop : FnScope N_Store_attic_drop ["self", "index"] (defScope s_Store_attic_drop) := ⟨rfl, rfl, rfl, by decide +kernel, rfl, by decide +kernel, by decide +kernel⟩
abbrev s_Store_log : Stmt := inClass (topS 21) 17
abbrev N_Store_log : List Str := ["self"]
theorem sc_Store_log : FnScope N_Store_log ["self"] (defScope s_Store_log) := ⟨rfl, rfl, rfl, by decide +kernel, rfl, by decide +kernel, by decide +kernel⟩
abbrev s_Store_log_size : Stmt := inClass (topS 21) 18
abbrev N_Store_log_size : List Str := ["self"]
theorem sc_Store_log_size : FnScope N_Store_log_size ["self"] (defScope s_Store_log_size) := ⟨rfl, rfl, rfl, by decide +kernel, rfl, by decide +kernel, by decide +kernel⟩
abbrev s_Store_new_log : Stmt := inClass (topS 21) 19
abbrev N_Store_new_log : List Str := ["self"]
theorem sc_Store_new_log : FnScope N_Store_new_log ["self"] (defScope s_Store_new_log) := ⟨rfl, rfl, rfl, by decide +kernel, rfl, by decide +kernel, by decide +kernel⟩
abbrev s_Store_log_append : Stmt := inClass (topS 21) 20
abbrev N_Store_log_append : List Str := ["self", "data"]
theorem sc_Store_log_append : FnScope N_Store_log_append ["self", "data"] (defScope s_Store_log_append) := ⟨rfl, rfl, rfl, by decide +kernel, rfl, by decide +kernel, by decide +kernel⟩
abbrev s_Store_new_log_append : Stmt := inClass (topS 21) 21
abbrev N_Store_new_log_append : List Str := ["self", "data"]
theorem sc_Store_new_log_append : FnScope N_Store_new_log_append ["self", "data"] (defScope s_Store_new_log_append) := ⟨rfl, rfl, rfl, by decide +kernel, rfl, by decide +kernel, by decide +kernel⟩
abbrev s_Store_drop_new_log : Stmt := inClass (topS 21) 22
abbrev N_Store_drop_new_log : List Str := ["self"]
theorem sc_Store_drop_new_log : FnScope N_Store_drop_new_log ["self"] (defScope s_Store_drop_new_log) := ⟨rfl, rfl, rfl, by decide +kernel, rfl, by decide +kernel, by decide +kernel⟩
abbrev s_Store_switch_log : Stmt := inClass (topS 21) 23
abbrev N_Store_switch_log : List Str := ["self"]
theorem sc_Store_switch_log : FnScope N_Store_switch_log ["self"] (defScope s_Store_switch_log) := ⟨rfl, rfl, rfl, by decide +kernel, rfl, by decide +kernel, by decide +kernel⟩
abbrev s_Store_durable : Stmt := inClass (topS 21) 24
abbrev N_Store_durable : List Str := ["self", "files", "temps", "attic", "name", "vector", "content"]
theorem sc_Store_durable : FnScope N_Store_durable ["self"] (defScope s_Store_durable) := ⟨rfl, rfl, rfl, by decide +kernel, rfl, by decide +kernel, by decide +kernel⟩
abbrev s_Store__keep : Stmt := inClass (topS 21) 25
abbrev N_Store__keep : List Str := ["self", "temps", "attic", "new_log"]
theorem sc_Store__keep : FnScope N_Store__keep ["self", "temps", "attic", "new_log"] (defScope s_Store__keep) := ⟨rfl, rfl, rfl, by decide +kernel, rfl, by decide +kernel, by decide +kernel⟩
abbrev s_law_draws : Stmt := topS 23
abbrev N_law_draws : List Str := ["script"]
theorem sc_law_draws : FnScope N_law_draws ["script"] (defScope s_law_draws) := ⟨rfl, rfl, rfl, by decide +kernel, rfl, by decide +kernel, by decide +kernel⟩
abbrev s_law_draw : Stmt := topS 24
abbrev N_law_draw : List Str := ["draws", "limit", "cell", "value"]
theorem sc_law_draw : FnScope N_law_draw ["draws", "limit"] (defScope s_law_draw) := ⟨rfl, rfl, rfl, by decide +kernel, rfl, by decide +kernel, by decide +kernel⟩
abbrev s_law_content : Stmt := topS 25
abbrev N_law_content : List Str := ["draws", "words", "content", "k"]
theorem sc_law_content : FnScope N_law_content ["draws"] (defScope s_law_content) := ⟨rfl, rfl, rfl, by decide +kernel, rfl, by decide +kernel, by decide +kernel⟩
abbrev s_law_pieces : Stmt := topS 26
abbrev N_law_pieces : List Str := ["content", "at"]
theorem sc_law_pieces : FnScope N_law_pieces ["content"] (defScope s_law_pieces) := ⟨rfl, rfl, rfl, by decide +kernel, rfl, by decide +kernel, by decide +kernel⟩
abbrev s_law_number : Stmt := topS 27
abbrev N_law_number : List Str := ["piece", "number", "byte"]
theorem sc_law_number : FnScope N_law_number ["piece"] (defScope s_law_number) := ⟨rfl, rfl, rfl, by decide +kernel, rfl, by decide +kernel, by decide +kernel⟩
abbrev s_law_missing : Stmt := topS 28
abbrev N_law_missing : List Str := ["store", "name", "content", "near", "other", "row", "temp", "front", "pieces", "k", "piece"]
theorem sc_law_missing : FnScope N_law_missing ["store", "name", "content"] (defScope s_law_missing) := ⟨rfl, rfl, rfl, by decide +kernel, rfl, by decide +kernel, by decide +kernel⟩
abbrev s_law : Stmt := topS 29
abbrev N_law : List Str := ["script", "draws", "store", "names", "k", "before", "due", "entries", "content", "name", "found", "block"]
theorem sc_law : FnScope N_law ["script"] (defScope s_law) := ⟨rfl, rfl, rfl, by decide +kernel, rfl, by decide +kernel, by decide +kernel⟩
structure Txt (K : PySem.W.Frag) (mg : Str → Option Value) : Prop where
  f_abs : mg "abs" = none
  f_dict : mg "dict" = none
  f_enumerate : mg "enumerate" = none
  f_int : mg "int" = none
  f_len : mg "len" = none
  f_list : mg "list" = none
  f_range : mg "range" = none
  f_reversed : mg "reversed" = none
  f_set : mg "set" = none
  f_sorted : mg "sorted" = none
  f_tuple : mg "tuple" = none
  c_BLOCK : ∃ u, mg "BLOCK" = some u ∧ RelV (.int 4) u
  cl_Entry : Cls K (He.ga K "Entry")
  g_Entry : mg "Entry" = some (.ref (He.ga K "Entry"))
  no_Entry_name : NoAttr K (He.ga K "Entry") "name"
  no_Entry_vector : NoAttr K (He.ga K "Entry") "vector"
  no_Entry_height : NoAttr K (He.ga K "Entry") "height"
  no_Entry_maker : NoAttr K (He.ga K "Entry") "maker"
  no_Entry_deleted : NoAttr K (He.ga K "Entry") "deleted"
  no_Entry_time : NoAttr K (He.ga K "Entry") "time"
  no_Entry_blocks : NoAttr K (He.ga K "Entry") "blocks"
  cl_Store : Cls K (He.ga K "Store")
  g_Store : mg "Store" = some (.ref (He.ga K "Store"))
  no_Store__files : NoAttr K (He.ga K "Store") "_files"
  no_Store__temps : NoAttr K (He.ga K "Store") "_temps"
  no_Store__attic : NoAttr K (He.ga K "Store") "_attic"
  no_Store__log : NoAttr K (He.ga K "Store") "_log"
  no_Store__new_log : NoAttr K (He.ga K "Store") "_new_log"
  no_Store__budget : NoAttr K (He.ga K "Store") "_budget"
  no_Store__done : NoAttr K (He.ga K "Store") "_done"
def bnum (c : List Int) : Int := c.foldl (fun n b => n * 256 + b) 1
def bsize (n : Int) : Int := if n / 256 = 1 then 1 else if n / 65536 = 1 then 2 else if n / 16777216 = 1 then 3 else if n / 4294967296 = 1 then 4 else 0
def bbytes (n : Int) : List Int :=
  if bsize n = 1 then [n % 256] else if bsize n = 2 then [n / 256 % 256, n % 256] else if bsize n = 3 then [n / 65536 % 256, n / 256 % 256, n % 256]
  else if bsize n = 4 then [n / 16777216 % 256, n / 65536 % 256, n / 256 % 256, n % 256] else []
def isB (c : List Int) : Prop := ∀ b ∈ c, 0 ≤ b ∧ b < 256
def chunks : List Int → List (List Int)
  | [] => []
  | [a] => [[a]]
  | [a, b] => [[a, b]]
  | [a, b, c] => [[a, b, c]]
  | a :: b :: c :: d :: r => [a, b, c, d] :: chunks r
theorem chunks_flat : ∀ xs, (chunks xs).flatten = xs
  | [] => rfl
  | [a] => rfl
  | [a, b] => rfl
  | [a, b, c] => rfl
  | a :: b :: c :: d :: r => by
    show [a, b, c, d] ++ (chunks r).flatten = _
    rw [chunks_flat r]
    rfl
theorem chunks_len : ∀ xs, (chunks xs).length = (xs.length + 3) / 4
  | [] => rfl
  | [a] => by simp [chunks]
  | [a, b] => by simp [chunks]
  | [a, b, c] => by simp [chunks]
  | a :: b :: c :: d :: r => by
    have ih := chunks_len r
    show (chunks r).length + 1 = (r.length + 4 + 3) / 4
    omega
theorem chunks_get : ∀ (xs : List Int) (i : Nat), i < (xs.length + 3) / 4 → (chunks xs)[i]? = some ((xs.drop (4 * i)).take 4)
  | [], i, h => by simp at h
  | [a], i, h => by
    have e : i = 0 := by simp at h; omega
    subst e; rfl
  | [a, b], i, h => by
    have e : i = 0 := by simp at h; omega
    subst e; rfl
  | [a, b, c], i, h => by
    have e : i = 0 := by simp at h; omega
    subst e; rfl
  | a :: b :: c :: d :: r, 0, h => rfl
  | a :: b :: c :: d :: r, i + 1, h => by
    have ih := chunks_get r i (by simp at h; omega)
    show (chunks r)[i]? = _
    rw [ih]
    have e : 4 * (i + 1) = (4 * i) + 1 + 1 + 1 + 1 := by omega
    rw [e]
    rfl
theorem chunks_map (xs : List Int) : chunks xs = (List.range ((xs.length + 3) / 4)).map fun i => (xs.drop (4 * i)).take 4 := by
  refine List.ext_getElem? fun i => ?_
  by_cases h : i < (xs.length + 3) / 4
  · rw [chunks_get xs i h, List.getElem?_map, List.getElem?_range h]
    rfl
  · rw [List.getElem?_eq_none (by rw [chunks_len]; omega), List.getElem?_eq_none (by simp; omega)]
/-- a piece: one to four bytes -/
structure Piece (c : List Int) : Prop where
  b : isB c
  h1 : 1 ≤ c.length
  h4 : c.length ≤ 4
theorem chunks_piece : ∀ (xs : List Int), isB xs → ∀ c ∈ chunks xs, Piece c
  | [], _, c, h => by cases h
  | [a], hb, c, h => by
    rw [List.mem_singleton.mp h]; exact ⟨hb, by simp, by simp⟩
  | [a, b], hb, c, h => by
    rw [List.mem_singleton.mp h]; exact ⟨hb, by simp, by simp⟩
  | [a, b, c'], hb, c, h => by
    rw [List.mem_singleton.mp h]; exact ⟨hb, by simp, by simp⟩
  | a :: b :: c' :: d :: r, hb, c, h => by
    rcases List.mem_cons.mp h with e | h
    · rw [e]
      exact ⟨fun x hx => hb x (by simp at hx ⊢; rcases hx with q | q | q | q <;> simp [q]), by simp, by simp⟩
    · exact chunks_piece r (fun x hx => hb x (by simp [hx])) c h
theorem Piece.cases {c : List Int} {P : List Int → Prop} (h : Piece c) (p1 : ∀ a, 0 ≤ a ∧ a < 256 → P [a]) (p2 : ∀ a b, 0 ≤ a ∧ a < 256 → 0 ≤ b ∧ b < 256 → P [a, b])
    (p3 : ∀ a b d, 0 ≤ a ∧ a < 256 → 0 ≤ b ∧ b < 256 → 0 ≤ d ∧ d < 256 → P [a, b, d]) (p4 : ∀ a b d e, 0 ≤ a ∧ a < 256 → 0 ≤ b ∧ b < 256 → 0 ≤ d ∧ d < 256 → 0 ≤ e ∧ e < 256 → P [a, b, d, e]) : P c := by
  obtain ⟨hb, h1, h4⟩ := h
  match c, hb, h1, h4 with
  | [a], hb, _, _ => exact p1 a (hb a (by simp))
  | [a, b], hb, _, _ => exact p2 a b (hb a (by simp)) (hb b (by simp))
  | [a, b, d], hb, _, _ => exact p3 a b d (hb a (by simp)) (hb b (by simp)) (hb d (by simp))
  | [a, b, d, e], hb, _, _ => exact p4 a b d e (hb a (by simp)) (hb b (by simp)) (hb d (by simp)) (hb e (by simp))
  | _ :: _ :: _ :: _ :: _ :: _, _, _, h4 => simp at h4
theorem bnum1 (a : Int) : bnum [a] = 256 + a := by simp [bnum]
theorem bnum2 (a b : Int) : bnum [a, b] = 65536 + a * 256 + b := by simp [bnum]; omega
theorem bnum3 (a b d : Int) : bnum [a, b, d] = 16777216 + a * 65536 + b * 256 + d := by simp [bnum]; omega
theorem bnum4 (a b d e : Int) : bnum [a, b, d, e] = 4294967296 + a * 16777216 + b * 65536 + d * 256 + e := by simp [bnum]; omega
theorem bsize_bnum {c : List Int} (h : Piece c) : bsize (bnum c) = c.length := by
  refine h.cases (P := fun c => bsize (bnum c) = c.length) (fun a ha => ?_) (fun a b ha hb => ?_) (fun a b d ha hb hd => ?_) (fun a b d e ha hb hd he => ?_)
  · rw [bnum1]; unfold bsize; rw [if_pos (by omega)]; rfl
  · rw [bnum2]; unfold bsize; rw [if_neg (by omega), if_pos (by omega)]; rfl
  · rw [bnum3]; unfold bsize; rw [if_neg (by omega), if_neg (by omega), if_pos (by omega)]; rfl
  · rw [bnum4]; unfold bsize; rw [if_neg (by omega), if_neg (by omega), if_neg (by omega), if_pos (by omega)]; rfl
theorem bbytes_bnum {c : List Int} (h : Piece c) : bbytes (bnum c) = c := by
  have hs := bsize_bnum h
  unfold bbytes
  rw [hs]
  refine h.cases (P := fun c => (if (c.length : Int) = 1 then [bnum c % 256] else if (c.length : Int) = 2 then [bnum c / 256 % 256, bnum c % 256] else if (c.length : Int) = 3 then [bnum c / 65536 % 256, bnum c / 256 % 256, bnum c % 256]
    else if (c.length : Int) = 4 then [bnum c / 16777216 % 256, bnum c / 65536 % 256, bnum c / 256 % 256, bnum c % 256] else []) = c) (fun a ha => ?_) (fun a b ha hb => ?_) (fun a b d ha hb hd => ?_) (fun a b d e ha hb hd he => ?_)
  · rw [if_pos (show ((([a] : List Int).length : Nat) : Int) = 1 from rfl), bnum1]
    congr 1
    omega
  · rw [if_neg (by simp), if_pos (show ((([a, b] : List Int).length : Nat) : Int) = 2 from rfl), bnum2]
    have e1 : (65536 + a * 256 + b) / 256 % 256 = a := by omega
    have e2 : (65536 + a * 256 + b) % 256 = b := by omega
    rw [e1, e2]
  · rw [if_neg (by simp), if_neg (by simp), if_pos (show ((([a, b, d] : List Int).length : Nat) : Int) = 3 from rfl), bnum3]
    have e1 : (16777216 + a * 65536 + b * 256 + d) / 65536 % 256 = a := by omega
    have e2 : (16777216 + a * 65536 + b * 256 + d) / 256 % 256 = b := by omega
    have e3 : (16777216 + a * 65536 + b * 256 + d) % 256 = d := by omega
    rw [e1, e2, e3]
  · rw [if_neg (by simp), if_neg (by simp), if_neg (by simp), if_pos (show ((([a, b, d, e] : List Int).length : Nat) : Int) = 4 from rfl), bnum4]
    have e1 : (4294967296 + a * 16777216 + b * 65536 + d * 256 + e) / 16777216 % 256 = a := by omega
    have e2 : (4294967296 + a * 16777216 + b * 65536 + d * 256 + e) / 65536 % 256 = b := by omega
    have e3 : (4294967296 + a * 16777216 + b * 65536 + d * 256 + e) / 256 % 256 = d := by omega
    have e4 : (4294967296 + a * 16777216 + b * 65536 + d * 256 + e) % 256 = e := by omega
    rw [e1, e2, e3, e4]
theorem bnum_inj {c d : List Int} (hc : Piece c) (hd : Piece d) : bnum c = bnum d ↔ c = d :=
  ⟨fun e => by rw [← bbytes_bnum hc, ← bbytes_bnum hd, e], fun e => by rw [e]⟩
theorem flat_bytes {xs : List Int} (h : isB xs) : ((chunks xs).map bnum).flatMap bbytes = xs := by
  have q : ∀ l : List (List Int), (∀ c ∈ l, Piece c) → (l.map bnum).flatMap bbytes = l.flatten := by
    intro l
    induction l with
    | nil => intro _; rfl
    | cons c r ih =>
      intro hp
      show bbytes (bnum c) ++ (r.map bnum).flatMap bbytes = c ++ r.flatten
      rw [bbytes_bnum (hp c (List.mem_cons_self ..)), ih fun d hd => hp d (List.mem_cons_of_mem _ hd)]
  rw [q _ (chunks_piece xs h), chunks_flat]
def nums (xs : List Int) : List Int := (chunks xs).map bnum
theorem nums_inj {xs ys : List Int} (h1 : isB xs) (h2 : isB ys) : nums xs = nums ys ↔ xs = ys :=
  ⟨fun e => by rw [← flat_bytes h1, ← flat_bytes h2]; exact congrArg _ e, fun e => by rw [e]⟩
/-- the order of two rows of bytes by their pieces -/
def lessP : List (List Int) → List (List Int) → Bool
  | [], [] => false
  | [], _ :: _ => true
  | _ :: _, [] => false
  | c :: cs, d :: ds => if c = d then lessP cs ds else if c.length = d.length then HT.lexLt c d else decide (c.length < d.length)
theorem bnum_len {c d : List Int} (hc : Piece c) (hd : Piece d) (h : c.length < d.length) : bnum c < bnum d := by
  have key : ∀ c : List Int, Piece c → 256 ^ c.length ≤ bnum c ∧ bnum c < 2 * 256 ^ c.length := fun c h => by
    refine h.cases (P := fun c => 256 ^ c.length ≤ bnum c ∧ bnum c < 2 * 256 ^ c.length) (fun a ha => ?_) (fun a b ha hb => ?_) (fun a b d ha hb hd => ?_) (fun a b d e ha hb hd he => ?_)
    · rw [bnum1, show (256 : Int) ^ ([a] : List Int).length = 256 from rfl]; omega
    · rw [bnum2, show (256 : Int) ^ ([a, b] : List Int).length = 65536 from rfl]; omega
    · rw [bnum3]
      show (256 : Int) ^ 3 ≤ _ ∧ _ < 2 * (256 : Int) ^ 3
      rw [show (256 : Int) ^ 3 = 16777216 by decide +kernel]; omega
    · rw [bnum4]
      show (256 : Int) ^ 4 ≤ _ ∧ _ < 2 * (256 : Int) ^ 4
      rw [show (256 : Int) ^ 4 = 4294967296 by decide +kernel]; omega
  have k1 := (key c hc).2
  have k2 := (key d hd).1
  have l1 := hc.h1
  have l4 := hd.h4
  have e : ∀ n : Nat, 1 ≤ n → n < d.length → (2 : Int) * 256 ^ n ≤ 256 ^ d.length := fun n h1 h2 => by
    have hd4 : d.length = 2 ∨ d.length = 3 ∨ d.length = 4 := by omega
    have hn : n = 1 ∨ n = 2 ∨ n = 3 := by omega
    rcases hd4 with q | q | q <;> rcases hn with r | r | r <;> rw [q, r] <;> first | decide | (exfalso; omega)
  have := e _ l1 h
  omega
theorem bnum_lex {c d : List Int} (hc : Piece c) (hd : Piece d) (h : c.length = d.length) (hne : c ≠ d) : decide (bnum c < bnum d) = HT.lexLt c d := by
  obtain ⟨bc, c1, c4⟩ := hc
  obtain ⟨bd, d1, d4⟩ := hd
  match c, d, bc, c1, c4, bd, h, hne with
  | [a], [b], bc, _, _, bd, _, hne =>
    have h1 := bc a (by simp)
    have h2 := bd b (by simp)
    have n1 : a ≠ b := fun e => hne (by rw [e])
    rw [bnum1, bnum1]
    show _ = if a = b then false else decide (a < b)
    rw [if_neg n1]
    exact decide_eq_decide.mpr (by omega)
  | [a, a2], [b, b2], bc, _, _, bd, _, hne =>
    have h1 := bc a (by simp)
    have h2 := bd b (by simp)
    have h3 := bc a2 (by simp)
    have h4 := bd b2 (by simp)
    rw [bnum2, bnum2]
    show _ = if a = b then (if a2 = b2 then false else decide (a2 < b2)) else decide (a < b)
    by_cases n1 : a = b
    · rw [if_pos n1]
      have n2 : a2 ≠ b2 := fun e => hne (by rw [n1, e])
      rw [if_neg n2]
      exact decide_eq_decide.mpr (by omega)
    · rw [if_neg n1]
      exact decide_eq_decide.mpr (by omega)
  | [a, a2, a3], [b, b2, b3], bc, _, _, bd, _, hne =>
    have h1 := bc a (by simp)
    have h2 := bd b (by simp)
    have h3 := bc a2 (by simp)
    have h4 := bd b2 (by simp)
    have h5 := bc a3 (by simp)
    have h6 := bd b3 (by simp)
    rw [bnum3, bnum3]
    show _ = if a = b then (if a2 = b2 then (if a3 = b3 then false else decide (a3 < b3)) else decide (a2 < b2)) else decide (a < b)
    by_cases n1 : a = b
    · rw [if_pos n1]
      by_cases n2 : a2 = b2
      · rw [if_pos n2]
        have n3 : a3 ≠ b3 := fun e => hne (by rw [n1, n2, e])
        rw [if_neg n3]
        exact decide_eq_decide.mpr (by omega)
      · rw [if_neg n2]
        exact decide_eq_decide.mpr (by omega)
    · rw [if_neg n1]
      exact decide_eq_decide.mpr (by omega)
  | [a, a2, a3, a4], [b, b2, b3, b4], bc, _, _, bd, _, hne =>
    have h1 := bc a (by simp)
    have h2 := bd b (by simp)
    have h3 := bc a2 (by simp)
    have h4 := bd b2 (by simp)
    have h5 := bc a3 (by simp)
    have h6 := bd b3 (by simp)
    have h7 := bc a4 (by simp)
    have h8 := bd b4 (by simp)
    rw [bnum4, bnum4]
    show _ = if a = b then (if a2 = b2 then (if a3 = b3 then (if a4 = b4 then false else decide (a4 < b4)) else decide (a3 < b3)) else decide (a2 < b2)) else decide (a < b)
    by_cases n1 : a = b
    · rw [if_pos n1]
      by_cases n2 : a2 = b2
      · rw [if_pos n2]
        by_cases n3 : a3 = b3
        · rw [if_pos n3]
          have n4 : a4 ≠ b4 := fun e => hne (by rw [n1, n2, n3, e])
          rw [if_neg n4]
          exact decide_eq_decide.mpr (by omega)
        · rw [if_neg n3]
          exact decide_eq_decide.mpr (by omega)
      · rw [if_neg n2]
        exact decide_eq_decide.mpr (by omega)
    · rw [if_neg n1]
      exact decide_eq_decide.mpr (by omega)
theorem lex_nums : ∀ {cs ds : List (List Int)}, (∀ c ∈ cs, Piece c) → (∀ d ∈ ds, Piece d) → HT.lexLt (cs.map bnum) (ds.map bnum) = lessP cs ds
  | [], [], _, _ => rfl
  | [], _ :: _, _, _ => rfl
  | _ :: _, [], _, _ => rfl
  | c :: cs, d :: ds, h1, h2 => by
    have pc := h1 c (List.mem_cons_self ..)
    have pd := h2 d (List.mem_cons_self ..)
    have ih := lex_nums (cs := cs) (ds := ds) (fun x hx => h1 x (List.mem_cons_of_mem _ hx)) (fun x hx => h2 x (List.mem_cons_of_mem _ hx))
    show (if bnum c = bnum d then HT.lexLt (cs.map bnum) (ds.map bnum) else decide (bnum c < bnum d)) = if c = d then lessP cs ds else if c.length = d.length then HT.lexLt c d else decide (c.length < d.length)
    by_cases e : c = d
    · rw [if_pos e, if_pos (by rw [e]), ih]
    · rw [if_neg e, if_neg (fun q => e ((bnum_inj pc pd).mp q))]
      by_cases l : c.length = d.length
      · rw [if_pos l, bnum_lex pc pd l e]
      · rw [if_neg l]
        by_cases l2 : c.length < d.length
        · rw [decide_eq_true l2, decide_eq_true (bnum_len pc pd l2)]
        · have := bnum_len pd pc (by omega)
          rw [decide_eq_false l2, decide_eq_false (by omega)]
def sp_block_number (K : PySem.W.Frag) : Sp := sp1 fun a H Q => ∃ (p : Addr) (xs : List Int), a = .ref p ∧ SqL K H p (xs.map V.int) ∧ Q (.int (bnum xs)) H
def sp_block_size (K : PySem.W.Frag) : Sp := sp1 fun a H Q => ∃ n : Int, a = .int n ∧ Q (.int (bsize n)) H
def sp_is_block (K : PySem.W.Frag) : Sp := sp1 fun a H Q => ∃ n : Int, a = .int n ∧ Q (.bl (decide (0 < bsize n))) H
def sp_block_bytes (K : PySem.W.Frag) : Sp := sp1 fun a H Q => ∃ n : Int, a = .int n ∧ 0 < bsize n ∧ ∀ (p : Addr) (H' : Hp), H p = none → Same H H' → H' p = some (.lst ((bbytes n).map V.int)) → Q (.ref p) H'
def sp_split (K : PySem.W.Frag) : Sp := sp1 fun a H Q => ∃ (p : Addr) (xs : List Int), a = .ref p ∧ SqL K H p (xs.map V.int) ∧ xs.length ≤ 100000 ∧ ∀ (q : Addr) (H' : Hp), H q = none → Same H H' → H' q = some (.tup ((nums xs).map V.int)) → Q (.ref q) H'
theorem bsize_le (n : Int) : 0 ≤ bsize n ∧ bsize n ≤ 4 := by
  unfold bsize
  repeat' split
  all_goals omega
theorem bbytes_len (n : Int) : (bbytes n).length ≤ 4 := by
  unfold bbytes
  repeat' split
  all_goals simp
theorem range4 {n : Int} (h0 : 0 ≤ n) (h1 : n ≤ 1000000) : RgC 0 n 4 ((n.toNat + 3) / 4) := by
  have e : Builtin.Range.rangeSize 0 n 4 = (((n.toNat + 3) / 4 : Nat) : Int) := by
    rw [PyProof.Rows.rangeSize_pos (by decide) h0]
    omega
  refine ⟨by decide, by decide, ?_, e⟩
  unfold Builtin.Range.small
  rw [e]
  simp only [Builtin.Range.rangeFitsLong, Bool.and_eq_true, Bool.or_eq_true, decide_eq_true_eq, beq_iff_eq, show ((4 : Int) > 0) by decide, if_true]
  omega
theorem cut_chunk (xs : List Int) (i : Nat) : cutV (xs.map V.int) (some (0 + (i : Nat) * 4)) (some (0 + (i : Nat) * 4 + 4)) = ((xs.drop (4 * i)).take 4).map V.int := by
  unfold cutV
  have e1 : (0 + ((i : Nat) : Int) * 4) = ((4 * i : Nat) : Int) := by omega
  have e2 : (0 + ((i : Nat) : Int) * 4 + 4) = ((4 * i + 4 : Nat) : Int) := by omega
  rw [e2, e1, HT.sIx_nat, HT.sIx_nat, List.length_map, List.map_take, List.map_drop]
  by_cases h : 4 * i ≤ xs.length
  · rw [Nat.min_eq_left h]
    by_cases h2 : 4 * i + 4 ≤ xs.length
    · rw [Nat.min_eq_left h2, show 4 * i + 4 - 4 * i = 4 by omega]
    · rw [Nat.min_eq_right (by omega)]
      rw [List.take_of_length_le (by simp), List.take_of_length_le (by simp; omega)]
  · rw [Nat.min_eq_right (by omega), Nat.min_eq_right (by omega)]
    rw [List.drop_eq_nil_of_le (by simp), List.drop_eq_nil_of_le (by simp; omega)]
    simp
theorem bbytes_length {n : Int} (h : 0 < bsize n) : (bbytes n).length = (bsize n).toNat := by
  have h4 := (bsize_le n).2
  unfold bbytes
  by_cases e1 : bsize n = 1
  · rw [if_pos e1, e1]; rfl
  · rw [if_neg e1]
    by_cases e2 : bsize n = 2
    · rw [if_pos e2, e2]; rfl
    · rw [if_neg e2]
      by_cases e3 : bsize n = 3
      · rw [if_pos e3, e3]; rfl
      · rw [if_neg e3]
        have e4 : bsize n = 4 := by omega
        rw [if_pos e4, e4]; rfl
theorem byte_at {n : Int} {i : Nat} (h : 0 < bsize n) (hi : i < (bsize n - 0).toNat) : n / 2 ^ (8 * (0 + ((bsize n - 0).toNat : Int) - 1 + (i : Int) * -1)).toNat % 2 ^ 8 = (bbytes n).getD i 0 := by
  have h4 := (bsize_le n).2
  unfold bbytes
  by_cases e1 : bsize n = 1
  · rw [if_pos e1]
    rw [e1] at hi ⊢
    have ei : i = 0 := by omega
    subst ei
    show n / 1 % 256 = n % 256
    omega
  · rw [if_neg e1]
    by_cases e2 : bsize n = 2
    · rw [if_pos e2]
      rw [e2] at hi ⊢
      have hi2 : i < 2 := by omega
      match i, hi2 with
      | 0, _ => rfl
      | 1, _ =>
        show n / 1 % 256 = n % 256
        omega
    · rw [if_neg e2]
      by_cases e3 : bsize n = 3
      · rw [if_pos e3]
        rw [e3] at hi ⊢
        have hi2 : i < 3 := by omega
        match i, hi2 with
        | 0, _ => rfl
        | 1, _ => rfl
        | 2, _ =>
          show n / 1 % 256 = n % 256
          omega
      · rw [if_neg e3]
        have e4 : bsize n = 4 := by omega
        rw [if_pos e4]
        rw [e4] at hi ⊢
        have hi2 : i < 4 := by omega
        match i, hi2 with
        | 0, _ => rfl
        | 1, _ => rfl
        | 2, _ => rfl
        | 3, _ =>
          show n / 1 % 256 = n % 256
          omega
theorem map_getD : ∀ (l : List Int), (List.range l.length).map (fun i => V.int (l.getD i 0)) = l.map V.int := fun l => by
  refine List.ext_getElem? fun i => ?_
  by_cases h : i < l.length
  · rw [List.getElem?_map, List.getElem?_range h, List.getElem?_map, List.getElem?_eq_getElem h]
    show some (V.int (l.getD i 0)) = some (V.int l[i])
    rw [List.getD_eq_getElem?_getD, List.getElem?_eq_getElem h]
    rfl
  · rw [List.getElem?_eq_none (by simp; omega), List.getElem?_eq_none (by simp; omega)]
theorem nums_range (xs : List Int) : (nums xs).map V.int = (List.range ((xs.length + 3) / 4)).map fun i => V.int (bnum ((xs.drop (4 * i)).take 4)) := by
  unfold nums
  rw [chunks_map, List.map_map, List.map_map]
  rfl
theorem nums_len (xs : List Int) : (nums xs).length = (xs.length + 3) / 4 := by
  unfold nums
  rw [List.length_map, chunks_len]
theorem flat_len : ∀ ns : List Int, (ns.flatMap bbytes).length ≤ 4 * ns.length
  | [] => Nat.zero_le _
  | n :: r => by
    have ih := flat_len r
    have := bbytes_len n
    show (bbytes n ++ r.flatMap bbytes).length ≤ 4 * (r.length + 1)
    rw [List.length_append]
    omega
theorem same_tup {K : PySem.W.Frag} {H H' : Hp} {a : Addr} {xs : List V} (e : Same H H') (h : SqT K H a xs) : SqT K H' a xs := by
  rcases h with (h | ⟨o, h⟩) | h
  · exact .inl (.inl (e _ _ h))
  · exact .inl (.inr ⟨o, e _ _ h⟩)
  · exact .inr h
theorem cut_chunk2 (xs : List Int) (i : Nat) : cutV (xs.map V.int) (some (4 * (0 + (i : Nat)))) (some (4 * (0 + (i : Nat)) + 4)) = ((xs.drop (4 * i)).take 4).map V.int := by
  have e : (4 * (0 + ((i : Nat) : Int))) = 0 + (i : Nat) * 4 := by omega
  rw [e]; exact cut_chunk xs i
theorem nums_at {xs : List Int} {i : Nat} (h : i < (xs.length + 3) / 4) : (nums xs)[i]? = some (bnum ((xs.drop (4 * i)).take 4)) := by
  rw [nums, List.getElem?_map, chunks_get xs i h]; rfl
theorem nums_get {xs : List Int} {i : Nat} (h : i < (xs.length + 3) / 4) : atI ((nums xs).map V.int) (0 + (i : Nat)) = some (.int (bnum ((xs.drop (4 * i)).take 4))) :=
  at_of (j := i) (by omega) (by rw [List.getElem?_map, nums_at h]; rfl)
theorem chunk_piece {xs : List Int} (hb : isB xs) {i : Nat} (h : i < (xs.length + 3) / 4) : Piece ((xs.drop (4 * i)).take 4) :=
  chunks_piece xs hb _ (List.mem_of_getElem? (chunks_get xs i h))
theorem nums_pos {xs : List Int} (hb : isB xs) : ∀ n ∈ nums xs, 0 < bsize n := fun n hn => by
  obtain ⟨c, hc, rfl⟩ := List.mem_map.mp hn
  have q := chunks_piece xs hb c hc
  have := q.h1
  rw [bsize_bnum q]
  omega
theorem nums_len' (xs : List Int) : (nums xs).length = (xs.length + 3) / 4 := by rw [nums, List.length_map, chunks_len]
/-- blocks of one content -/
def isBlocks (ns : List Int) : Bool := decide (ns.length ≤ 255) && ns.dropLast.all (fun n => decide (bsize n = 4)) && (decide (ns = []) || decide (0 < bsize (ns.getLastD 0)))
theorem isBl_long {ns : List Int} (h : 255 < ns.length) : isBlocks ns = false := by
  unfold isBlocks
  rw [decide_eq_false (by omega)]
  rfl
theorem isBl_bad {ns : List Int} {x : Int} (h : x ∈ ns.dropLast) (h2 : ¬ bsize x = 4) : isBlocks ns = false := by
  unfold isBlocks
  have e : (ns.dropLast.all fun n => decide (bsize n = 4)) = false := by
    rw [List.all_eq_false]
    exact ⟨x, h, by rw [decide_eq_false h2]; exact Bool.false_ne_true⟩
  rw [e, Bool.and_false, Bool.false_and]
theorem isBl_end {ns : List Int} (h1 : ns.length ≤ 255) (h2 : ∀ n ∈ ns.dropLast, bsize n = 4) : isBlocks ns = (decide (ns = []) || decide (0 < bsize (ns.getLastD 0))) := by
  unfold isBlocks
  have e : (ns.dropLast.all fun n => decide (bsize n = 4)) = true := by
    rw [List.all_eq_true]
    exact fun n hn => decide_eq_true (h2 n hn)
  rw [e, decide_eq_true h1]
  rfl
theorem isBl_nums {xs : List Int} (hb : isB xs) (hl : xs.length ≤ 1020) : isBlocks (nums xs) = true := by
  have n1 := nums_len' xs
  rw [isBl_end (by omega) fun n hn => ?_]
  · by_cases e : nums xs = []
    · rw [decide_eq_true e]; rfl
    · have hm : (nums xs).getLastD 0 ∈ nums xs := by
        rw [List.getLastD_eq_getLast?, List.getLast?_eq_some_getLast e]
        exact List.getLast_mem e
      rw [decide_eq_true (nums_pos hb _ hm), Bool.or_true]
  · obtain ⟨i, hi⟩ := List.getElem?_of_mem hn
    rw [List.getElem?_dropLast] at hi
    split at hi
    · rename_i h2
      have h3 : i < (xs.length + 3) / 4 := by omega
      rw [nums_at h3] at hi
      rw [← Option.some.inj hi, bsize_bnum (chunk_piece hb h3), List.length_take, List.length_drop]
      omega
    · cases hi
theorem cut_last (xs : List V) : cutV xs none (some (-1)) = xs.dropLast := by
  unfold cutV
  have e : HT.sIx xs.length xs.length (some (-1)) = xs.length - 1 := by
    show (if (-1 : Int) < 0 then ((-1 : Int) + (xs.length : Int)).toNat else min (-1 : Int).toNat xs.length) = _
    rw [if_pos (by decide)]
    omega
  rw [e, HT.sIx_none, List.drop_zero, Nat.sub_zero, List.dropLast_eq_take]
theorem e_slA {K : PySem.W.Frag} {H : Hp} {Q : VK} {p : Addr} {xs : List V} {lo hi : Option Int} (h : SqT K H p xs) (q : ∀ r H', Same H H' → SqT K H' r (cutV xs lo hi) → Q (.ref r) H') : rSlA K (.ref p) lo hi H Q := by
  refine ⟨p, xs, rfl, h, fun w => q p H (Same.refl H) ?_, fun _ r hr => q r _ (same_new hr) (SqT.of upd_same)⟩
  have e : cutV xs lo hi = xs := by
    unfold cutV
    rw [w.1, w.2, List.drop_zero, Nat.sub_zero, List.take_length]
  rw [e]; exact h
theorem last_at {ns : List Int} (h : ¬ ns = []) : atI (ns.map V.int) (-1) = some (.int (ns.getLastD 0)) := by
  have e : ns = ns.dropLast ++ [ns.getLast h] := (List.dropLast_concat_getLast h).symm
  have e2 : ns.getLastD 0 = ns.getLast h := by
    rw [List.getLastD_eq_getLast?, List.getLast?_eq_some_getLast h]; rfl
  rw [e2]
  have e3 : ns.map V.int = ns.dropLast.map V.int ++ [V.int (ns.getLast h)] := by
    rw [← List.map_singleton, ← List.map_append, ← e]
  rw [e3]
  exact atI_last _ _
theorem map_dropLast (ns : List Int) : (ns.map V.int).dropLast = ns.dropLast.map V.int := (List.map_dropLast ..).symm
def sp_is_blocks (K : PySem.W.Frag) : Sp := sp1 fun a H Q => ∃ (p : Addr) (ns : List Int), a = .ref p ∧ SqE K H p (ns.map V.int) ∧ ∀ H', Same H H' → Q (.bl (isBlocks ns)) H'
def sp_law_integers (K : PySem.W.Frag) : Sp := sp1 fun a H Q => ∃ (p : Addr) (ns : List Int), a = .ref p ∧ SqE K H p (ns.map V.int) ∧ Q (.bl true) H
abbrev Vc := List (Int × Int)
def cnt : Vc → Int → Int
  | [], _ => 0
  | c :: r, d => if c.1 = d then c.2 else cnt r d
def madeN (n : Nat) (f : Nat → Int) : Vc := ((List.range n).filter fun k => decide (0 < f k)).map fun k => (((k : Nat) : Int) + 1, f k)
abbrev made (f : Nat → Int) : Vc := madeN 9 f
theorem madeN_succ (n : Nat) (f : Nat → Int) : madeN (n + 1) f = madeN n f ++ (if 0 < f n then [(((n : Nat) : Int) + 1, f n)] else []) := by
  unfold madeN
  rw [List.range_succ, List.filter_append, List.map_append]
  by_cases h : 0 < f n
  · rw [if_pos h, List.filter_cons_of_pos (by rw [decide_eq_true h])]; rfl
  · rw [if_neg h, List.filter_cons_of_neg (by rw [decide_eq_false h]; exact Bool.false_ne_true)]; rfl
theorem madeN_mem {n : Nat} {f : Nat → Int} {c : Int × Int} (h : c ∈ madeN n f) : ∃ k : Nat, k < n ∧ c = (((k : Nat) : Int) + 1, f k) ∧ 0 < f k := by
  obtain ⟨k, hk, rfl⟩ := List.mem_map.mp h
  obtain ⟨h1, h2⟩ := List.mem_filter.mp hk
  exact ⟨k, List.mem_range.mp h1, rfl, of_decide_eq_true h2⟩
theorem cnt_app_ne {u : Vc} {c : Int × Int} {d : Int} (h : ¬ c.1 = d) : cnt (u ++ [c]) d = cnt u d := by
  induction u with
  | nil => show (if c.1 = d then _ else _) = _; rw [if_neg h]
  | cons x r ih => show (if x.1 = d then _ else cnt (r ++ [c]) d) = if x.1 = d then _ else _; rw [ih]
theorem cnt_app_out {u w : Vc} {d : Int} (h : ∀ c ∈ u, ¬ c.1 = d) : cnt (u ++ w) d = cnt w d := by
  induction u with
  | nil => rfl
  | cons x r ih =>
    show (if x.1 = d then _ else cnt (r ++ w) d) = _
    rw [if_neg (h x (List.mem_cons_self ..)), ih fun c hc => h c (List.mem_cons_of_mem _ hc)]
theorem cnt_madeN {f : Nat → Int} (hf : ∀ k, 0 ≤ f k) (k : Nat) : ∀ n, cnt (madeN n f) (((k : Nat) : Int) + 1) = if k < n then f k else 0
  | 0 => by rw [if_neg (by omega)]; rfl
  | n + 1 => by
    have ih := cnt_madeN hf k n
    rw [madeN_succ]
    by_cases h : k = n
    · subst h
      rw [if_pos (show k < k + 1 by omega), cnt_app_out fun c hc => ?_]
      · by_cases h0 : 0 < f k
        · rw [if_pos h0]
          show (if ((k : Nat) : Int) + 1 = ((k : Nat) : Int) + 1 then f k else 0) = _
          rw [if_pos rfl]
        · rw [if_neg h0]; have := hf k; show (0 : Int) = _; omega
      · obtain ⟨j, hj, rfl, _⟩ := madeN_mem hc
        show ¬ ((j : Nat) : Int) + 1 = _
        omega
    · have e : (if k < n + 1 then f k else 0) = if k < n then f k else 0 := by
        by_cases h2 : k < n
        · rw [if_pos h2, if_pos (by omega)]
        · rw [if_neg h2, if_neg (by omega)]
      rw [e, ← ih]
      by_cases h0 : 0 < f n
      · rw [if_pos h0, cnt_app_ne (by show ¬ ((n : Nat) : Int) + 1 = _; omega)]
      · rw [if_neg h0, List.append_nil]
theorem cnt_made {f : Nat → Int} (hf : ∀ k, 0 ≤ f k) {k : Nat} (hk : k < 9) : cnt (made f) (((k : Nat) : Int) + 1) = f k := by
  rw [cnt_madeN hf, if_pos hk]
/-- the last that was told, along a row -/
def told (g : Int → Int → Int) (v : Vc) (d i : Int) : Int := v.foldl (fun acc c => if c.1 = d then g c.2 acc else acc) i
theorem told_app (g : Int → Int → Int) (u w : Vc) (d i : Int) : told g (u ++ w) d i = told g w d (told g u d i) := by
  unfold told; rw [List.foldl_append]
theorem told_one (g : Int → Int → Int) (c : Int × Int) (d i : Int) : told g [c] d i = if c.1 = d then g c.2 i else i := rfl
theorem told_madeN (g : Int → Int → Int) {f : Nat → Int} (k : Nat) (i : Int) : ∀ n, told g (madeN n f) (((k : Nat) : Int) + 1) i = if k < n ∧ 0 < f k then g (f k) i else i
  | 0 => by rw [if_neg (by omega)]; rfl
  | n + 1 => by
    have ih := told_madeN g (f := f) k i n
    rw [madeN_succ, told_app, ih]
    by_cases h0 : 0 < f n
    · rw [if_pos h0, told_one]
      by_cases h : k = n
      · subst h
        show (if ((k : Nat) : Int) + 1 = _ then _ else _) = _
        rw [if_pos rfl, if_neg (show ¬ (k < k ∧ 0 < f k) by omega), if_pos ⟨by omega, h0⟩]
      · show (if ((n : Nat) : Int) + 1 = _ then _ else _) = _
        rw [if_neg (by omega)]
        by_cases h2 : k < n ∧ 0 < f k
        · rw [if_pos h2, if_pos ⟨by omega, h2.2⟩]
        · rw [if_neg h2, if_neg (by omega)]
    · rw [if_neg h0]
      show (if k < n ∧ 0 < f k then g (f k) i else i) = _
      by_cases h2 : k < n ∧ 0 < f k
      · rw [if_pos h2, if_pos ⟨by omega, h2.2⟩]
      · by_cases h : k = n
        · subst h
          rw [if_neg h2, if_neg (by omega)]
        · rw [if_neg h2, if_neg (by omega)]
theorem last_made {f : Nat → Int} (hf : ∀ k, 0 ≤ f k) {k : Nat} (hk : k < 9) : told (fun c _ => c) (made f) (((k : Nat) : Int) + 1) 0 = f k := by
  rw [told_madeN]
  by_cases h : 0 < f k
  · rw [if_pos ⟨hk, h⟩]
  · have := hf k
    rw [if_neg (by omega)]; omega
def mx (i j : Int) : Int := if j > i then j else i
theorem max_made {f g : Nat → Int} (hf : ∀ k, 0 ≤ f k) {k : Nat} (hk : k < 9) : told mx (made g) (((k : Nat) : Int) + 1) (f k) = mx (f k) (g k) := by
  rw [told_madeN]
  have := hf k
  by_cases h : 0 < g k
  · rw [if_pos ⟨hk, h⟩]
    unfold mx
    split <;> split <;> omega
  · rw [if_neg (by omega)]
    unfold mx
    rw [if_neg (by omega)]
def lessF (n : Nat) (f g : Nat → Int) : Bool := (List.range n).any fun k => decide (f k < g k)
theorem less_madeN {f g : Nat → Int} (hf : ∀ k, 0 ≤ f k) : ∀ n, n ≤ 9 → ((madeN n g).any fun c => decide (cnt (made f) c.1 < c.2)) = lessF n f g
  | 0, _ => rfl
  | n + 1, h => by
    have ih := less_madeN (g := g) hf n (by omega)
    have e : lessF (n + 1) f g = (lessF n f g || decide (f n < g n)) := by
      unfold lessF
      rw [List.range_succ, List.any_append]
      simp
    rw [madeN_succ, List.any_append, ih, e]
    have := hf n
    by_cases h0 : 0 < g n
    · rw [if_pos h0]
      show (_ || (decide (cnt (made f) (((n : Nat) : Int) + 1) < g n) || false)) = _
      rw [cnt_made hf (by omega), Bool.or_false]
    · rw [if_neg h0, decide_eq_false (by omega : ¬ f n < g n)]
      rfl
/-! a dict of counts -/
def kvl (m : Vc) : List (Key × V) := m.map fun c => (Sum.inl c.1, V.int c.2)
def dput (m : Vc) (k c : Int) : Vc := if (m.any fun x => decide (x.1 = k)) = true then m.map (fun x => if x.1 = k then (k, c) else x) else m ++ [(k, c)]
structure Good (m : Vc) : Prop where
  nd : (m.map (·.1)).Nodup
  rg : ∀ c ∈ m, 1 ≤ c.1 ∧ c.1 ≤ 9 ∧ 0 < c.2
theorem putK_kvl (m : Vc) (k c : Int) : putK (kvl m) (Sum.inl k) (V.int c) = kvl (dput m k c) := by
  have e1 : ((kvl m).any fun kv => decide (kv.1 = (Sum.inl k : Key))) = (m.any fun x => decide (x.1 = k)) := by
    unfold kvl
    rw [List.any_map]
    congr 1
    funext x
    exact decide_eq_decide.mpr ⟨fun h => Sum.inl.inj h, fun h => congrArg Sum.inl h⟩
  unfold putK dput
  rw [e1]
  split
  · unfold kvl
    rw [List.map_map, List.map_map]
    refine List.map_congr_left fun x _ => ?_
    show (if (Sum.inl x.1 : Key) = Sum.inl k then _ else _) = (fun c : Int × Int => ((Sum.inl c.1 : Key), V.int c.2)) (if x.1 = k then (k, c) else x)
    by_cases h : x.1 = k
    · rw [if_pos h, if_pos (congrArg Sum.inl h)]
      show ((Sum.inl x.1 : Key), V.int c) = (Sum.inl k, V.int c)
      rw [h]
    · rw [if_neg h, if_neg fun q => h (Sum.inl.inj q)]
  · unfold kvl
    rw [List.map_append]
    rfl
theorem valV_kvl (m : Vc) (d : Int) : ((valV (kvl m) (Sum.inl d : Key)).getD (.int 0) = .int (cnt m d)) ∧ (∀ c ∈ m, c.1 = d → valV (kvl m) (Sum.inl d : Key) = some (.int (cnt m d))) := by
  induction m with
  | nil => exact ⟨rfl, fun c hc => by cases hc⟩
  | cons x r ih =>
    have e : valV (kvl (x :: r)) (Sum.inl d : Key) = if x.1 = d then some (.int x.2) else valV (kvl r) (Sum.inl d : Key) := by
      unfold valV kvl
      rw [List.map_cons, List.find?_cons]
      by_cases h : x.1 = d
      · rw [if_pos h, decide_eq_true (congrArg Sum.inl h)]; rfl
      · rw [if_neg h, decide_eq_false fun q => h (Sum.inl.inj q)]
    rw [e]
    show (_ = V.int (if x.1 = d then x.2 else cnt r d)) ∧ _
    by_cases h : x.1 = d
    · rw [if_pos h, if_pos h]
      exact ⟨rfl, fun _ _ _ => by show _ = some (V.int (if x.1 = d then x.2 else cnt r d)); rw [if_pos h]⟩
    · rw [if_neg h, if_neg h]
      refine ⟨ih.1, fun c hc q => ?_⟩
      show _ = some (V.int (if x.1 = d then x.2 else cnt r d))
      rw [if_neg h]
      rcases List.mem_cons.mp hc with rfl | hc
      · exact absurd q h
      · exact ih.2 c hc q
theorem cnt_pos {m : Vc} (g : Good m) {d : Int} : (∃ c ∈ m, c.1 = d) ↔ 0 < cnt m d := by
  have := g.rg
  clear g
  induction m with
  | nil => exact ⟨fun ⟨c, hc, _⟩ => (by cases hc), fun h => absurd h (by show ¬ (0 : Int) < 0; omega)⟩
  | cons x r ih =>
    have ih : (∃ c ∈ r, c.1 = d) ↔ 0 < cnt r d := ih fun c hc => this c (List.mem_cons_of_mem _ hc)
    have hx := this x (List.mem_cons_self ..)
    show _ ↔ 0 < if x.1 = d then x.2 else cnt r d
    by_cases h : x.1 = d
    · rw [if_pos h]
      exact ⟨fun _ => hx.2.2, fun _ => ⟨x, List.mem_cons_self .., h⟩⟩
    · rw [if_neg h]
      refine Iff.trans ?_ ih
      constructor
      · rintro ⟨c, hc, q⟩
        rcases List.mem_cons.mp hc with rfl | hc
        · exact absurd q h
        · exact ⟨c, hc, q⟩
      · rintro ⟨c, hc, q⟩
        exact ⟨c, List.mem_cons_of_mem _ hc, q⟩
theorem cnt_dput (m : Vc) (k c d : Int) : cnt (dput m k c) d = if k = d then c else cnt m d := by
  unfold dput
  split
  · rename_i h
    have key : ∀ m : Vc, (m.any fun x => decide (x.1 = k)) = true → cnt (m.map fun x => if x.1 = k then (k, c) else x) d = if k = d then c else cnt m d := by
      intro m
      have none : ∀ m : Vc, ¬ k = d → cnt (m.map fun x => if x.1 = k then (k, c) else x) d = cnt m d := by
        intro m hk
        induction m with
        | nil => rfl
        | cons x r ih =>
          show cnt ((if x.1 = k then (k, c) else x) :: r.map _) d = if x.1 = d then x.2 else cnt r d
          by_cases hx : x.1 = k
          · rw [if_pos hx]
            show (if k = d then c else _) = _
            rw [if_neg hk, if_neg (by rw [hx]; exact hk), ih]
          · rw [if_neg hx]
            show (if x.1 = d then x.2 else _) = _
            rw [ih]
      induction m with
      | nil => intro h; cases h
      | cons x r ih =>
        intro h
        by_cases hk : k = d
        · rw [if_pos hk]
          show cnt ((if x.1 = k then (k, c) else x) :: r.map _) d = c
          by_cases hx : x.1 = k
          · rw [if_pos hx]
            show (if k = d then c else _) = _
            rw [if_pos hk]
          · rw [if_neg hx]
            show (if x.1 = d then x.2 else _) = _
            rw [if_neg (by rw [← hk]; exact hx)]
            have h2 : (r.any fun x => decide (x.1 = k)) = true := by
              rw [List.any_cons, decide_eq_false hx, Bool.false_or] at h
              exact h
            rw [ih h2, if_pos hk]
        · rw [if_neg hk]
          exact none _ hk
    exact key m h
  · rename_i h
    have out : ∀ x ∈ m, ¬ x.1 = k := fun x hx q => h (List.any_eq_true.mpr ⟨x, hx, decide_eq_true q⟩)
    by_cases hk : k = d
    · rw [if_pos hk, cnt_app_out (by rw [← hk]; exact out)]
      show (if k = d then c else _) = _
      rw [if_pos hk]
    · rw [if_neg hk, cnt_app_ne hk]
theorem good_dput {m : Vc} (g : Good m) {k c : Int} (h1 : 1 ≤ k) (h9 : k ≤ 9) (hc : 0 < c) : Good (dput m k c) := by
  unfold dput
  split
  · refine ⟨?_, fun x hx => ?_⟩
    · have e : (m.map fun x => if x.1 = k then (k, c) else x).map (·.1) = m.map (·.1) := by
        rw [List.map_map]
        refine List.map_congr_left fun x _ => ?_
        show (if x.1 = k then (k, c) else x).1 = x.1
        by_cases h : x.1 = k
        · rw [if_pos h, h]
        · rw [if_neg h]
      rw [e]; exact g.nd
    · obtain ⟨y, hy, rfl⟩ := List.mem_map.mp hx
      by_cases h : y.1 = k
      · rw [if_pos h]; exact ⟨h1, h9, hc⟩
      · rw [if_neg h]; exact g.rg y hy
  · rename_i h
    have out : ∀ x ∈ m, ¬ x.1 = k := fun x hx q => h (List.any_eq_true.mpr ⟨x, hx, decide_eq_true q⟩)
    refine ⟨?_, fun x hx => ?_⟩
    · rw [List.map_append, List.nodup_append]
      refine ⟨g.nd, by simp, fun a ha b hb => ?_⟩
      obtain ⟨x, hx, rfl⟩ := List.mem_map.mp ha
      have hb : b = k := by simpa using hb
      rw [hb]; exact out x hx
    · rcases List.mem_append.mp hx with hx | hx
      · exact g.rg x hx
      · rw [List.mem_singleton.mp hx]; exact ⟨h1, h9, hc⟩
theorem merge_kvl (v : Vc) : ∀ m : Vc, mergeK (kvl m) (kvl v) = kvl (v.foldl (fun m c => dput m c.1 c.2) m) := by
  induction v with
  | nil => intro m; rfl
  | cons x r ih =>
    intro m
    show mergeK (putK (kvl m) (Sum.inl x.1) (V.int x.2)) (kvl r) = _
    rw [putK_kvl, ih]
    rfl
theorem fold_good (v : Vc) (hv : ∀ c ∈ v, 1 ≤ c.1 ∧ c.1 ≤ 9 ∧ 0 < c.2) : ∀ m : Vc, Good m → Good (v.foldl (fun m c => dput m c.1 c.2) m) := by
  induction v with
  | nil => intro m g; exact g
  | cons x r ih =>
    intro m g
    have hx := hv x (List.mem_cons_self ..)
    exact ih (fun c hc => hv c (List.mem_cons_of_mem _ hc)) _ (good_dput g hx.1 hx.2.1 hx.2.2)
theorem fold_cnt (v : Vc) (d : Int) : ∀ m : Vc, cnt (v.foldl (fun m c => dput m c.1 c.2) m) d = told (fun c _ => c) v d (cnt m d) := by
  induction v with
  | nil => intro m; rfl
  | cons x r ih =>
    intro m
    show cnt (r.foldl (fun m c => dput m c.1 c.2) (dput m x.1 x.2)) d = told (fun c _ => c) r d (if x.1 = d then x.2 else cnt m d)
    rw [ih, cnt_dput]
theorem made_rg {f : Nat → Int} : ∀ c ∈ made f, 1 ≤ c.1 ∧ c.1 ≤ 9 ∧ 0 < c.2 := fun c hc => by
  obtain ⟨k, hk, rfl, h0⟩ := madeN_mem hc
  exact ⟨by show (1 : Int) ≤ ((k : Nat) : Int) + 1; omega, by show ((k : Nat) : Int) + 1 ≤ 9; omega, h0⟩
/-- a rising row of numbers from 1 to n is told by what is in it -/
theorem rising (n : Nat) : ∀ ys : List Int, ys.Pairwise (· < ·) → (∀ y ∈ ys, 1 ≤ y ∧ y ≤ n) → ys = ((List.range n).filter fun k => decide ((((k : Nat) : Int) + 1) ∈ ys)).map fun k => ((k : Nat) : Int) + 1 := by
  induction n with
  | zero =>
    intro ys _ h
    cases ys with
    | nil => rfl
    | cons y r => have := h y (List.mem_cons_self ..); omega
  | succ n ih =>
    intro ys hp h
    by_cases hm : (((n : Nat) : Int) + 1) ∈ ys
    · obtain ⟨u, w, e⟩ := List.append_of_mem hm
      have hw : w = [] := by
        cases w with
        | nil => rfl
        | cons z w =>
          rw [e, List.pairwise_append] at hp
          have h1 := (List.pairwise_cons.mp hp.2.1).1 z (List.mem_cons_self ..)
          have h2 := h z (by rw [e]; simp)
          omega
      subst hw
      have hu : u.Pairwise (· < ·) := by rw [e, List.pairwise_append] at hp; exact hp.1
      have hlt : ∀ y ∈ u, y < ((n : Nat) : Int) + 1 := fun y hy => by
        rw [e, List.pairwise_append] at hp
        exact hp.2.2 y hy _ (by simp)
      have iu := ih u hu fun y hy => ⟨(h y (by rw [e]; simp [hy])).1, by have := hlt y hy; omega⟩
      have ef : ((List.range (n + 1)).filter fun k => decide ((((k : Nat) : Int) + 1) ∈ ys)) = ((List.range n).filter fun k => decide ((((k : Nat) : Int) + 1) ∈ u)) ++ [n] := by
        have e1 : ((List.range n).filter fun k => decide ((((k : Nat) : Int) + 1) ∈ ys)) = ((List.range n).filter fun k => decide ((((k : Nat) : Int) + 1) ∈ u)) := by
          refine List.filter_congr fun k hk => ?_
          have hk := List.mem_range.mp hk
          refine decide_eq_decide.mpr ?_
          rw [e, List.mem_append, List.mem_singleton]
          exact ⟨fun q => q.resolve_right (by omega), .inl⟩
        rw [List.range_succ, List.filter_append, List.filter_cons_of_pos (by rw [decide_eq_true hm]), List.filter_nil, e1]
      rw [ef, List.map_append, ← iu, e]
      rfl
    · have iu := ih ys hp fun y hy => ⟨(h y hy).1, by
        have h1 := (h y hy).2
        have h2 : ¬ y = ((n : Nat) : Int) + 1 := fun q => hm (q ▸ hy)
        omega⟩
      rw [List.range_succ, List.filter_append, List.filter_cons_of_neg (by rw [decide_eq_false hm]; exact Bool.false_ne_true), List.filter_nil, List.append_nil]
      exact iu
/-- sorted keys with their counts -/
theorem vector_made {m : Vc} (g : Good m) {ys : List Int} (hp : ys.Perm (m.map (·.1))) (hs : ys.Pairwise (· ≤ ·)) : ys.map (fun y => (y, cnt m y)) = made fun k => cnt m (((k : Nat) : Int) + 1) := by
  have nd : ys.Nodup := hp.nodup_iff.mpr g.nd
  have lt : ys.Pairwise (· < ·) := by
    have := List.Pairwise.and hs nd
    exact this.imp fun h => by omega
  have mem : ∀ y, y ∈ ys ↔ ∃ c ∈ m, c.1 = y := fun y => by rw [hp.mem_iff, List.mem_map]
  have rg : ∀ y ∈ ys, 1 ≤ y ∧ y ≤ ((9 : Nat) : Int) := fun y hy => by
    obtain ⟨c, hc, rfl⟩ := (mem y).mp hy
    have := g.rg c hc
    omega
  have e := rising 9 ys lt rg
  have ef : ((List.range 9).filter fun k => decide ((((k : Nat) : Int) + 1) ∈ ys)) = ((List.range 9).filter fun k => decide (0 < cnt m (((k : Nat) : Int) + 1))) :=
    List.filter_congr fun k _ => decide_eq_decide.mpr ((mem _).trans (cnt_pos g))
  rw [ef] at e
  rw [e, List.map_map]
  rfl
theorem paired_imp {α β : Type} {R S : α → β → Prop} (h : ∀ a b, R a b → S a b) : ∀ {xs : List α} {ys : List β}, Paired R xs ys → Paired S xs ys
  | _, _, .nil => .nil
  | _, _, .cons a b => .cons (h _ _ a) (paired_imp h b)
theorem paired_get {α β : Type} {R : α → β → Prop} : ∀ {xs : List α} {ys : List β}, Paired R xs ys → ∀ (i : Nat) (x : α), xs[i]? = some x → ∃ y, ys[i]? = some y ∧ R x y
  | _, _, .nil, i, x, h => by simp at h
  | _, _, .cons a b, 0, x, h => by cases (Option.some.inj h); exact ⟨_, rfl, a⟩
  | _, _, .cons a b, i + 1, x, h => by
    obtain ⟨y, h1, h2⟩ := paired_get b i x (by simpa using h)
    exact ⟨y, by simpa using h1, h2⟩
theorem paired_len {α β : Type} {R : α → β → Prop} : ∀ {xs : List α} {ys : List β}, Paired R xs ys → xs.length = ys.length
  | _, _, .nil => rfl
  | _, _, .cons a b => by rw [List.length_cons, List.length_cons, paired_len b]
theorem paired_snoc {α β : Type} {R : α → β → Prop} : ∀ {xs : List α} {ys : List β} {x : α} {y : β}, Paired R xs ys → R x y → Paired R (xs ++ [x]) (ys ++ [y])
  | _, _, _, _, .nil, h => .cons h .nil
  | _, _, _, _, .cons a b, h => .cons a (paired_snoc b h)
abbrev Prs (K : PySem.W.Frag) (H : Hp) (ps : List Addr) (v : Vc) : Prop := Paired (fun p (c : Int × Int) => SqT K H p [.int c.1, .int c.2]) ps v
def Vec (K : PySem.W.Frag) (H : Hp) (a : Addr) (v : Vc) : Prop := ∃ ps : List Addr, SqT K H a (ps.map V.ref) ∧ Prs K H ps v
def PVec (K : PySem.W.Frag) (H : Hp) (a : Addr) (v : Vc) : Prop := ∃ ps : List Addr, PlT H a (ps.map V.ref) ∧ Prs K H ps v
theorem prs_same {K : PySem.W.Frag} {H H' : Hp} {ps : List Addr} {v : Vc} (e : Same H H') (h : Prs K H ps v) : Prs K H' ps v := paired_imp (fun _ _ q => same_tup e q) h
theorem Vec.same {K : PySem.W.Frag} {H H' : Hp} {a : Addr} {v : Vc} (h : Vec K H a v) (e : Same H H') : Vec K H' a v := by
  obtain ⟨ps, h1, h2⟩ := h
  exact ⟨ps, same_tup e h1, prs_same e h2⟩
theorem PVec.same {K : PySem.W.Frag} {H H' : Hp} {a : Addr} {v : Vc} (h : PVec K H a v) (e : Same H H') : PVec K H' a v := by
  obtain ⟨ps, h1, h2⟩ := h
  exact ⟨ps, h1.same e, prs_same e h2⟩
theorem PVec.vec {K : PySem.W.Frag} {H : Hp} {a : Addr} {v : Vc} (h : PVec K H a v) : Vec K H a v := by
  obtain ⟨ps, h1, h2⟩ := h
  exact ⟨ps, h1.seq, h2⟩
theorem for_vec {K : PySem.W.Frag} {g : TG} {t : TS} {D : Ends} {σ : L2.St} {H H0 : Hp} {a : Addr} {v : Vc} {ps : List Addr} (hS : SqT K H0 a (ps.map V.ref)) (hP : Prs K H0 ps v) (Pv : Vc → L2.St → Hp → Prop) (h0 : Pv [] σ H) (hl : ∀ pre σ H, Pv pre σ H → Same H0 H)
    (hs : ∀ (pre : Vc) (c : Int × Int) (post : Vc) (T : Addr) σ H, v = pre ++ c :: post → Pv pre σ H → SqT K H T [.int c.1, .int c.2] → g (.ref T) σ H fun σ2 H2 => t { D with nx := Pv (pre ++ [c]), ct := Pv (pre ++ [c]), bk := D.nx } σ2 H2)
    (hd : ∀ σ H, Pv v σ H → D.nx σ H) : ForB (Itt K a) g t D σ H := by
  refine for_tup (xs := ps.map V.ref) (fun i => Pv (v.take i)) (by simpa using h0) (fun i σ H _ p => same_tup (hl _ σ H p) hS) (fun i x σ H hx p => ?_) (fun σ H p => ?_)
  · rw [List.getElem?_map] at hx
    obtain ⟨T, hT, rfl⟩ := Option.map_eq_some_iff.mp hx
    obtain ⟨c, hc, q⟩ := paired_get hP i T hT
    have e2 := (List.getElem?_eq_some_iff.mp hc).2
    have e1 : v = v.take i ++ c :: v.drop (i + 1) := by rw [← e2, List.getElem_cons_drop, List.take_append_drop]
    rw [List.take_add_one, hc]
    exact hs _ c _ T σ H e1 p (same_tup (hl _ σ H p) q)
  · rw [List.length_map, paired_len hP, List.take_length] at p
    exact hd σ H p
def lessV (v w : Vc) : Bool := w.any fun c => decide (cnt v c.1 < c.2)
def cmpS (a b : Bool) : Str := if a = true then (if b = true then "apart" else "less") else if b = true then "greater" else "equal"
theorem dput_len (m : Vc) (k c : Int) : (dput m k c).length ≤ m.length + 1 := by
  unfold dput
  split <;> simp
theorem fold_len (v : Vc) : ∀ m : Vc, (v.foldl (fun m c => dput m c.1 c.2) m).length ≤ m.length + v.length := by
  induction v with
  | nil => intro m; exact Nat.le_refl _
  | cons x r ih =>
    intro m
    have h1 := ih (dput m x.1 x.2)
    have h2 := dput_len m x.1 x.2
    show (r.foldl (fun m c => dput m c.1 c.2) (dput m x.1 x.2)).length ≤ _
    rw [List.length_cons]
    omega
theorem made_len (f : Nat → Int) : (made f).length ≤ 9 := by
  unfold made madeN
  rw [List.length_map]
  exact Nat.le_trans (List.length_filter_le ..) (by rw [List.length_range]; exact Nat.le_refl _)
theorem made_congr {f g : Nat → Int} (h : ∀ k, k < 9 → f k = g k) : made f = made g := by
  unfold made madeN
  have e : ((List.range 9).filter fun k => decide (0 < f k)) = ((List.range 9).filter fun k => decide (0 < g k)) :=
    List.filter_congr fun k hk => by rw [h k (List.mem_range.mp hk)]
  rw [e]
  refine List.map_congr_left fun k hk => ?_
  rw [h k (List.mem_range.mp (List.mem_filter.mp hk).1)]
def row9 (f : Nat → Int) : List Int := (List.range 9).map f
def sp_count_of (K : PySem.W.Frag) : Sp := sp2 fun x y H Q => ∃ (a : Addr) (v : Vc) (d : Int), x = .ref a ∧ y = .int d ∧ Vec K H a v ∧ Q (.int (cnt v d)) H
def sp_is_less_somewhere (K : PySem.W.Frag) : Sp := sp2 fun x y H Q => ∃ (a b : Addr) (v w : Vc), x = .ref a ∧ y = .ref b ∧ Vec K H a v ∧ Vec K H b w ∧ Q (.bl (lessV v w)) H
def sp_compare (K : PySem.W.Frag) : Sp := sp2 fun x y H Q => ∃ (a b : Addr) (v w : Vc), x = .ref a ∧ y = .ref b ∧ Vec K H a v ∧ Vec K H b w ∧ Q (.str (cmpS (lessV v w) (lessV w v))) H
def sp_vector (K : PySem.W.Frag) : Sp := sp1 fun x H Q => ∃ (D : Addr) (m : Vc), x = .ref D ∧ H D = some (.dK (kvl m)) ∧ Good m ∧ m.length ≤ 40 ∧ ∀ (r : Addr) (H' : Hp), Same H H' → PVec K H' r (made fun k => cnt m (((k : Nat) : Int) + 1)) → Q (.ref r) H'
def sp_join (K : PySem.W.Frag) : Sp := sp2 fun x y H Q => ∃ (a b : Addr) (f g : Nat → Int), x = .ref a ∧ y = .ref b ∧ (∀ k, 0 ≤ f k) ∧ (∀ k, 0 ≤ g k) ∧ PVec K H a (made f) ∧ Vec K H b (made g) ∧ ∀ (r : Addr) (H' : Hp), Same H H' → PVec K H' r (made fun k => mx (f k) (g k)) → Q (.ref r) H'
def sp_raised (K : PySem.W.Frag) : Sp := sp3 fun x y z H Q => ∃ (a : Addr) (f : Nat → Int) (j : Nat) (n : Int), x = .ref a ∧ y = .int (((j : Nat) : Int) + 1) ∧ z = .int n ∧ j < 9 ∧ 0 < n ∧ (∀ k, 0 ≤ f k) ∧ PVec K H a (made f) ∧ ∀ (r : Addr) (H' : Hp), Same H H' → PVec K H' r (made fun k => if k = j then n else f k) → Q (.ref r) H'
def sp_counts_of (K : PySem.W.Frag) : Sp := sp1 fun x H Q => ∃ (a : Addr) (f : Nat → Int), x = .ref a ∧ (∀ k, 0 ≤ f k) ∧ Vec K H a (made f) ∧ ∀ (r : Addr) (H' : Hp), Same H H' → SqT K H' r ((row9 f).map V.int) → Q (.ref r) H'
def sp_law_cell (K : PySem.W.Frag) : Sp := sp2 fun x y H Q => ∃ (a : Addr) (ns : List Int) (i : Nat), x = .ref a ∧ y = .int i ∧ SqL K H a (ns.map V.int) ∧ ns.length ≤ 1000 ∧ i ≤ 1000 ∧ ∀ n, Q (.int n) H
def sp_law_vector (K : PySem.W.Frag) : Sp := sp2 fun x y H Q => ∃ n : Int, x = .int n ∧ y = .int 3 ∧ ∀ (r : Addr) (f : Nat → Int) (H' : Hp), Same H H' → (∀ k, 0 ≤ f k ∧ f k ≤ 3) → PVec K H' r (made f) → Q (.ref r) H'
def sp_law_counts (K : PySem.W.Frag) : Sp := sp1 fun x H Q => ∃ (a : Addr) (f : Nat → Int), x = .ref a ∧ (∀ k, 0 ≤ f k) ∧ Vec K H a (made f) ∧ ∀ (r : Addr) (H' : Hp), H r = none → Same H H' → H' r = some (.lst ((row9 f).map V.int)) → Q (.ref r) H'
def sp_law_due (K : PySem.W.Frag) : Sp := sp2 fun x y H Q => ∃ (a b : Addr) (f g : Nat → Int), x = .ref a ∧ y = .ref b ∧ SqL K H a ((row9 f).map V.int) ∧ SqL K H b ((row9 g).map V.int) ∧ ∀ H', Same H H' → Q (.str (cmpS (lessF 9 f g) (lessF 9 g f))) H'
def sp_law_made (K : PySem.W.Frag) : Sp := sp1 fun x H Q => ∃ (a : Addr) (f : Nat → Int), x = .ref a ∧ SqL K H a ((row9 f).map V.int) ∧ ∀ (r : Addr) (H' : Hp), Same H H' → Vec K H' r (made f) → Q (.ref r) H'
def sp_law (K : PySem.W.Frag) : Sp := sp1 fun a H Q => ∃ (sa : Addr) (ns : List Int), a = .ref sa ∧ SqL K H sa (ns.map V.int) ∧ ns.length ≤ 63 ∧ ∀ H', Q (.bl true) H'
theorem e_tDGet {td ty : TE} {σ : L2.St} {H : Hp} {Q : VK} (q : td σ H fun x H1 => ty σ H1 fun y H2 => ∃ a v, x = .ref a ∧ DGet H2 a y (some v) ∧ Q v H2) : tDGet td ty σ H Q := q
theorem e_tDGet2 {td ty tx : TE} {σ : L2.St} {H : Hp} {Q : VK} (q : td σ H fun x H1 => ∃ a, x = .ref a ∧ IsD H1 a ∧ ty σ H1 fun y H2 => tx σ H2 fun z H3 => ∃ o, DGet H3 a y o ∧ Q (o.getD z) H3) : tDGet2 td ty tx σ H Q := q
theorem e_sDPut {td ty tv : TE} {σ : L2.St} {H : Hp} {D : Ends} (q : tv σ H fun v H1 => td σ H1 fun x H2 => ty σ H2 fun y H3 => ∃ a H4, x = .ref a ∧ DPut H3 a y v H4 ∧ D.nx σ H4) : sDPut td ty tv D σ H := q
theorem dg_some {H : Hp} {D : Addr} {m : Vc} {d : Int} {Q : V → Prop} (h : H D = some (.dK (kvl m))) (hc : ∃ c ∈ m, c.1 = d) (q : Q (.int (cnt m d))) : ∃ a v, V.ref D = .ref a ∧ DGet H a (.int d) (some v) ∧ Q v := by
  obtain ⟨c, h1, h2⟩ := hc
  refine ⟨D, _, rfl, ?_, q⟩
  rw [← (valV_kvl m d).2 c h1 h2]
  exact DGet.k (k := Sum.inl d) h
theorem dg_or {H : Hp} {D : Addr} {m : Vc} {d : Int} {Q : Option V → Prop} (h : H D = some (.dK (kvl m))) (q : ∀ o : Option V, o.getD (.int 0) = .int (cnt m d) → Q o) : ∃ o, DGet H D (.int d) o ∧ Q o :=
  ⟨_, DGet.k (k := Sum.inl d) h, q _ (valV_kvl m d).1⟩
theorem dp_put {H : Hp} {D : Addr} {m : Vc} {k c : Int} {Q : Hp → Prop} (h : H D = some (.dK (kvl m))) (hl : m.length ≤ 100) (q : Q (upd H D (.dK (kvl (dput m k c))))) : ∃ a H4, V.ref D = .ref a ∧ DPut H a (.int k) (.int c) H4 ∧ Q H4 :=
  ⟨D, _, rfl, .inl ⟨kvl m, Sum.inl k, h, rfl, Nat.lt_of_le_of_lt (by unfold kvl; rw [List.length_map]; exact hl) (by decide), rfl⟩, by rw [putK_kvl]; exact q⟩
theorem prs_kvl {K : PySem.W.Frag} {H : Hp} : ∀ {ps : List Addr} {v : Vc}, Prs K H ps v → Paired (fun p (kv : Key × V) => SqT K H p [kV kv.1, kv.2]) ps (kvl v)
  | _, _, .nil => .nil
  | _, _, .cons a b => .cons a (prs_kvl b)
theorem dict_made {f : Nat → Int} (hf : ∀ k, 0 ≤ f k) : ∃ m, mergeK [] (kvl (made f)) = kvl m ∧ Good m ∧ m.length ≤ 9 ∧ ∀ k : Nat, k < 9 → cnt m (((k : Nat) : Int) + 1) = f k :=
  ⟨_, merge_kvl (made f) [], fold_good (made f) made_rg [] ⟨by simp, fun c hc => by cases hc⟩, Nat.le_trans (fold_len (made f) []) (by rw [List.length_nil, Nat.zero_add]; exact made_len f), fun k hk => by rw [fold_cnt]; exact last_made hf hk⟩
abbrev Prx (H : Hp) (ps : List Addr) (v : Vc) : Prop := Paired (fun p (c : Int × Int) => H p = some (.tup [.int c.1, .int c.2])) ps v
theorem Prx.upd {H : Hp} {ps : List Addr} {v : Vc} {E : Addr} {l : List V} {o : HO} (h : Prx H ps v) (e : H E = some (.lst l)) : Prx (upd H E o) ps v :=
  paired_imp (fun p c q => by
    have n : p ≠ E := fun z => by
      rw [z, e] at q
      cases q
    rw [upd_ne n]; exact q) h
theorem Prx.same {H H' : Hp} {ps : List Addr} {v : Vc} (h : Prx H ps v) (e : Same H H') : Prx H' ps v := paired_imp (fun _ _ q => e _ _ q) h
theorem Prx.prs {K : PySem.W.Frag} {H : Hp} {ps : List Addr} {v : Vc} (h : Prx H ps v) : Prs K H ps v := paired_imp (fun _ _ q => SqT.of q) h
theorem row9_at (f : Nat → Int) {i : Nat} (h : i < 9) {j : Int} (hj : j = i) : atI ((row9 f).map V.int) j = some (.int (f i)) :=
  at_of (j := i) hj (by rw [List.getElem?_map, row9, List.getElem?_map, List.getElem?_range h]; rfl)
theorem row9_set (f : Nat → Int) {i : Nat} (h : i < 9) (n : Int) : (row9 f).set i n = row9 fun k => if k = i then n else f k := by
  refine List.ext_getElem? fun k => ?_
  rw [List.getElem?_set]
  unfold row9
  by_cases hk : k < 9
  · have r1 : ((List.range 9).map fun k => if k = i then n else f k)[k]? = some (if k = i then n else f k) := by rw [List.getElem?_map, List.getElem?_range hk]; rfl
    have r2 : ((List.range 9).map f)[k]? = some (f k) := by rw [List.getElem?_map, List.getElem?_range hk]; rfl
    rw [r1, r2]
    by_cases e : i = k
    · rw [if_pos e, if_pos (by simp; omega), if_pos e.symm]
    · rw [if_neg e, if_neg fun q => e q.symm]
  · rw [List.getElem?_eq_none (l := (List.range 9).map fun k => if k = i then n else f k) (by simp; omega)]
    by_cases e : i = k
    · omega
    · rw [if_neg e, List.getElem?_eq_none (by simp; omega)]
theorem row9_inj {f g : Nat → Int} (h : ∀ k, k < 9 → f k = g k) : row9 f = row9 g := List.map_congr_left fun k hk => h k (List.mem_range.mp hk)
theorem row9_len (f : Nat → Int) : ((row9 f).map V.int).length = 9 := by unfold row9; simp
theorem p2 (n : Int) {i : Nat} (h : i < 9) : CDivW n (1 * 2 ^ (1 + (i : Int)).toNat) := by
  have e : (1 + (i : Int)).toNat = i + 1 := by omega
  rw [e]
  have : i = 0 ∨ i = 1 ∨ i = 2 ∨ i = 3 ∨ i = 4 ∨ i = 5 ∨ i = 6 ∨ i = 7 ∨ i = 8 := by omega
  rcases this with h | h | h | h | h | h | h | h | h <;> rw [h] <;> exact ⟨by decide, by decide⟩
theorem lc_filt {K : PySem.W.Frag} {g : TG} {tt : TT} {te : TE} {vs : List Nat} {σ : L2.St} {Da : Addr} {H0 : Hp} {Q : VK} {lo : Int} {n : Nat} (hD : H0 Da = none) (hn : n ≤ 1000000) (p : Nat → Bool) (f : Nat → V)
    (hs : ∀ (i : Nat) (H2 : Hp) (C : VK) (E : Hp → Prop), i < n → Same H0 H2 → (p i = true → ∀ H3, Same H2 H3 → C (f i) H3) → (p i = false → ∀ H3, Same H2 H3 → E H3) →
      g (.int (lo + (i : Nat))) (wipe σ vs) H2 fun σ2 H2 => wipe σ2 vs = wipe σ vs ∧ tt σ2 H2 fun b H3 => if b = true then te σ2 H3 C else E H3)
    (hd : ∀ (H : Hp), Same H0 H → H Da = some (.lst (((List.range n).filter p).map f)) → Q (.ref Da) H) : LcB (Itr lo n) g tt te vs σ Da H0 Q := by
  refine lc_rng (fun i H2 => Same H0 H2 ∧ H2 Da = some (.lst (((List.range i).filter p).map f))) ⟨same_new hD, upd_same⟩ (fun i H2 hi q => ?_) (fun H2 q => hd H2 q.1 q.2)
  obtain ⟨s4, e4⟩ := q
  refine hs i H2 _ _ hi s4 (fun hp H3 s5 => ?_) (fun hp H3 s5 => ?_)
  · refine ⟨_, s5 _ _ e4, Nat.lt_of_le_of_lt (Nat.le_trans (by rw [List.length_map]; exact List.length_filter_le ..) (by rw [List.length_range]; omega : _ ≤ 1000000)) (by decide), Same.mut (s4.trans s5) hD, ?_⟩
    rw [upd_same, List.range_succ, List.filter_append, List.filter_cons_of_pos hp, List.map_append]
    rfl
  · refine ⟨s4.trans s5, ?_⟩
    rw [s5 _ _ e4, List.range_succ, List.filter_append, List.filter_cons_of_neg (by rw [hp]; exact Bool.false_ne_true), List.filter_nil, List.append_nil]
theorem nil_less (f g : Nat → Int) (h : Nat → Int) : decide ((((List.range 9).filter fun k => decide (f k < g k)).map h) = []) = !lessF 9 f g := by
  unfold lessF
  cases e : (List.range 9).any fun k => decide (f k < g k) with
  | true =>
    obtain ⟨k, hk, q⟩ := List.any_eq_true.mp e
    refine decide_eq_false fun z => ?_
    have : (List.range 9).filter (fun k => decide (f k < g k)) = [] := List.map_eq_nil_iff.mp z
    have m : k ∈ (List.range 9).filter (fun k => decide (f k < g k)) := List.mem_filter.mpr ⟨hk, q⟩
    rw [this] at m
    cases m
  | false =>
    refine decide_eq_true ?_
    rw [List.filter_eq_nil_iff.mpr fun k hk => by
      have := List.any_eq_false.mp e k hk
      exact this]
    rfl
/-! vectors as data -/
abbrev Dv (v : Vc) : List PyData := v.map fun c => .tuple [.int c.1, .int c.2]
theorem dv_all {K : PySem.W.Frag} {H : Hp} : ∀ {ps : List Addr} {v : Vc}, Prs K H ps v → DpAll K H (ps.map V.ref) (Dv v)
  | _, _, .nil => .nil
  | _, _, .cons (b := c) a b => .cons (.tup (xs := [.int c.1, .int c.2]) a (.cons (.int _) (.cons (.int _) .nil))) (dv_all b)
theorem dv_eqv : ∀ v w : Vc, PyData.eqvAll (Dv v) (Dv w) = decide (v = w)
  | [], [] => by
    simp [PyData.eqvAll]
  | [], _ :: _ => by
    simp [PyData.eqvAll]
  | _ :: _, [] => by
    simp [PyData.eqvAll]
  | c :: v, d :: w => by
    have ih := dv_eqv v w
    show (PyData.eqvAll (Di [c.1, c.2]) (Di [d.1, d.2]) && PyData.eqvAll (Dv v) (Dv w)) = _
    rw [ih, eqvAll_ints]
    obtain ⟨c1, c2⟩ := c
    obtain ⟨d1, d2⟩ := d
    by_cases h1 : c1 = d1 <;> by_cases h2 : c2 = d2 <;> by_cases h3 : v = w <;> simp [h1, h2, h3]
theorem dv_can : ∀ v : Vc, PyData.canLayAll0 (Dv v) = true
  | [] => rfl
  | c :: v => by
    show (PyData.canLayAll0 (Di [c.1, c.2]) && PyData.canLayAll0 (Dv v)) = true
    rw [dv_can v, canAll_ints]; rfl
theorem dv_depth : ∀ v : Vc, PyData.depthAll (Dv v) ≤ 1
  | [] => by
    show 0 ≤ 1
    omega
  | c :: v => by
    have ih := dv_depth v
    show max (PyData.depthAll (Di [c.1, c.2]) + 1) (PyData.depthAll (Dv v)) ≤ 1
    rw [Vf.depthAll_ints]
    omega
theorem e_neVV {K : PySem.W.Frag} {H : Hp} {Q : VK} {a b : Addr} {v w : Vc} (h1 : Vec K H a v) (h2 : Vec K H b w) (q : Q (.bl (!decide (v = w))) H) : rNeD K (.ref a) (.ref b) H Q := by
  obtain ⟨ps, s1, p1⟩ := h1
  obtain ⟨qs, s2, p2⟩ := h2
  refine ⟨_, _, .tup s1 (dv_all p1), .tup s2 (dv_all p2), shaped_tuple (dv_can v) (Nat.le_trans (dv_depth v) (by decide)), shaped_tuple (dv_can w) (Nat.le_trans (dv_depth w) (by decide)), ?_⟩
  rw [show PyData.eqv (.tuple (Dv v)) (.tuple (Dv w)) = PyData.eqvAll (Dv v) (Dv w) from rfl, dv_eqv]
  exact q
theorem e_tFld {K : PySem.W.Frag} {ta : TE} {f : Str} {σ : L2.St} {H : Hp} {Q : VK} (q : ta σ H fun x H1 => ∃ a C dx fs v, x = .ref a ∧ H1 a = some (.ins C dx fs) ∧ Cls K C ∧ NoAttr K C f ∧ fs.lookup f = some v ∧ Q v H1) : tFld K ta f σ H Q := q
theorem e_sFld {K : PySem.W.Frag} {ta tv : TE} {f : Str} {D : Ends} {σ : L2.St} {H : Hp} (q : tv σ H fun y H1 => ta σ H1 fun x H2 => ∃ a C dx fs, x = .ref a ∧ H2 a = some (.ins C dx fs) ∧ Cls K C ∧ NoAttr K C f ∧ fs.length < 1000 ∧ D.nx σ (upd H2 a (.ins C dx (putF f y fs)))) : sFld K ta tv f D σ H := q
theorem e_maxF {K : PySem.W.Frag} {sp : Sp} {ta : TA} {σ : L2.St} {H : Hp} {Q : VK} (q : ta σ H fun vs H1 => rMaxF K sp vs H1 Q) : tMaxF K sp ta σ H Q := q
theorem e_js {t : TE} {ts : List TE} {acc : Str} {σ : L2.St} {H : Hp} {Q : Str → Hp → Prop} (q : t σ H fun x H1 => ∃ y : Str, x = .str y ∧ (acc ++ y).length ≤ sizeLine ∧ tJs ts (acc ++ y) σ H1 Q) : tJs (t :: ts) acc σ H Q := q
theorem e_js0 {acc : Str} {σ : L2.St} {H : Hp} {Q : Str → Hp → Prop} (q : Q acc H) : tJs [] acc σ H Q := q
theorem e_fmt {te : TE} {σ : L2.St} {H : Hp} {Q : VK} (q : te σ H fun x H1 => (∃ y : Str, x = .str y ∧ y.length ≤ sizeLine ∧ Q (.str y) H1) ∨ ∃ i : Int, x = .int i ∧ i.natAbs.log2 < 1920 ∧ Q (.str (toString i)) H1) : tFmt te σ H Q := q
mutual
theorem dp_same {K : PySem.W.Frag} {H H' : Hp} (e : Same H H') : ∀ {v : V} {d : PyData}, Dp K H v d → Dp K H' v d
  | _, _, .non => .non
  | _, _, .bl b => .bl b
  | _, _, .int i => .int i
  | _, _, .str x => .str x
  | _, _, .lst h a => .lst (e.seq h) (dpa_same e a)
  | _, _, .tup h a => .tup (same_tup e h) (dpa_same e a)
theorem dpa_same {K : PySem.W.Frag} {H H' : Hp} (e : Same H H') : ∀ {v : List V} {d : List PyData}, DpAll K H v d → DpAll K H' v d
  | _, _, .nil => .nil
  | _, _, .cons a b => .cons (dp_same e a) (dpa_same e b)
end
/-! entries -/
abbrev cEnt (K : PySem.W.Frag) : Addr := He.ga K "Entry"
structure ET (K : PySem.W.Frag) : Prop where
  cl : Cls K (cEnt K)
  n1 : NoAttr K (cEnt K) "name"
  n2 : NoAttr K (cEnt K) "vector"
  n3 : NoAttr K (cEnt K) "height"
  n4 : NoAttr K (cEnt K) "maker"
  n5 : NoAttr K (cEnt K) "deleted"
  n6 : NoAttr K (cEnt K) "time"
  n7 : NoAttr K (cEnt K) "blocks"
structure En where
  nm : Str
  f : Nat → Int
  ht : Int
  mr : Int × Int
  dl : Bool
  tm : Int
  bl : List Int
def fs7 (n v h m d t b : V) : List (Str × V) := putF "blocks" b (putF "time" t (putF "deleted" d (putF "maker" m (putF "height" h (putF "vector" v (putF "name" n []))))))
def VecB (p : Bool) (K : PySem.W.Frag) (H : Hp) (v : Addr) (w : Vc) : Prop := Vec K H v w ∧ (p = true → PVec K H v w)
theorem VecB.same {p : Bool} {K : PySem.W.Frag} {H H' : Hp} {v : Addr} {w : Vc} (h : VecB p K H v w) (e : Same H H') : VecB p K H' v w := ⟨h.1.same e, fun z => (h.2 z).same e⟩
theorem VecB.of {p : Bool} {K : PySem.W.Frag} {H : Hp} {v : Addr} {w : Vc} (h : PVec K H v w) : VecB p K H v w := ⟨h.vec, fun _ => h⟩
def Ent (K : PySem.W.Frag) (H : Hp) (p : Bool) (a : Addr) (e : En) : Prop := ∃ (dx v m b : Addr) (fs : List (Str × V)), H a = some (.ins (cEnt K) dx fs) ∧
  (fs.lookup ("name" : Str) = some (.str e.nm) ∧ fs.lookup ("vector" : Str) = some (.ref v) ∧ fs.lookup ("height" : Str) = some (.int e.ht) ∧ fs.lookup ("maker" : Str) = some (.ref m) ∧ fs.lookup ("deleted" : Str) = some (.bl e.dl) ∧ fs.lookup ("time" : Str) = some (.int e.tm) ∧ fs.lookup ("blocks" : Str) = some (.ref b)) ∧
  VecB p K H v (made e.f) ∧ SqT K H m [.int e.mr.1, .int e.mr.2] ∧ SqT K H b (e.bl.map V.int)
theorem Ent.same {K : PySem.W.Frag} {H H' : Hp} {p : Bool} {a : Addr} {e : En} (h : Ent K H p a e) (s : Same H H') : Ent K H' p a e := by
  obtain ⟨dx, v, m, b, fs, h1, h2, h3, h4, h5⟩ := h
  exact ⟨dx, v, m, b, fs, s _ _ h1, h2, h3.same s, same_tup s h4, same_tup s h5⟩
theorem Ent.weak {K : PySem.W.Frag} {H : Hp} {p : Bool} {a : Addr} {e : En} (h : Ent K H p a e) : Ent K H false a e := by
  obtain ⟨dx, v, m, b, fs, h1, h2, h3, h4, h5⟩ := h
  exact ⟨dx, v, m, b, fs, h1, h2, ⟨h3.1, fun z => nomatch z⟩, h4, h5⟩
theorem sq_updE {K : PySem.W.Frag} {H : Hp} {p E : Addr} {xs l : List V} {o : HO} (h : SqT K H p xs) (e : H E = some (.lst l)) : SqT K (upd H E o) p xs := by
  rcases h with (h | ⟨c9, h⟩) | h
  · exact .inl (.inl (by rw [upd_ne (fun z => by rw [z, e] at h; cases h)]; exact h))
  · exact .inl (.inr ⟨c9, by rw [upd_ne (fun z => by rw [z, e] at h; cases h)]; exact h⟩)
  · exact .inr h
theorem pl_updE {H : Hp} {p E : Addr} {xs l : List V} {o : HO} (h : PlT H p xs) (e : H E = some (.lst l)) : PlT (upd H E o) p xs := by
  obtain ⟨c9, hd, h⟩ := h
  exact ⟨c9, hd, by rw [upd_ne (fun z => by rw [z, e] at h; cases h)]; exact h⟩
theorem prs_updE {K : PySem.W.Frag} {H : Hp} {E : Addr} {l : List V} {o : HO} {ps : List Addr} {v : Vc} (h : Prs K H ps v) (e : H E = some (.lst l)) : Prs K (upd H E o) ps v := paired_imp (fun _ _ q => sq_updE q e) h
theorem Ent.updE {K : PySem.W.Frag} {H : Hp} {p : Bool} {a E : Addr} {e : En} {l : List V} {o : HO} (h : Ent K H p a e) (he : H E = some (.lst l)) : Ent K (upd H E o) p a e := by
  obtain ⟨dx, v, m, b, fs, h1, h2, ⟨⟨ps, q1, q2⟩, h3⟩, h4, h5⟩ := h
  refine ⟨dx, v, m, b, fs, by rw [upd_ne (fun z => by rw [z, he] at h1; cases h1)]; exact h1, h2, ⟨⟨ps, sq_updE q1 he, prs_updE q2 he⟩, fun z => ?_⟩, sq_updE h4 he, sq_updE h5 he⟩
  obtain ⟨qs, r1, r2⟩ := h3 z
  exact ⟨qs, pl_updE r1 he, prs_updE r2 he⟩
section
variable {K : PySem.W.Frag} {H : Hp} {p : Bool} {a : Addr} {e : En} {P : V → Prop}
theorem f_name (t : ET K) (h : Ent K H p a e) (q : P (.str e.nm)) : ∃ a' C dx fs v, V.ref a = .ref a' ∧ H a' = some (.ins C dx fs) ∧ Cls K C ∧ NoAttr K C "name" ∧ fs.lookup ("name" : Str) = some v ∧ P v := by
  obtain ⟨dx, v, m, b, fs, h1, h2, h3, h4, h5⟩ := h
  exact ⟨a, _, dx, fs, _, rfl, h1, t.cl, t.n1, h2.1, q⟩
theorem f_vector (t : ET K) (h : Ent K H p a e) (q : ∀ v, VecB p K H v (made e.f) → P (.ref v)) : ∃ a' C dx fs v, V.ref a = .ref a' ∧ H a' = some (.ins C dx fs) ∧ Cls K C ∧ NoAttr K C "vector" ∧ fs.lookup ("vector" : Str) = some v ∧ P v := by
  obtain ⟨dx, v, m, b, fs, h1, h2, h3, h4, h5⟩ := h
  exact ⟨a, _, dx, fs, _, rfl, h1, t.cl, t.n2, h2.2.1, q v h3⟩
theorem f_height (t : ET K) (h : Ent K H p a e) (q : P (.int e.ht)) : ∃ a' C dx fs v, V.ref a = .ref a' ∧ H a' = some (.ins C dx fs) ∧ Cls K C ∧ NoAttr K C "height" ∧ fs.lookup ("height" : Str) = some v ∧ P v := by
  obtain ⟨dx, v, m, b, fs, h1, h2, h3, h4, h5⟩ := h
  exact ⟨a, _, dx, fs, _, rfl, h1, t.cl, t.n3, h2.2.2.1, q⟩
theorem f_maker (t : ET K) (h : Ent K H p a e) (q : ∀ m, SqT K H m [.int e.mr.1, .int e.mr.2] → P (.ref m)) : ∃ a' C dx fs v, V.ref a = .ref a' ∧ H a' = some (.ins C dx fs) ∧ Cls K C ∧ NoAttr K C "maker" ∧ fs.lookup ("maker" : Str) = some v ∧ P v := by
  obtain ⟨dx, v, m, b, fs, h1, h2, h3, h4, h5⟩ := h
  exact ⟨a, _, dx, fs, _, rfl, h1, t.cl, t.n4, h2.2.2.2.1, q m h4⟩
theorem f_deleted (t : ET K) (h : Ent K H p a e) (q : P (.bl e.dl)) : ∃ a' C dx fs v, V.ref a = .ref a' ∧ H a' = some (.ins C dx fs) ∧ Cls K C ∧ NoAttr K C "deleted" ∧ fs.lookup ("deleted" : Str) = some v ∧ P v := by
  obtain ⟨dx, v, m, b, fs, h1, h2, h3, h4, h5⟩ := h
  exact ⟨a, _, dx, fs, _, rfl, h1, t.cl, t.n5, h2.2.2.2.2.1, q⟩
theorem f_time (t : ET K) (h : Ent K H p a e) (q : P (.int e.tm)) : ∃ a' C dx fs v, V.ref a = .ref a' ∧ H a' = some (.ins C dx fs) ∧ Cls K C ∧ NoAttr K C "time" ∧ fs.lookup ("time" : Str) = some v ∧ P v := by
  obtain ⟨dx, v, m, b, fs, h1, h2, h3, h4, h5⟩ := h
  exact ⟨a, _, dx, fs, _, rfl, h1, t.cl, t.n6, h2.2.2.2.2.2.1, q⟩
theorem f_blocks (t : ET K) (h : Ent K H p a e) (q : ∀ b, SqT K H b (e.bl.map V.int) → P (.ref b)) : ∃ a' C dx fs v, V.ref a = .ref a' ∧ H a' = some (.ins C dx fs) ∧ Cls K C ∧ NoAttr K C "blocks" ∧ fs.lookup ("blocks" : Str) = some v ∧ P v := by
  obtain ⟨dx, v, m, b, fs, h1, h2, h3, h4, h5⟩ := h
  exact ⟨a, _, dx, fs, _, rfl, h1, t.cl, t.n7, h2.2.2.2.2.2.2, q b h5⟩
end
theorem fs7_ok (n v h m d t b : V) : (fs7 n v h m d t b).lookup ("name" : Str) = some n ∧ (fs7 n v h m d t b).lookup ("vector" : Str) = some v ∧ (fs7 n v h m d t b).lookup ("height" : Str) = some h ∧ (fs7 n v h m d t b).lookup ("maker" : Str) = some m ∧
    (fs7 n v h m d t b).lookup ("deleted" : Str) = some d ∧ (fs7 n v h m d t b).lookup ("time" : Str) = some t ∧ (fs7 n v h m d t b).lookup ("blocks" : Str) = some b := by
  unfold fs7
  refine ⟨?_, ?_, ?_, ?_, ?_, ?_, ?_⟩ <;> (repeat (rw [lookup_putF]; first | rw [if_pos rfl] | rw [if_neg (by decide)]))
/-- a new entry -/
theorem ent_made {K : PySem.W.Frag} {H : Hp} {p : Bool} {a v m b dx : Addr} (e : En) (h : H a = some (.ins (cEnt K) dx (fs7 (.str e.nm) (.ref v) (.int e.ht) (.ref m) (.bl e.dl) (.int e.tm) (.ref b)))) (hv : VecB p K H v (made e.f)) (hm : SqT K H m [.int e.mr.1, .int e.mr.2]) (hb : SqT K H b (e.bl.map V.int)) : Ent K H p a e :=
  ⟨dx, v, m, b, _, h, fs7_ok .., hv, hm, hb⟩
def sp_Entry___init__ (K : PySem.W.Frag) : Sp := fun vs H Q _ => ∃ x n v h m d t b, vs = [x, n, v, h, m, d, t, b] ∧ ∃ a dx, x = .ref a ∧ H a = some (.ins (cEnt K) dx []) ∧ Q .non (upd H a (.ins (cEnt K) dx (fs7 n v h m d t b)))
theorem e_mkE {K : PySem.W.Frag} {H1 : Hp} {P : Addr → Hp → Prop} {n v h m d t b : V} (q : ∀ a H' dx, H1 a = none → Same H1 H' → H' a = some (.ins (cEnt K) dx (fs7 n v h m d t b)) → P a H') :
    ∀ x dx, H1 x = none → H1 dx = none → dx ≠ x → sp_Entry___init__ K (.ref x :: ([n, v, h, m, d, t, b] ++ [])) (upd (upd H1 dx (.own x)) x (.ins (cEnt K) dx [])) (fun u H2 => u = .non ∧ P x H2) E0 := by
  intro x dx hx hdx ne
  refine ⟨_, _, _, _, _, _, _, _, rfl, x, dx, rfl, upd_same, rfl, ?_⟩
  rw [upd_upd]
  exact q x _ dx hx (Same.mut (same_new hdx) hx) upd_same
def enEq (e g : En) : Bool := decide (e.nm = g.nm) && (decide (made e.f = made g.f) && (decide (e.ht = g.ht) && (decide (e.mr = g.mr) && ((e.dl == g.dl) && (decide (e.tm = g.tm) && decide (e.bl = g.bl))))))
def sp_Entry___eq__ (K : PySem.W.Frag) : Sp := sp2 fun x y H Q => ∃ (a : Addr) (p : Bool) (e : En), x = .ref a ∧ Ent K H p a e ∧
  ((∃ (b : Addr) (p2 : Bool) (g : En), y = .ref b ∧ Ent K H p2 b g ∧ Q (.bl (enEq e g)) H) ∨ (∃ (t : Addr) (ys : List V), y = .ref t ∧ H t = some (.lst ys) ∧ Q (.bl false) H))
/-- two entries compared -/
theorem e_eqEE {K : PySem.W.Frag} {H : Hp} {Q : VK} {a b : Addr} {p p2 : Bool} {e g : En} (h1 : Ent K H p a e) (h2 : Ent K H p2 b g) (q : Q (.bl (enEq e g)) H) : rEqOL K (cEnt K) (sp_Entry___eq__ K) E0 (.ref a) (.ref b) H Q := by
  obtain ⟨dx, v, m, bb, fs, k1, _⟩ := id h1
  obtain ⟨dy, v2, m2, bb2, gs, k2, _⟩ := id h2
  exact ⟨a, b, dx, fs, rfl, rfl, k1, .inl ⟨dy, gs, k2⟩, _, _, rfl, a, p, e, rfl, h1, .inl ⟨b, p2, g, rfl, h2, _, rfl, q⟩⟩
theorem enEq_self (e : En) : enEq e e = true := by
  unfold enEq
  simp
/-! keys -/
def KeyT (K : PySem.W.Frag) (H : Hp) (r : Addr) (e : En) : Prop := ∃ c, SqT K H r [.int e.ht, .int e.tm, .int (if e.dl = true then 0 else 1), .int (-e.mr.1), .int (-e.mr.2), .ref c] ∧ SqT K H c ((row9 e.f).map V.int)
def kdE (e : En) : PyData := .tuple [.int e.ht, .int e.tm, .int (if e.dl = true then 0 else 1), .int (-e.mr.1), .int (-e.mr.2), .tuple (Di (row9 e.f))]
theorem key_dp {K : PySem.W.Frag} {H : Hp} {r : Addr} {e : En} (h : KeyT K H r e) : Dp K H (.ref r) (kdE e) := by
  obtain ⟨c, h1, h2⟩ := h
  exact .tup h1 (.cons (.int _) (.cons (.int _) (.cons (.int _) (.cons (.int _) (.cons (.int _) (.cons (dp_ti h2) .nil))))))
theorem KeyT.same {K : PySem.W.Frag} {H H' : Hp} {r : Addr} {e : En} (h : KeyT K H r e) (s : Same H H') : KeyT K H' r e := by
  obtain ⟨c, h1, h2⟩ := h
  exact ⟨c, same_tup s h1, same_tup s h2⟩
theorem kdE_plain (e : En) : (kdE e).plain = true := by simp [kdE, PyData.plain, PyData.plainAll, plain_ints]
theorem kdE_depth (e : En) : (kdE e).depth ≤ 60 := by
  show PyData.depthAll [.int e.ht, .int e.tm, .int (if e.dl = true then 0 else 1), .int (-e.mr.1), .int (-e.mr.2), .tuple (Di (row9 e.f))] + 1 ≤ 60
  simp [PyData.depthAll, PyData.depth, Vf.depthAll_ints]
theorem kdE_self (e : En) : PyData.eqv (kdE e) (kdE e) = true := by simp [kdE, PyData.eqv, PyData.eqvAll, eqvAll_ints]
theorem kdE_alike (e g : En) : PySem.W.alike (kdE e) (kdE g) = true := by simp [kdE, PySem.W.alike, PySem.W.alikeAll, alikeAll_ints]
def spKey (K : PySem.W.Frag) : Sp := sp1 fun x H Q => ∃ (a : Addr) (p : Bool) (e : En), x = .ref a ∧ Ent K H p a e ∧ (∀ k, 0 ≤ e.f k) ∧ ∀ (r : Addr) (H' : Hp), Same H H' → KeyT K H' r e → Q (.ref r) H'
abbrev sp_key_of := spKey
abbrev sp_law_key := spKey
def alk (e g : En) : Bool := (e.dl == g.dl) && decide (e.bl = g.bl)
def sp_alike (K : PySem.W.Frag) : Sp := sp2 fun x y H Q => ∃ (a b : Addr) (p p2 : Bool) (e g : En), x = .ref a ∧ y = .ref b ∧ Ent K H p a e ∧ Ent K H p2 b g ∧ Q (.bl (alk e g)) H
abbrev Ents (K : PySem.W.Frag) (H : Hp) (p : Bool) (ps : List Addr) (es : List En) : Prop := Paired (fun a e => Ent K H p a e) ps es
theorem ents_same {K : PySem.W.Frag} {H H' : Hp} {p : Bool} {ps : List Addr} {es : List En} (s : Same H H') (h : Ents K H p ps es) : Ents K H' p ps es := paired_imp (fun _ _ q => q.same s) h
def dE : En := ⟨"", fun _ => 0, 0, (0, 0), false, 0, []⟩
def kdL (es : List En) (i : Nat) : PyData := kdE (es.getD i dE)
def enB (es : List En) : En := es.getD (mxI (kdL es) es.length) dE
def wf (es : List En) (b : En) (f : Nat → Int) : Nat → Int := es.foldl (fun f e => if alk e b = true then fun k => mx (f k) (e.f k) else f) f
def winE (es : List En) : En := { enB es with f := wf es (enB es) (enB es).f }
def spWin (K : PySem.W.Frag) : Sp := sp1 fun x H Q => ∃ (a : Addr) (ps : List Addr) (es : List En), x = .ref a ∧ SqL K H a (ps.map V.ref) ∧ Ents K H true ps es ∧ (∀ e ∈ es, ∀ k, 0 ≤ e.f k) ∧ 0 < es.length ∧ es.length ≤ 100 ∧
  ∀ (r : Addr) (H' : Hp), Same H H' → Ent K H' true r (winE es) → Q (.ref r) H'
abbrev sp_winner := spWin
abbrev sp_law_winner := spWin
/-! the mathematics of winners -/
theorem fold_up (k : Nat) : ∀ (l : List En) (x y : Int), (∃ e ∈ l, x ≤ e.f k) → y ≤ x → l.foldl (fun x e => mx x (e.f k)) x = l.foldl (fun x e => mx x (e.f k)) y
  | [], x, y, h, _ => by obtain ⟨e, he, _⟩ := h; cases he
  | e :: r, x, y, h, hy => by
    show r.foldl _ (mx x (e.f k)) = r.foldl _ (mx y (e.f k))
    by_cases hx : x ≤ e.f k
    · have e1 : mx x (e.f k) = e.f k := by unfold mx; split <;> omega
      have e2 : mx y (e.f k) = e.f k := by unfold mx; split <;> omega
      rw [e1, e2]
    · have e1 : mx x (e.f k) = x := by unfold mx; split <;> omega
      have e2 : mx y (e.f k) ≤ x := by unfold mx; split <;> omega
      rw [e1]
      refine fold_up k r x _ ?_ e2
      obtain ⟨g, hg, h⟩ := h
      rcases List.mem_cons.mp hg with rfl | hg
      · exact absurd h hx
      · exact ⟨g, hg, h⟩
theorem wf_at (b : En) (k : Nat) : ∀ (es : List En) (f : Nat → Int), wf es b f k = (es.filter fun e => alk e b).foldl (fun x e => mx x (e.f k)) (f k)
  | [], f => rfl
  | e :: r, f => by
    show wf r b (if alk e b = true then fun k => mx (f k) (e.f k) else f) k = _
    rw [wf_at b k r]
    by_cases h : alk e b = true
    · rw [if_pos h, List.filter_cons_of_pos (p := fun e => alk e b) h]; rfl
    · rw [if_neg h, List.filter_cons_of_neg (p := fun e => alk e b) h]
theorem alk_self (e : En) : alk e e = true := by unfold alk; simp
theorem wf_zero {es : List En} {b : En} (hb : b ∈ es) (hn : ∀ k, 0 ≤ b.f k) : wf es b b.f = wf es b fun _ => 0 := by
  funext k
  rw [wf_at, wf_at]
  exact fold_up k _ _ _ ⟨b, List.mem_filter.mpr ⟨hb, alk_self b⟩, Int.le_refl _⟩ (hn k)
theorem wf_nn {es : List En} {b : En} (he : ∀ e ∈ es, ∀ k, 0 ≤ e.f k) : ∀ {f : Nat → Int}, (∀ k, 0 ≤ f k) → ∀ k, 0 ≤ wf es b f k := by
  induction es with
  | nil => intro f hf; exact hf
  | cons e r ih =>
    intro f hf
    show ∀ k, 0 ≤ wf r b (if alk e b = true then fun k => mx (f k) (e.f k) else f) k
    refine ih (fun e he2 => he e (List.mem_cons_of_mem _ he2)) fun k => ?_
    have h1 := hf k
    have h2 := he e (List.mem_cons_self ..) k
    split
    · show 0 ≤ mx (f k) (e.f k)
      unfold mx
      split <;> omega
    · exact h1
theorem made_zero : made (fun _ => 0) = [] := by
  unfold made madeN
  rw [List.filter_eq_nil_iff.mpr fun k _ => by simp]
  rfl
theorem made_one {j : Nat} (hj : j < 9) {n : Int} (hn : 0 < n) : made (fun k => if k = j then n else 0) = [(((j : Nat) : Int) + 1, n)] := by
  have h : j = 0 ∨ j = 1 ∨ j = 2 ∨ j = 3 ∨ j = 4 ∨ j = 5 ∨ j = 6 ∨ j = 7 ∨ j = 8 := by omega
  unfold made madeN
  rcases h with h | h | h | h | h | h | h | h | h <;> subst h <;> simp [List.range, List.range.loop, hn]
theorem for_ents {K : PySem.W.Frag} {g : TG} {t : TS} {D : Ends} {σ : L2.St} {H H0 : Hp} {a : Addr} {ps : List Addr} {es : List En} {p : Bool} (hS : SqL K H0 a (ps.map V.ref)) (hP : Ents K H0 p ps es) (Pv : List En → L2.St → Hp → Prop) (h0 : Pv [] σ H) (hl : ∀ pre σ H, Pv pre σ H → Same H0 H)
    (hs : ∀ (pre : List En) (e : En) (post : List En) (q : Addr) σ H, es = pre ++ e :: post → Pv pre σ H → ps[pre.length]? = some q → Ent K H p q e → g (.ref q) σ H fun σ2 H2 => t { D with nx := Pv (pre ++ [e]), ct := Pv (pre ++ [e]), bk := D.nx } σ2 H2)
    (hd : ∀ σ H, Pv es σ H → D.nx σ H) : ForB (Itl K a) g t D σ H := by
  refine for_list (xs := ps.map V.ref) (fun i => Pv (es.take i)) (by simpa using h0) (fun i σ H _ q => (hl _ σ H q).seq hS) (fun i x σ H hx q => ?_) (fun σ H q => ?_)
  · rw [List.getElem?_map] at hx
    obtain ⟨r, hr, rfl⟩ := Option.map_eq_some_iff.mp hx
    obtain ⟨e, he, hE⟩ := paired_get hP i r hr
    have hi := (List.getElem?_eq_some_iff.mp he).1
    have e2 := (List.getElem?_eq_some_iff.mp he).2
    have e1 : es = es.take i ++ e :: es.drop (i + 1) := by rw [← e2, List.getElem_cons_drop, List.take_append_drop]
    have el : (es.take i).length = i := by rw [List.length_take]; omega
    rw [List.take_add_one, he]
    exact hs _ e _ r σ H e1 q (by rw [el]; exact hr) (hE.same (hl _ σ H q))
  · rw [List.length_map, paired_len hP, List.take_length] at q
    exact hd σ H q
theorem len_put {f : Str} {v : V} : ∀ {fs : List (Str × V)} {n : Nat}, fs.length ≤ n → (putF f v fs).length ≤ n + 1
  | [], n, h => by show 1 ≤ n + 1; omega
  | (g, x) :: r, n, h => by
    show (if g = f then (g, v) :: r else (g, x) :: putF f v r).length ≤ n + 1
    rw [List.length_cons] at h
    by_cases e : g = f
    · rw [if_pos e, List.length_cons]; omega
    · rw [if_neg e, List.length_cons]
      have := len_put (f := f) (v := v) (fs := r) (n := n - 1) (by omega)
      omega
theorem lt_put {fs : List (Str × V)} (h : fs.length ≤ 8) : fs.length < 1000 := Nat.lt_of_le_of_lt h (by decide)
theorem e_tDIn {td ty : TE} {σ : L2.St} {H : Hp} {Q : VK} (q : ty σ H fun y H1 => td σ H1 fun x H2 => ∃ a o, x = .ref a ∧ DGet H2 a y o ∧ Q (.bl o.isSome) H2) : tDIn ty td σ H Q := q
theorem e_tDNotIn {td ty : TE} {σ : L2.St} {H : Hp} {Q : VK} (q : ty σ H fun y H1 => td σ H1 fun x H2 => ∃ a o, x = .ref a ∧ DGet H2 a y o ∧ Q (.bl (!o.isSome)) H2) : tDNotIn ty td σ H Q := q
theorem e_tDSetd {td ty tx : TE} {σ : L2.St} {H : Hp} {Q : VK} (q : td σ H fun x H1 => ∃ a, x = .ref a ∧ IsD H1 a ∧ ty σ H1 fun y H2 => tx σ H2 fun z H3 => ∃ (kvs : List (Key × V)) (k : Key), H3 a = some (.dK kvs) ∧ y = kV k ∧ kvs.length < sizeLine ∧
  (∀ v, valV kvs k = some v → Q v H3) ∧ (valV kvs k = none → Q z (upd H3 a (.dK (putK kvs k z))))) : tDSetd td ty tx σ H Q := q
theorem e_lockE {t : TE} {σ : L2.St} {H : Hp} {Q : VK} (q : ∃ d u, H d = some u ∧ Mut (some u) ∧ ∀ od, t σ (upd H d (.frz od u)) fun v H' => H' d = some (.frz od u) ∧ Q v (upd H' d u)) : tLockE t σ H Q := q
theorem e_iItems {td : TE} {σ : L2.St} {H : Hp} {R : It → Hp → Prop} (q : td σ H fun x H1 => ∃ d o kvs, x = .ref d ∧ H1 d = some (.frz o (.dK kvs)) ∧ R (Iti d o kvs) H1) : iItems td σ H R := q
theorem e_sFldAug {K : PySem.W.Frag} {ta tv : TE} {rd : V → V → Hp → VK → Prop} {f : Str} {D : Ends} {σ : L2.St} {H : Hp} (q : ta σ H fun x H1 => ∃ a C dx fs v, x = .ref a ∧ H1 a = some (.ins C dx fs) ∧ Cls K C ∧ NoAttr K C f ∧ fs.lookup f = some v ∧
  tv σ H1 fun y H2 => rd v y H2 fun z H3 => ∃ dx' fs', H3 a = some (.ins C dx' fs') ∧ fs'.length < 1000 ∧ D.nx σ (upd H3 a (.ins C dx' (putF f z fs')))) : sFldAug K ta tv rd f D σ H := q
theorem e_tMeth {C : Addr} {m : Str} {sp : Sp} {dvs : List V} {E : XK} {ta : TE} {t : TA} {σ : L2.St} {H : Hp} {Q : VK} (q : ta σ H fun x H1 => ∃ a dx fs, x = .ref a ∧ H1 a = some (.ins C dx fs) ∧ fs.lookup m = none ∧ t σ H1 fun vs H2 => sp (x :: (vs ++ dvs)) H2 Q E) : tMeth C m sp dvs E ta t σ H Q := q
theorem i_some {v : V} {P R : Prop} (q : P) : if (Option.some v).isSome = true then P else R := q
theorem i_none {P R : Prop} (q : R) : if (Option.none (α := V)).isSome = true then P else R := q
theorem i_nsome {v : V} {P R : Prop} (q : R) : if (!(Option.some v).isSome) = true then P else R := q
theorem i_nnone {P R : Prop} (q : P) : if (!(Option.none (α := V)).isSome) = true then P else R := q
theorem e_dnewK {σ : L2.St} {H : Hp} {Q : VK} (q : ∀ p, H p = none → Q (.ref p) (upd H p (.dK []))) : tDNewK σ H Q := q
theorem e_tWhile {tc : TT} {tb : TS} {D : Ends} {σ : L2.St} {H : Hp} (q : ∃ W : Nat → L2.St → Hp → Prop, (∃ m, W m σ H) ∧ ∀ m σ H, W m σ H → tc σ H fun b H1 => if b = true then ∃ N : L2.St → Hp → Prop, (∀ σ' H', N σ' H' → ∃ m', m' < m ∧ W m' σ' H') ∧ tb { D with nx := N, ct := N, bk := D.nx } σ H1 else D.nx σ H1) : tWhile tc tb D σ H := q
/-! ### what stands but at some places -/
def Fr (S : List Addr) (H H' : Hp) : Prop := ∀ x o, x ∉ S → H x = some o → H' x = some o
theorem Fr.of {S : List Addr} {H H' : Hp} (h : Same H H') : Fr S H H' := fun x o _ e => h x o e
theorem Fr.refl (S : List Addr) (H : Hp) : Fr S H H := fun _ _ _ e => e
theorem Fr.trans {S : List Addr} {H H1 H2 : Hp} (h : Fr S H H1) (g : Fr S H1 H2) : Fr S H H2 := fun x o n e => g x o n (h x o n e)
theorem Fr.same {S : List Addr} {H H1 H2 : Hp} (h : Fr S H H1) (g : Same H1 H2) : Fr S H H2 := fun x o n e => g x o (h x o n e)
theorem Fr.put {S : List Addr} {H H1 : Hp} {a : Addr} {o : HO} (h : Fr S H H1) (m : a ∈ S) : Fr S H (upd H1 a o) := fun x o' n e => by
  rw [upd_ne fun z => n (by rw [z]; exact m)]
  exact h x o' n e
theorem Fr.mono {S S' : List Addr} {H H1 : Hp} (h : Fr S H H1) (m : ∀ x ∈ S, x ∈ S') : Fr S' H H1 := fun x o n e => h x o (fun z => n (m x z)) e
theorem Fr.mut {S : List Addr} {H H1 : Hp} {a : Addr} {o : HO} (h : Fr S H H1) (m : H a = none) : Fr S H (upd H1 a o) := fun x o' n e => by
  rw [upd_ne (ne_of_none e m)]
  exact h x o' n e
theorem Fr.put2 {S : List Addr} {H H1 : Hp} {a : Addr} {o : HO} (h : Fr S H H1) (m : a ∈ S ∨ H a = none) : Fr S H (upd H1 a o) := m.elim (fun m => h.put m) fun m => h.mut m
/-! ### the heap without some places -/
def hid (D : List Addr) (H : Hp) : Hp := fun b => if b ∈ D then none else H b
theorem hid_at {D : List Addr} {H : Hp} {b : Addr} (n : b ∉ D) : hid D H b = H b := by unfold hid; rw [if_neg n]
theorem hid_in {D : List Addr} {H : Hp} {b : Addr} (m : b ∈ D) : hid D H b = none := by unfold hid; rw [if_pos m]
theorem hid_some {D : List Addr} {H : Hp} {b : Addr} {o : HO} (h : hid D H b = some o) : b ∉ D ∧ H b = some o := by
  by_cases m : b ∈ D
  · rw [hid_in m] at h; cases h
  · rw [hid_at m] at h; exact ⟨m, h⟩
theorem hid_upd {D : List Addr} {H : Hp} {p : Addr} {o : HO} (n : p ∉ D) : hid D (upd H p o) = upd (hid D H) p o := by
  funext b
  by_cases e : b = p
  · rw [e, hid_at n, upd_same, upd_same]
  · rw [upd_ne e]
    by_cases m : b ∈ D
    · rw [hid_in m, hid_in m]
    · rw [hid_at m, hid_at m, upd_ne e]
theorem hid_upd_in {D : List Addr} {H : Hp} {p : Addr} {o : HO} (m : p ∈ D) : hid D (upd H p o) = hid D H := by
  funext b
  by_cases m2 : b ∈ D
  · rw [hid_in m2, hid_in m2]
  · rw [hid_at m2, hid_at m2, upd_ne fun e => m2 (by rw [e]; exact m)]
theorem hid_fr {D : List Addr} {H H' : Hp} (f : Fr D H H') : Same (hid D H) (hid D H') := fun b o h => by
  obtain ⟨n, e⟩ := hid_some h
  rw [hid_at n]
  exact f b o n e
theorem hid_same {D : List Addr} {H H' : Hp} (s : Same H H') : Same (hid D H) (hid D H') := hid_fr (Fr.of s)
theorem hid_sub {D : List Addr} {H : Hp} : Same (hid D H) H := fun b o h => (hid_some h).2
theorem hid_nil {H : Hp} : hid [] H = H := by funext b; exact hid_at (by simp)
theorem hid_none {D : List Addr} {H : Hp} {b : Addr} (h : H b = none) : hid D H b = none := by
  by_cases m : b ∈ D
  · exact hid_in m
  · rw [hid_at m]; exact h
theorem hid_new {H : Hp} {D p : Addr} {o o' : HO} (hD : H D = some o') (hp : H p = none) : hid [D] (upd H p o) = upd (hid [D] H) p o := hid_upd (by
  intro m
  rw [List.mem_singleton.mp m, hD] at hp
  cases hp)
/-- a list made by a comprehension whose elements stand in a relation to their places -/
theorem lc_rel {J : It} {n : Nat} {G : Hp → Prop} {Y : Nat → Hp → V → Hp → Prop} (w : Walk J n G Y) {g : TG} {te : TE} {vs : List Nat} {σ : L2.St} {Da : Addr} {H0 : Hp} {Q : VK} (hD : H0 Da = none) (hn : n ≤ 1000000)
    (hG : ∀ H, Same H0 H → G H) (R : Nat → V → Hp → Prop) (mono : ∀ i v H H', R i v H → Same H H' → R i v H')
    (hs : ∀ (i : Nat) (x : V) (H H' : Hp) (C : VK) (E : Hp → Prop) (acc : HO), i < n → Same H0 H → H Da = some acc → Y i H x H' → (∀ v H3, Same H H3 → R i v (hid [Da] H3) → C v H3) →
      g x (wipe σ vs) H' fun σ2 H2 => wipe σ2 vs = wipe σ vs ∧ tYes σ2 H2 fun b H3 => if b = true then te σ2 H3 C else E H3)
    (hd : ∀ (H : Hp) (us : List V), Same H0 H → H Da = some (.lst us) → us.length = n → (∀ i v, us[i]? = some v → R i v (hid [Da] H)) → Q (.ref Da) H) : LcB J g tYes te vs σ Da H0 Q := by
  refine lc_it w (fun i H => Same H0 H ∧ ∃ us, H Da = some (.lst us) ∧ us.length = i ∧ ∀ j v, us[j]? = some v → R j v (hid [Da] H)) ⟨same_new hD, [], upd_same, rfl, fun j v h => by simp at h⟩ (fun i H _ p => hG H p.1) (fun i x H H' hi p y => ?_) (fun H p => ?_)
  · obtain ⟨s1, us, e1, l1, r1⟩ := p
    refine hs i x H H' _ _ _ hi s1 e1 y fun v H3 s3 r3 => ?_
    refine ⟨us, s3 _ _ e1, Nat.lt_of_le_of_lt (by omega : _ ≤ 1000000) (by decide), Same.mut (s1.trans s3) hD, us ++ [v], upd_same, by simp [l1], fun j u hj => ?_⟩
    rw [hid_upd_in (List.mem_singleton.mpr rfl)]
    by_cases hl : j < us.length
    · rw [List.getElem?_append_left hl] at hj
      exact mono _ _ _ _ (r1 j u hj) (hid_same s3)
    · rw [List.getElem?_append_right (by omega)] at hj
      have hj2 := (List.getElem?_eq_some_iff.mp hj).1
      have z : j = i := by simp at hj2; omega
      subst z
      rw [l1, Nat.sub_self] at hj
      cases hj
      exact r3
  · obtain ⟨s1, us, e1, l1, r1⟩ := p
    exact hd H us s1 e1 l1 r1
theorem prd_mk {α β : Type} {F : α → β → Prop} : ∀ {l : List α} {m : List β}, l.length = m.length → (∀ (i : Nat) (a : α) (b : β), l[i]? = some a → m[i]? = some b → F a b) → Paired F l m
  | [], [], _, _ => .nil
  | a :: l, b :: m, e, h => .cons (h 0 a b rfl rfl) (prd_mk (by simpa using e) fun i x y h1 h2 => h (i + 1) x y h1 h2)
theorem prd_app {α β : Type} {F : α → β → Prop} : ∀ {l1 : List α} {m1 : List β} {l2 : List α} {m2 : List β}, Paired F l1 m1 → Paired F l2 m2 → Paired F (l1 ++ l2) (m1 ++ m2)
  | _, _, _, _, .nil, h => h
  | _, _, _, _, .cons a t, h => .cons a (prd_app t h)
theorem prd_take {α β : Type} {F : α → β → Prop} : ∀ {l : List α} {m : List β} (n : Nat), Paired F l m → Paired F (l.take n) (m.take n)
  | _, _, 0, _ => .nil
  | _, _, _ + 1, .nil => .nil
  | _, _, n + 1, .cons a t => .cons a (prd_take n t)
theorem prd_drop {α β : Type} {F : α → β → Prop} : ∀ {l : List α} {m : List β} (n : Nat), Paired F l m → Paired F (l.drop n) (m.drop n)
  | _, _, 0, h => h
  | _, _, _ + 1, .nil => .nil
  | _, _, n + 1, .cons _ t => prd_drop n t
/-- all are places -/
theorem all_refs : ∀ (us : List V), (∀ u ∈ us, ∃ q, u = .ref q) → ∃ qs : List Addr, us = qs.map V.ref
  | [], _ => ⟨[], rfl⟩
  | u :: us, h => by
    obtain ⟨q, e⟩ := h u (List.mem_cons_self ..)
    obtain ⟨qs, e2⟩ := all_refs us fun x m => h x (List.mem_cons_of_mem _ m)
    exact ⟨q :: qs, by rw [e, e2]; rfl⟩
/-- not a tuple -/
def NT (H : Hp) (d : Addr) : Prop := (∀ xs, H d ≠ some (.tup xs)) ∧ ∀ c xs, H d ≠ some (.frz c (.tup xs))
theorem sqT_hid {K : PySem.W.Frag} {D : List Addr} {H : Hp} {p : Addr} {xs : List V} (h : SqT K H p xs) (n : ∀ d ∈ D, NT H d) : SqT K (hid D H) p xs := by
  rcases h with (h | ⟨c9, h⟩) | h
  · exact .inl (.inl (by rw [hid_at fun m => (n p m).1 _ h]; exact h))
  · exact .inl (.inr ⟨c9, by rw [hid_at fun m => (n p m).2 _ _ h]; exact h⟩)
  · exact .inr h
theorem vec_hid {K : PySem.W.Frag} {D : List Addr} {H : Hp} {a : Addr} {v : Vc} (h : Vec K H a v) (n : ∀ d ∈ D, NT H d) : Vec K (hid D H) a v := by
  obtain ⟨ps, h1, h2⟩ := h
  exact ⟨ps, sqT_hid h1 n, paired_imp (fun _ _ q => sqT_hid q n) h2⟩
theorem nt_lst {H : Hp} {d : Addr} {xs : List V} (h : H d = some (.lst xs)) : NT H d := ⟨fun _ z => (by rw [h] at z; cases z), fun _ _ z => (by rw [h] at z; cases z)⟩
theorem nt_dK {H : Hp} {d : Addr} {xs : List (Key × V)} (h : H d = some (.dK xs)) : NT H d := ⟨fun _ z => (by rw [h] at z; cases z), fun _ _ z => (by rw [h] at z; cases z)⟩
theorem nt_ins {H : Hp} {d C dx : Addr} {fs : List (Str × V)} (h : H d = some (.ins C dx fs)) : NT H d := ⟨fun _ z => (by rw [h] at z; cases z), fun _ _ z => (by rw [h] at z; cases z)⟩
/-- the law's own lists -/
def Al (D : List Addr) (H : Hp) : Prop := ∀ d ∈ D, ∃ xs, H d = some (.lst xs)
theorem Al.nt {D : List Addr} {H : Hp} (h : Al D H) : ∀ d ∈ D, NT H d := fun d m => let ⟨_, e⟩ := h d m; nt_lst e
theorem Al.same {D : List Addr} {H H' : Hp} (h : Al D H) (s : Same H H') : Al D H' := fun d m => let ⟨xs, e⟩ := h d m; ⟨xs, s _ _ e⟩
theorem Al.free {D : List Addr} {H : Hp} {p : Addr} (h : Al D H) (e : H p = none) : p ∉ D := fun m => by
  obtain ⟨xs, z⟩ := h p m
  rw [e] at z; cases z
/-! ### stores -/
abbrev cSto (K : PySem.W.Frag) : Addr := He.ga K "Store"
structure S0 where
  fl : List (Str × (List Int × Int))
  tp : List (Str × List Int)
  at_ : List (Str × (Vc × List Int))
  n : Int
def dct (w : List (Str × Addr)) : List (Key × V) := w.map fun x => (Sum.inr x.1, V.ref x.2)
def FilA (H : Hp) (q : Addr) (r : List Int × Int) : Prop := ∃ l, H q = some (.tup [.ref l, .int r.2]) ∧ H l = some (.lst (r.1.map V.int))
def AttA (K : PySem.W.Frag) (H : Hp) (q : Addr) (r : Str × (Vc × List Int)) : Prop := ∃ v l, H q = some (.tup [.str r.1, .ref v, .ref l]) ∧ Vec K H v r.2.1 ∧ H l = some (.lst (r.2.2.map V.int))
abbrev Fls (H : Hp) (w : List (Str × Addr)) (fl : List (Str × (List Int × Int))) : Prop := Paired (fun x r => x.1 = r.1 ∧ FilA H x.2 r.2) w fl
abbrev Tps (H : Hp) (w : List (Str × Addr)) (tp : List (Str × List Int)) : Prop := Paired (fun x r => x.1 = r.1 ∧ H x.2 = some (.lst (r.2.map V.int))) w tp
abbrev Ats (K : PySem.W.Frag) (H : Hp) (q : List Addr) (l : List (Str × (Vc × List Int))) : Prop := Paired (AttA K H) q l
/-- the store's own things that change: itself, its dicts, its list, the temporary files -/
abbrev foot (a fd td ad : Addr) (tw : List (Str × Addr)) : List Addr := a :: fd :: td :: ad :: tw.map (·.2)
structure StoX (K : PySem.W.Frag) (H : Hp) (a : Addr) (S : S0) (dx fd td ad ld nd : Addr) (fs : List (Str × V)) (fw tw : List (Str × Addr)) (aq : List Addr) : Prop where
  ins : H a = some (.ins (cSto K) dx fs)
  len : fs.length ≤ 8
  l1 : fs.lookup ("_files" : Str) = some (.ref fd)
  l2 : fs.lookup ("_temps" : Str) = some (.ref td)
  l3 : fs.lookup ("_attic" : Str) = some (.ref ad)
  l4 : fs.lookup ("_log" : Str) = some (.ref ld)
  l5 : fs.lookup ("_new_log" : Str) = some (.ref nd)
  l6 : fs.lookup ("_budget" : Str) = some .non
  l7 : fs.lookup ("_done" : Str) = some (.int S.n)
  l0 : ∀ m : Str, m ∉ (["_files", "_temps", "_attic", "_log", "_new_log", "_budget", "_done"] : List Str) → fs.lookup m = none
  f1 : H fd = some (.dK (dct fw))
  t1 : H td = some (.dK (dct tw))
  a1 : H ad = some (.lst (aq.map V.ref))
  f2 : Fls (hid (foot a fd td ad tw) H) fw S.fl
  t2 : Tps H tw S.tp
  a2 : Ats K (hid (foot a fd td ad tw) H) aq S.at_
  g1 : (hid (foot a fd td ad tw) H) ld = some (.lst [])
  g2 : (hid (foot a fd td ad tw) H) nd = some (.lst [])
  nd : (foot a fd td ad tw).Nodup
  fn : (S.fl.map (·.1)).Nodup
  tn : (S.tp.map (·.1)).Nodup
def Sto (K : PySem.W.Frag) (H : Hp) (F : List Addr) (a : Addr) (S : S0) : Prop := ∃ dx fd td ad ld nd fs fw tw aq, F = foot a fd td ad tw ∧ StoX K H a S dx fd td ad ld nd fs fw tw aq
theorem FilA.same {H H' : Hp} {q : Addr} {r : List Int × Int} (h : FilA H q r) (s : Same H H') : FilA H' q r := let ⟨l, h1, h2⟩ := h; ⟨l, s _ _ h1, s _ _ h2⟩
theorem AttA.same {K : PySem.W.Frag} {H H' : Hp} {q : Addr} {r : Str × (Vc × List Int)} (h : AttA K H q r) (s : Same H H') : AttA K H' q r := let ⟨v, l, h1, h2, h3⟩ := h; ⟨v, l, s _ _ h1, h2.same s, s _ _ h3⟩
theorem fls_same {H H' : Hp} {w : List (Str × Addr)} {fl : List (Str × (List Int × Int))} (h : Fls H w fl) (s : Same H H') : Fls H' w fl := paired_imp (fun _ _ q => ⟨q.1, q.2.same s⟩) h
theorem tps_same {H H' : Hp} {w : List (Str × Addr)} {fl : List (Str × List Int)} (h : Tps H w fl) (s : Same H H') : Tps H' w fl := paired_imp (fun _ _ q => ⟨q.1, s _ _ q.2⟩) h
theorem ats_same {K : PySem.W.Frag} {H H' : Hp} {w : List Addr} {fl : List (Str × (Vc × List Int))} (h : Ats K H w fl) (s : Same H H') : Ats K H' w fl := paired_imp (fun _ _ q => AttA.same q s) h
theorem Sto.same {K : PySem.W.Frag} {H H' : Hp} {F : List Addr} {a : Addr} {S : S0} (h : Sto K H F a S) (s : Same H H') : Sto K H' F a S := by
  obtain ⟨dx, fd, td, ad, ld, nd, fs, fw, tw, aq, rfl, x⟩ := h
  exact ⟨dx, fd, td, ad, ld, nd, fs, fw, tw, aq, rfl, s _ _ x.ins, x.len, x.l1, x.l2, x.l3, x.l4, x.l5, x.l6, x.l7, x.l0, s _ _ x.f1, s _ _ x.t1, s _ _ x.a1, fls_same x.f2 (hid_same s), tps_same x.t2 s, ats_same x.a2 (hid_same s), hid_same s _ _ x.g1, hid_same s _ _ x.g2, x.nd, x.fn, x.tn⟩
theorem tps_mem {H : Hp} : ∀ {w : List (Str × Addr)} {tp : List (Str × List Int)}, Tps H w tp → ∀ b ∈ w.map (·.2), ∃ xs, H b = some (.lst xs)
  | _, _, .nil, b, m => by cases m
  | _, _, .cons h t, b, m => by
    rcases List.mem_cons.mp m with e | m
    · exact ⟨_, by rw [e]; exact h.2⟩
    · exact tps_mem t b m
theorem StoX.has {K : PySem.W.Frag} {H : Hp} {a dx fd td ad ld nd : Addr} {S : S0} {fs : List (Str × V)} {fw tw : List (Str × Addr)} {aq : List Addr} (x : StoX K H a S dx fd td ad ld nd fs fw tw aq) : ∀ b ∈ foot a fd td ad tw, (∃ o, H b = some o) ∧ NT H b := fun b m => by
  rcases List.mem_cons.mp m with e | m
  · rw [e]; exact ⟨⟨_, x.ins⟩, nt_ins x.ins⟩
  rcases List.mem_cons.mp m with e | m
  · rw [e]; exact ⟨⟨_, x.f1⟩, nt_dK x.f1⟩
  rcases List.mem_cons.mp m with e | m
  · rw [e]; exact ⟨⟨_, x.t1⟩, nt_dK x.t1⟩
  rcases List.mem_cons.mp m with e | m
  · rw [e]; exact ⟨⟨_, x.a1⟩, nt_lst x.a1⟩
  obtain ⟨xs, h⟩ := tps_mem x.t2 b m
  exact ⟨⟨_, h⟩, nt_lst h⟩
theorem Sto.has {K : PySem.W.Frag} {H : Hp} {F : List Addr} {a : Addr} {S : S0} (h : Sto K H F a S) : ∀ b ∈ F, (∃ o, H b = some o) ∧ NT H b := by
  obtain ⟨dx, fd, td, ad, ld, nd, fs, fw, tw, aq, rfl, x⟩ := h
  exact x.has
theorem Sto.notin {K : PySem.W.Frag} {H : Hp} {D F : List Addr} {a : Addr} {S : S0} (h : Sto K (hid D H) F a S) {d : Addr} (m : d ∈ D) : d ∉ F := fun z => by
  obtain ⟨⟨o, e⟩, _⟩ := h.has d z
  rw [hid_in m] at e; cases e
theorem Al.fr {K : PySem.W.Frag} {D F : List Addr} {H H' : Hp} {a : Addr} {S : S0} (h : Al D H) (t : Sto K (hid D H) F a S) (f : Fr F H H') : Al D H' := fun d m => let ⟨xs, e⟩ := h d m; ⟨xs, f d _ (t.notin m) e⟩
/-! looking up -/
def lk {β : Type} (nm : Str) : List (Str × β) → Option β
  | [] => none
  | r :: l => if r.1 = nm then some r.2 else lk nm l
theorem val_dct {β : Type} {R : Addr → β → Prop} (nm : Str) : ∀ {w : List (Str × Addr)} {fl : List (Str × β)}, Paired (fun x r => x.1 = r.1 ∧ R x.2 r.2) w fl →
    (valV (dct w) (Sum.inr nm) = none ∧ lk nm fl = none) ∨ ∃ q r, valV (dct w) (Sum.inr nm) = some (.ref q) ∧ lk nm fl = some r ∧ R q r ∧ (nm, q) ∈ w
  | _, _, .nil => .inl ⟨rfl, rfl⟩
  | x :: ws, r :: rs, .cons h t => by
    have e : valV (dct (x :: ws)) (Sum.inr nm) = if x.1 = nm then some (.ref x.2) else valV (dct ws) (Sum.inr nm) := by
      unfold valV dct
      rw [List.map_cons, List.find?_cons]
      by_cases z : x.1 = nm
      · rw [if_pos z, decide_eq_true (congrArg Sum.inr z)]; rfl
      · rw [if_neg z, decide_eq_false fun q => z (Sum.inr.inj q)]
    by_cases z : x.1 = nm
    · refine .inr ⟨x.2, r.2, by rw [e, if_pos z], ?_, h.2, ?_⟩
      · show (if r.1 = nm then some r.2 else lk nm rs) = _
        rw [if_pos (h.1.symm.trans z)]
      · rw [← z]; exact List.mem_cons_self ..
    · have z2 : ¬ r.1 = nm := fun q => z (h.1.trans q)
      have e2 : lk nm (r :: rs) = lk nm rs := by
        show (if r.1 = nm then some r.2 else lk nm rs) = _
        rw [if_neg z2]
      rcases val_dct nm t with ⟨h1, h2⟩ | ⟨q, s, h1, h2, h3, h4⟩
      · exact .inl ⟨by rw [e, if_neg z]; exact h1, by rw [e2]; exact h2⟩
      · exact .inr ⟨q, s, by rw [e, if_neg z]; exact h1, by rw [e2]; exact h2, h3, List.mem_cons_of_mem _ h4⟩
theorem dct_keys {β : Type} {R : Addr → β → Prop} : ∀ {w : List (Str × Addr)} {fl : List (Str × β)}, Paired (fun x r => x.1 = r.1 ∧ R x.2 r.2) w fl → (dct w).map (·.1) = (fl.map (·.1)).map Sum.inr
  | _, _, .nil => rfl
  | _, _, .cons h t => by
    show Sum.inr _ :: (dct _).map (·.1) = Sum.inr _ :: _
    rw [dct_keys t, h.1]
theorem lk_mem {β : Type} {nm : Str} : ∀ {l : List (Str × β)}, nm ∈ l.map (·.1) → ∃ r, lk nm l = some r ∧ (nm, r) ∈ l
  | [], h => by cases h
  | x :: l, h => by
    by_cases z : x.1 = nm
    · exact ⟨x.2, by show (if x.1 = nm then some x.2 else lk nm l) = _; rw [if_pos z], by rw [← z]; exact List.mem_cons_self ..⟩
    · rcases List.mem_cons.mp h with e | h
      · exact absurd e.symm z
      · obtain ⟨r, h1, h2⟩ := lk_mem h
        exact ⟨r, by show (if x.1 = nm then some x.2 else lk nm l) = _; rw [if_neg z]; exact h1, List.mem_cons_of_mem _ h2⟩
/-! the order of names -/
theorem rise_pw : ∀ (l : List Str) (p : Str), PyProof.Rows.risingS p l = true → (p :: l).Pairwise fun a b : Str => a.cps.toList ≤ b.cps.toList
  | [], p, _ => by simp
  | x :: r, p, h => by
    have h' : (!Spec.ltCps x.cps.toList p.cps.toList && PyProof.Rows.risingS x r) = true := h
    rw [Bool.and_eq_true] at h'
    have ih := rise_pw r x h'.2
    have px : p.cps.toList ≤ x.cps.toList := by
      have z := h'.1
      rw [PyProof.Rows.ltCps_eq] at z
      intro q
      rw [decide_eq_true q] at z
      cases z
    refine List.pairwise_cons.mpr ⟨fun y hy => ?_, ih⟩
    rcases List.mem_cons.mp hy with rfl | hy
    · exact px
    · exact List.le_trans px ((List.pairwise_cons.mp ih).1 y hy)
theorem sorted_one {l m : List Str} (hp : l.Perm m) (h1 : PyProof.Rows.sortedS l = true) (h2 : PyProof.Rows.sortedS m = true) : l = m := by
  have pw : ∀ l : List Str, PyProof.Rows.sortedS l = true → l.Pairwise fun a b : Str => a.cps.toList ≤ b.cps.toList := fun l h => by
    cases l with
    | nil => exact .nil
    | cons p r => exact rise_pw r p h
  exact hp.eq_of_pairwise (fun a b _ _ h3 h4 => TL.ext_tl (List.le_antisymm h3 h4)) (pw l h1) (pw m h2)
theorem Sto.new {K : PySem.W.Frag} {H : Hp} {D F : List Addr} {a d : Addr} {S : S0} (h : Sto K (hid D H) F a S) (e : H d = none) : d ∉ F := fun m => by
  obtain ⟨⟨o, z⟩, _⟩ := h.has d m
  rw [hid_none e] at z; cases z
theorem Sto.sub {K : PySem.W.Frag} {H : Hp} {D F : List Addr} {a : Addr} {S : S0} (h : Sto K (hid D H) F a S) : Sto K H F a S := h.same hid_sub
/-- one byte more -/
def ap1 (nm : Str) (tp : List (Str × List Int)) (b : Int) : List (Str × List Int) := match lk nm tp with
  | none => tp ++ [(nm, [b])]
  | some _ => tp.map fun r => if r.1 = nm then (r.1, r.2 ++ [b]) else r
def S0.app (S : S0) (nm : Str) (bs : List Int) : S0 := { S with tp := bs.foldl (ap1 nm) S.tp, n := S.n + bs.length }
mutual
theorem eqv_self : ∀ d : PyData, d.plain = true → PyData.eqv d d = true
  | .none, _ => by simp [PyData.eqv]
  | .bool b, _ => by simp [PyData.eqv]
  | .int i, _ => by simp [PyData.eqv]
  | .str x, _ => by simp [PyData.eqv]
  | .list ds, h => by
    show PyData.eqvAll ds ds = true
    exact eqvAll_self ds h
  | .tuple ds, h => by
    show PyData.eqvAll ds ds = true
    exact eqvAll_self ds h
  | .dict ds, h => by cases h
theorem eqvAll_self : ∀ ds : List PyData, PyData.plainAll ds = true → PyData.eqvAll ds ds = true
  | [], _ => by simp [PyData.eqvAll]
  | d :: ds, h => by
    rw [PyData.plainAll, Bool.and_eq_true] at h
    rw [PyData.eqvAll, eqv_self d h.1, eqvAll_self ds h.2]
    rfl
end
theorem plain_map {α : Type} (f : α → PyData) (h : ∀ x, (f x).plain = true) : ∀ l : List α, PyData.plainAll (l.map f) = true
  | [] => by simp [PyData.plainAll]
  | x :: l => by rw [List.map_cons, PyData.plainAll, h x, plain_map f h l]; rfl
theorem depth_map {α : Type} (f : α → PyData) {n : Nat} (h : ∀ x, (f x).depth ≤ n) : ∀ l : List α, PyData.depthAll (l.map f) ≤ n
  | [] => by simp [PyData.depthAll]
  | x :: l => by
    rw [List.map_cons, PyData.depthAll]
    have h1 := h x
    have h2 := depth_map f h l
    omega
def durF (S : S0) (y : Str) : PyData := .tuple [.str y, .tuple (Di ((lk y S.fl).getD ([], 0)).1), .int ((lk y S.fl).getD ([], 0)).2]
def durT (S : S0) (y : Str) : PyData := .tuple [.str y, .tuple (Di ((lk y S.tp).getD []))]
def durA (r : Str × (Vc × List Int)) : PyData := .tuple [.str r.1, .tuple (Dv r.2.1), .tuple (Di r.2.2)]
def durD (S : S0) (ys zs : List Str) : PyData := .tuple [.tuple (ys.map (durF S)), .tuple (zs.map (durT S)), .tuple (S.at_.map durA), .tuple [], .tuple []]
theorem dv_plain : ∀ v : Vc, PyData.plainAll (Dv v) = true
  | [] => by simp [PyData.plainAll]
  | c :: v => by
    show PyData.plainAll (.tuple (Di [c.1, c.2]) :: Dv v) = true
    rw [PyData.plainAll, dv_plain v, PyData.plain, plain_ints]
    rfl
theorem dp_vec {K : PySem.W.Frag} {H : Hp} {a : Addr} {v : Vc} (h : Vec K H a v) : Dp K H (.ref a) (.tuple (Dv v)) := by
  obtain ⟨ps, s1, p1⟩ := h
  exact .tup s1 (dv_all p1)
theorem durD_plain (S : S0) (ys zs : List Str) : (durD S ys zs).plain = true := by
  unfold durD
  have h1 := plain_map (durF S) (fun y => by simp [durF, PyData.plain, PyData.plainAll, plain_ints]) ys
  have h2 := plain_map (durT S) (fun y => by simp [durT, PyData.plain, PyData.plainAll, plain_ints]) zs
  have h3 := plain_map durA (fun y => by simp [durA, PyData.plain, PyData.plainAll, plain_ints, dv_plain]) S.at_
  simp only [PyData.plain, PyData.plainAll, h1, h2, h3]
  rfl
theorem durD_depth (S : S0) (ys zs : List Str) : (durD S ys zs).depth ≤ 60 := by
  have h1 := depth_map (durF S) (n := 4) (fun y => by
    show PyData.depthAll _ + 1 ≤ 4
    simp [PyData.depthAll, PyData.depth, Vf.depthAll_ints]) ys
  have h2 := depth_map (durT S) (n := 4) (fun y => by
    show PyData.depthAll _ + 1 ≤ 4
    simp [PyData.depthAll, PyData.depth, Vf.depthAll_ints]) zs
  have h3 := depth_map durA (n := 4) (fun y => by
    show PyData.depthAll _ + 1 ≤ 4
    have := dv_depth y.2.1
    simp only [PyData.depthAll, PyData.depth, Vf.depthAll_ints]
    omega) S.at_
  show PyData.depthAll _ + 1 ≤ 60
  simp only [PyData.depthAll, PyData.depth]
  omega
def Dur (K : PySem.W.Frag) (H : Hp) (r : Addr) (S : S0) : Prop := ∃ ys zs, ys.Perm (S.fl.map (·.1)) ∧ PyProof.Rows.sortedS ys = true ∧ zs.Perm (S.tp.map (·.1)) ∧ PyProof.Rows.sortedS zs = true ∧ Dp K H (.ref r) (durD S ys zs)
theorem Dur.same {K : PySem.W.Frag} {H H' : Hp} {r : Addr} {S : S0} (h : Dur K H r S) (s : Same H H') : Dur K H' r S := by
  obtain ⟨ys, zs, h1, h2, h3, h4, h5⟩ := h
  exact ⟨ys, zs, h1, h2, h3, h4, dp_same s h5⟩
theorem e_eqDur {K : PySem.W.Frag} {H : Hp} {Q : VK} {a b : Addr} {S : S0} (h1 : Dur K H a S) (h2 : Dur K H b S) (q : Q (.bl true) H) : rEqP K (.ref a) (.ref b) H Q := by
  obtain ⟨ys, zs, p1, q1, p2, q2, d1⟩ := h1
  obtain ⟨ys', zs', p3, q3, p4, q4, d2⟩ := h2
  have e1 := sorted_one (p3.trans p1.symm) q3 q1
  have e2 := sorted_one (p4.trans p2.symm) q4 q2
  subst e1 e2
  exact ⟨_, _, d1, d2, durD_plain .., durD_plain .., durD_depth .., by rw [eqv_self _ (durD_plain ..)]; exact q⟩
theorem same_hidN {H H2 : Hp} {D : Addr} (h : H D = none) (s : Same H H2) : Same H (hid [D] H2) := fun b o e => by
  rw [hid_at fun m => by rw [List.mem_singleton.mp m, h] at e; cases e]
  exact s _ _ e
theorem dpa_mk {K : PySem.W.Frag} {H : Hp} : ∀ {us : List V} {ds : List PyData}, us.length = ds.length → (∀ (i : Nat) (v : V) (d : PyData), us[i]? = some v → ds[i]? = some d → Dp K H v d) → DpAll K H us ds
  | [], [], _, _ => .nil
  | a :: l, b :: m, e, h => .cons (h 0 a b rfl rfl) (dpa_mk (by simpa using e) fun i x y h1 h2 => h (i + 1) x y h1 h2)
/-! what the methods promise -/
def sp_Store___init__ (K : PySem.W.Frag) : Sp := sp3 fun x y z H Q => ∃ (a d0 lg dx : Addr) (w0 : List (Str × Addr)) (fl : List (Str × (List Int × Int))) (D : List Addr), x = .ref a ∧ y = .ref d0 ∧ z = .ref lg ∧ H a = some (.ins (cSto K) dx []) ∧ H d0 = some (.dK (dct w0)) ∧ Fls H w0 fl ∧ (fl.map (·.1)).Nodup ∧ fl.length ≤ 100 ∧
  SqL K H lg [] ∧ Al D H ∧ ∀ (F : List Addr) (H' : Hp), (∀ b, b ≠ a → ∀ o, H b = some o → H' b = some o) → (∀ b ∈ F, b = a ∨ H b = none) → Sto K (hid D H') F a ⟨fl, [], [], 0⟩ → Q .non H'
def sp_Store__count_write (K : PySem.W.Frag) : Sp := sp1 fun x H Q => ∃ (a : Addr) (F D : List Addr) (S : S0), x = .ref a ∧ Al D H ∧ Sto K (hid D H) F a S ∧ ∀ H', Fr [a] H H' → Sto K (hid D H') F a { S with n := S.n + 1 } → Q .non H'
def sp_Store_names (K : PySem.W.Frag) : Sp := sp1 fun x H Q => ∃ (a : Addr) (F : List Addr) (S : S0), x = .ref a ∧ Sto K H F a S ∧ S.fl.length < 64 ∧ ∀ (p : Addr) (H' : Hp) (ys : List Str), H p = none → Same H H' → H' p = some (.lst (ys.map V.str)) → ys.Perm (S.fl.map (·.1)) → PyProof.Rows.sortedS ys = true → Q (.ref p) H'
def sp_Store_read (K : PySem.W.Frag) : Sp := sp2 fun x y H Q => ∃ (a : Addr) (F : List Addr) (S : S0) (nm : Str) (r : List Int × Int), x = .ref a ∧ y = .str nm ∧ Sto K H F a S ∧ lk nm S.fl = some r ∧ ∀ (t l : Addr) (H' : Hp), Same H H' → H' t = some (.tup [.ref l, .int r.2]) → H' l = some (.lst (r.1.map V.int)) → Q (.ref t) H'
def sp_Store_temp (K : PySem.W.Frag) : Sp := sp2 fun x y H Q => ∃ (a : Addr) (F : List Addr) (S : S0) (nm : Str), x = .ref a ∧ y = .str nm ∧ Sto K H F a S ∧ (lk nm S.tp = none → Q .non H) ∧ ∀ bs, lk nm S.tp = some bs → ∀ (l : Addr) (H' : Hp), H l = none → Same H H' → H' l = some (.lst (bs.map V.int)) → Q (.ref l) H'
def sp_Store_append_temp (K : PySem.W.Frag) : Sp := sp3 fun x y z H Q => ∃ (a d : Addr) (F D : List Addr) (S : S0) (nm : Str) (bs : List Int), x = .ref a ∧ y = .str nm ∧ z = .ref d ∧ Al D H ∧ Sto K (hid D H) F a S ∧ H d = some (.lst (bs.map V.int)) ∧ d ∉ F ∧ bs.length ≤ 1000 ∧ S.tp.length ≤ 100 ∧ (∀ r ∈ S.tp, r.2.length ≤ 10000) ∧
  ∀ (F' : List Addr) (H' : Hp), Fr F H H' → (∀ b ∈ F', b ∈ F ∨ H b = none) → Sto K (hid D H') F' a (S.app nm bs) → Q .non H'
def sp_Store_attic (K : PySem.W.Frag) : Sp := sp1 fun x H Q => ∃ (a : Addr) (F : List Addr) (S : S0), x = .ref a ∧ Sto K H F a S ∧ S.at_.length ≤ 1000 ∧ ∀ (p : Addr) (qs : List Addr) (H' : Hp), H p = none → Same H H' → H' p = some (.lst (qs.map V.ref)) → Ats K H' qs S.at_ → Q (.ref p) H'
def sp_Store_attic_put (K : PySem.W.Frag) : Sp := fun vs H Q _ => ∃ x nm v c, vs = [x, nm, v, c] ∧ ∃ (a w l : Addr) (F D : List Addr) (S : S0) (z : Str) (vc : Vc) (bs : List Int), x = .ref a ∧ nm = .str z ∧ v = .ref w ∧ c = .ref l ∧ Al D H ∧ Sto K (hid D H) F a S ∧ Vec K H w vc ∧ SqL K H l (bs.map V.int) ∧ S.at_.length ≤ 1000 ∧
  ∀ H', Fr F H H' → Sto K (hid D H') F a { S with at_ := S.at_ ++ [(z, (vc, bs))], n := S.n + 1 } → Q .non H'
def sp_Store_durable (K : PySem.W.Frag) : Sp := sp1 fun x H Q => ∃ (a : Addr) (F : List Addr) (S : S0), x = .ref a ∧ Sto K H F a S ∧ S.fl.length < 64 ∧ S.tp.length < 64 ∧ S.at_.length ≤ 1000 ∧ ∀ (r : Addr) (H' : Hp), Same H H' → Dur K H' r S → Q (.ref r) H'
structure STT (K : PySem.W.Frag) : Prop where
  cl : Cls K (cSto K)
  n1 : NoAttr K (cSto K) "_files"
  n2 : NoAttr K (cSto K) "_temps"
  n3 : NoAttr K (cSto K) "_attic"
  n4 : NoAttr K (cSto K) "_log"
  n5 : NoAttr K (cSto K) "_new_log"
  n6 : NoAttr K (cSto K) "_budget"
  n7 : NoAttr K (cSto K) "_done"
theorem put_same {f : Str} {v : V} : ∀ {fs : List (Str × V)}, fs.lookup f = some v → ∀ u, (putF f u fs).length = fs.length
  | (g, x) :: r, h, u => by
    show (if g = f then (g, u) :: r else (g, x) :: putF f u r).length = _
    by_cases e : g = f
    · rw [if_pos e]; rfl
    · rw [if_neg e, List.length_cons, List.length_cons, put_same (by
        have hb : (f == g) = false := by
          rw [beq_eq_false_iff_ne]
          exact fun z => e z.symm
        simpa [List.lookup, hb] using h) u]
theorem tps_upd {H : Hp} {a : Addr} {o : HO} : ∀ {w : List (Str × Addr)} {tp : List (Str × List Int)}, Tps H w tp → (∀ b ∈ w.map (·.2), b ≠ a) → Tps (upd H a o) w tp
  | _, _, .nil, _ => .nil
  | _, _, .cons h t, n => .cons ⟨h.1, by rw [upd_ne (n _ (List.mem_cons_self ..))]; exact h.2⟩ (tps_upd t fun b m => n b (List.mem_cons_of_mem _ m))
structure Foot (a fd td ad : Addr) (l : List Addr) : Prop where
  fa : fd ≠ a
  ta : td ≠ a
  aa : ad ≠ a
  tf : td ≠ fd
  af : ad ≠ fd
  at_ : ad ≠ td
  la : ∀ b ∈ l, b ≠ a
  lf : ∀ b ∈ l, b ≠ fd
  lt : ∀ b ∈ l, b ≠ td
  ld : ∀ b ∈ l, b ≠ ad
  nd : l.Nodup
theorem foot_ne {a fd td ad : Addr} {l : List Addr} (h : (a :: fd :: td :: ad :: l).Nodup) : Foot a fd td ad l := by
  rw [List.nodup_cons, List.nodup_cons, List.nodup_cons, List.nodup_cons] at h
  obtain ⟨h1, h2, h3, h4, h5⟩ := h
  refine ⟨fun e => h1 ?_, fun e => h1 ?_, fun e => h1 ?_, fun e => h2 ?_, fun e => h2 ?_, fun e => h3 ?_, fun b m e => h1 ?_, fun b m e => h2 ?_, fun b m e => h3 ?_, fun b m e => h4 ?_, h5⟩
  · rw [← e]; simp
  · rw [← e]; simp
  · rw [← e]; simp
  · rw [← e]; simp
  · rw [← e]; simp
  · rw [← e]; simp
  · rw [← e]; simp [m]
  · rw [← e]; simp [m]
  · rw [← e]; simp [m]
  · rw [← e]; exact m
section
variable {K : PySem.W.Frag} {H : Hp} {a dx fd td ad ld nd : Addr} {S : S0} {fs : List (Str × V)} {fw tw : List (Str × Addr)} {aq : List Addr} {P : V → Prop}
/-- one thing counted -/
theorem StoX.count (x : StoX K H a S dx fd td ad ld nd fs fw tw aq) (n : Int) :
    StoX K (upd H a (.ins (cSto K) dx (putF "_done" (.int n) fs))) a { S with n := n } dx fd td ad ld nd (putF "_done" (.int n) fs) fw tw aq := by
  have hm : a ∈ foot a fd td ad tw := List.mem_cons_self ..
  have ft := foot_ne x.nd
  refine ⟨upd_same, ?_, ?_, ?_, ?_, ?_, ?_, ?_, ?_, fun m hm2 => ?_, by rw [upd_ne ft.fa]; exact x.f1, by rw [upd_ne ft.ta]; exact x.t1, by rw [upd_ne ft.aa]; exact x.a1, by rw [hid_upd_in hm]; exact x.f2, tps_upd x.t2 ft.la, by rw [hid_upd_in hm]; exact x.a2, by rw [hid_upd_in hm]; exact x.g1, by rw [hid_upd_in hm]; exact x.g2, x.nd, x.fn, x.tn⟩
  · rw [put_same x.l7]; exact x.len
  · rw [lookup_putF, if_neg (by decide)]; exact x.l1
  · rw [lookup_putF, if_neg (by decide)]; exact x.l2
  · rw [lookup_putF, if_neg (by decide)]; exact x.l3
  · rw [lookup_putF, if_neg (by decide)]; exact x.l4
  · rw [lookup_putF, if_neg (by decide)]; exact x.l5
  · rw [lookup_putF, if_neg (by decide)]; exact x.l6
  · rw [lookup_putF, if_pos rfl]
  · rw [lookup_putF, if_neg (fun e => hm2 (by rw [e]; decide))]; exact x.l0 m hm2
theorem StoX.same {H' : Hp} (x : StoX K H a S dx fd td ad ld nd fs fw tw aq) (s : Same H H') : StoX K H' a S dx fd td ad ld nd fs fw tw aq :=
  ⟨s _ _ x.ins, x.len, x.l1, x.l2, x.l3, x.l4, x.l5, x.l6, x.l7, x.l0, s _ _ x.f1, s _ _ x.t1, s _ _ x.a1, fls_same x.f2 (hid_same s), tps_same x.t2 s, ats_same x.a2 (hid_same s), hid_same s _ _ x.g1, hid_same s _ _ x.g2, x.nd, x.fn, x.tn⟩
theorem s_files (t : STT K) (x : StoX K H a S dx fd td ad ld nd fs fw tw aq) (q : P (.ref fd)) : ∃ a' C dx fs v, V.ref a = .ref a' ∧ H a' = some (.ins C dx fs) ∧ Cls K C ∧ NoAttr K C "_files" ∧ fs.lookup ("_files" : Str) = some v ∧ P v := ⟨a, _, dx, fs, _, rfl, x.ins, t.cl, t.n1, x.l1, q⟩
theorem s_temps (t : STT K) (x : StoX K H a S dx fd td ad ld nd fs fw tw aq) (q : P (.ref td)) : ∃ a' C dx fs v, V.ref a = .ref a' ∧ H a' = some (.ins C dx fs) ∧ Cls K C ∧ NoAttr K C "_temps" ∧ fs.lookup ("_temps" : Str) = some v ∧ P v := ⟨a, _, dx, fs, _, rfl, x.ins, t.cl, t.n2, x.l2, q⟩
theorem s_attic (t : STT K) (x : StoX K H a S dx fd td ad ld nd fs fw tw aq) (q : P (.ref ad)) : ∃ a' C dx fs v, V.ref a = .ref a' ∧ H a' = some (.ins C dx fs) ∧ Cls K C ∧ NoAttr K C "_attic" ∧ fs.lookup ("_attic" : Str) = some v ∧ P v := ⟨a, _, dx, fs, _, rfl, x.ins, t.cl, t.n3, x.l3, q⟩
theorem s_log (t : STT K) (x : StoX K H a S dx fd td ad ld nd fs fw tw aq) (q : P (.ref ld)) : ∃ a' C dx fs v, V.ref a = .ref a' ∧ H a' = some (.ins C dx fs) ∧ Cls K C ∧ NoAttr K C "_log" ∧ fs.lookup ("_log" : Str) = some v ∧ P v := ⟨a, _, dx, fs, _, rfl, x.ins, t.cl, t.n4, x.l4, q⟩
theorem s_nlog (t : STT K) (x : StoX K H a S dx fd td ad ld nd fs fw tw aq) (q : P (.ref nd)) : ∃ a' C dx fs v, V.ref a = .ref a' ∧ H a' = some (.ins C dx fs) ∧ Cls K C ∧ NoAttr K C "_new_log" ∧ fs.lookup ("_new_log" : Str) = some v ∧ P v := ⟨a, _, dx, fs, _, rfl, x.ins, t.cl, t.n5, x.l5, q⟩
theorem s_budget (t : STT K) (x : StoX K H a S dx fd td ad ld nd fs fw tw aq) (q : P .non) : ∃ a' C dx fs v, V.ref a = .ref a' ∧ H a' = some (.ins C dx fs) ∧ Cls K C ∧ NoAttr K C "_budget" ∧ fs.lookup ("_budget" : Str) = some v ∧ P v := ⟨a, _, dx, fs, _, rfl, x.ins, t.cl, t.n6, x.l6, q⟩
theorem s_done (t : STT K) (x : StoX K H a S dx fd td ad ld nd fs fw tw aq) (q : P (.int S.n)) : ∃ a' C dx fs v, V.ref a = .ref a' ∧ H a' = some (.ins C dx fs) ∧ Cls K C ∧ NoAttr K C "_done" ∧ fs.lookup ("_done" : Str) = some v ∧ P v := ⟨a, _, dx, fs, _, rfl, x.ins, t.cl, t.n7, x.l7, q⟩
theorem s_meth {m : Str} {R : Prop} {F : List Addr} (x : Sto K H F a S) (hm : m ∉ (["_files", "_temps", "_attic", "_log", "_new_log", "_budget", "_done"] : List Str)) (q : R) : ∃ a' dx fs, V.ref a = .ref a' ∧ H a' = some (.ins (cSto K) dx fs) ∧ fs.lookup m = none ∧ R := by
  obtain ⟨dx, fd, td, ad, ld, nd, fs, fw, tw, aq, rfl, x⟩ := x
  exact ⟨a, dx, fs, rfl, x.ins, x.l0 m hm, q⟩
end
theorem vec_fr {K : PySem.W.Frag} {D : List Addr} {H H1 : Hp} {a : Addr} {v : Vc} (h : Vec K H a v) (f : Fr D H H1) (n : ∀ d ∈ D, NT H d) : Vec K H1 a v := ((vec_hid h n).same (hid_fr f)).same hid_sub
theorem sqT_fr {K : PySem.W.Frag} {D : List Addr} {H H1 : Hp} {a : Addr} {v : List V} (h : SqT K H a v) (f : Fr D H H1) (n : ∀ d ∈ D, NT H d) : SqT K H1 a v := same_tup hid_sub (same_tup (hid_fr f) (sqT_hid h n))
/-- not a list -/
def NL (H : Hp) (d : Addr) : Prop := (∀ xs, H d ≠ some (.lst xs)) ∧ ∀ c xs, H d ≠ some (.frz c (.lst xs))
theorem nl_ins {H : Hp} {d C dx : Addr} {fs : List (Str × V)} (h : H d = some (.ins C dx fs)) : NL H d := ⟨fun _ z => (by rw [h] at z; cases z), fun _ _ z => (by rw [h] at z; cases z)⟩
theorem seq_fr {K : PySem.W.Frag} {D : List Addr} {H H1 : Hp} {a : Addr} {v : List V} (h : SqL K H a v) (f : Fr D H H1) (n : ∀ d ∈ D, NL H d) : SqL K H1 a v := by
  rcases h with (h | ⟨c9, h⟩) | h
  · exact .inl (.inl (f _ _ (fun m => (n a m).1 _ h) h))
  · exact .inl (.inr ⟨c9, f _ _ (fun m => (n a m).2 _ _ h) h⟩)
  · exact .inr h
theorem StoX.put_attic {K : PySem.W.Frag} {H : Hp} {a dx fd td ad ld nd : Addr} {S : S0} {fs : List (Str × V)} {fw tw : List (Str × Addr)} {aq : List Addr} (x : StoX K H a S dx fd td ad ld nd fs fw tw aq) {t : Addr} {r : Str × (Vc × List Int)}
    (h : AttA K (hid (foot a fd td ad tw) H) t r) : StoX K (upd H ad (.lst (aq.map V.ref ++ [.ref t]))) a { S with at_ := S.at_ ++ [r] } dx fd td ad ld nd fs fw tw (aq ++ [t]) := by
  have hm : ad ∈ foot a fd td ad tw := by simp [foot]
  have ft := foot_ne x.nd
  refine ⟨by rw [upd_ne (Ne.symm ft.aa)]; exact x.ins, x.len, x.l1, x.l2, x.l3, x.l4, x.l5, x.l6, x.l7, x.l0, by rw [upd_ne (Ne.symm ft.af)]; exact x.f1, by rw [upd_ne (Ne.symm ft.at_)]; exact x.t1, by rw [upd_same, List.map_append]; rfl, by rw [hid_upd_in hm]; exact x.f2, tps_upd x.t2 ft.ld, ?_, by rw [hid_upd_in hm]; exact x.g1, by rw [hid_upd_in hm]; exact x.g2, x.nd, x.fn, x.tn⟩
  rw [hid_upd_in hm]
  exact Paired.snoc x.a2 h
theorem upd3 {H : Hp} {l t : Addr} {x y z : HO} (n : l ≠ t) : upd (upd (upd H l x) t y) l z = upd (upd H t y) l z := by
  funext b
  by_cases e : b = l
  · rw [e, upd_same, upd_same]
  · rw [upd_ne e, upd_ne e]
    by_cases e2 : b = t
    · rw [e2, upd_same, upd_same]
    · rw [upd_ne e2, upd_ne e2, upd_ne e]
theorem lk_none {β : Type} {nm : Str} : ∀ {l : List (Str × β)}, nm ∉ l.map (·.1) → lk nm l = none
  | [], _ => rfl
  | x :: l, h => by
    show (if x.1 = nm then some x.2 else lk nm l) = none
    rw [if_neg fun e => h (by rw [← e]; exact List.mem_cons_self ..)]
    exact lk_none fun m => h (List.mem_cons_of_mem _ m)
theorem lk_not {β : Type} {nm : Str} {l : List (Str × β)} (h : lk nm l = none) : nm ∉ l.map (·.1) := fun m => by
  obtain ⟨r, e, _⟩ := lk_mem m
  rw [h] at e; cases e
abbrev ad1 (nm : Str) (b : Int) : Str × List Int → Str × List Int := fun r => if r.1 = nm then (r.1, r.2 ++ [b]) else r
theorem ad1_fst (nm : Str) (b : Int) (r : Str × List Int) : (ad1 nm b r).1 = r.1 := by
  unfold ad1
  split <;> rfl
theorem ad1_names (nm : Str) (b : Int) (tp : List (Str × List Int)) : (tp.map (ad1 nm b)).map (·.1) = tp.map (·.1) := by
  rw [List.map_map]
  exact List.map_congr_left fun r _ => ad1_fst nm b r
theorem ad1_id {nm : Str} {b : Int} : ∀ {tp : List (Str × List Int)}, nm ∉ tp.map (·.1) → tp.map (ad1 nm b) = tp
  | [], _ => rfl
  | x :: l, h => by
    rw [List.map_cons, ad1_id fun m => h (List.mem_cons_of_mem _ m), ad1, if_neg fun e => h (by rw [← e]; exact List.mem_cons_self ..)]
theorem tps_names {H : Hp} : ∀ {w : List (Str × Addr)} {tp : List (Str × List Int)}, Tps H w tp → w.map (·.1) = tp.map (·.1)
  | _, _, .nil => rfl
  | _, _, .cons h t => by rw [List.map_cons, List.map_cons, tps_names t, h.1]
theorem tps_add {H : Hp} {nm : Str} {q : Addr} {b : Int} : ∀ {w : List (Str × Addr)} {tp : List (Str × List Int)} {rr : List Int}, Tps H w tp → (w.map (·.2)).Nodup → (tp.map (·.1)).Nodup → (nm, q) ∈ w → lk nm tp = some rr →
    Tps (upd H q (.lst ((rr ++ [b]).map V.int))) w (tp.map (ad1 nm b))
  | _, _, _, .nil, _, _, m, _ => by cases m
  | x :: w, r :: tp, rr, .cons h t, n1, n2, m, e => by
    rw [List.map_cons, List.nodup_cons] at n1 n2
    by_cases z : r.1 = nm
    · have e2 : x.2 = q := by
        rcases List.mem_cons.mp m with y | y
        · rw [← y]
        · refine absurd ?_ n2.1
          rw [z, ← tps_names t]
          exact List.mem_map.mpr ⟨_, y, rfl⟩
      have e3 : rr = r.2 := by
        have : (if r.1 = nm then some r.2 else lk nm tp) = some rr := e
        rw [if_pos z] at this
        exact (Option.some.inj this).symm
      have e4 : tp.map (ad1 nm b) = tp := ad1_id (by rw [← z]; exact n2.1)
      rw [List.map_cons, e4]
      refine .cons ⟨by rw [ad1_fst]; exact h.1, ?_⟩ (tps_upd t fun y my => fun e5 => n1.1 (by rw [e2, ← e5]; exact my))
      rw [e2, upd_same, ad1, if_pos z, e3]
    · have m2 : (nm, q) ∈ w := by
        rcases List.mem_cons.mp m with y | y
        · exact absurd (by rw [← h.1, ← y]) z
        · exact y
      have e3 : lk nm tp = some rr := by
        have : (if r.1 = nm then some r.2 else lk nm tp) = some rr := e
        rwa [if_neg z] at this
      have e5 : x.2 ≠ q := fun e6 => n1.1 (by rw [e6]; exact List.mem_map.mpr ⟨_, m2, rfl⟩)
      rw [List.map_cons]
      refine .cons ⟨by rw [ad1_fst]; exact h.1, ?_⟩ (tps_add t n1.2 n2.2 m2 e3)
      rw [upd_ne e5, ad1, if_neg z]
      exact h.2
section
variable {K : PySem.W.Frag} {H : Hp} {a dx fd td ad ld nd : Addr} {S : S0} {fs : List (Str × V)} {fw tw : List (Str × Addr)} {aq : List Addr} {nm : Str} {b : Int}
theorem StoX.put_old (x : StoX K H a S dx fd td ad ld nd fs fw tw aq) {q : Addr} {r : List Int} (hq : (nm, q) ∈ tw) (hr : lk nm S.tp = some r) :
    StoX K (upd H q (.lst ((r ++ [b]).map V.int))) a { S with tp := ap1 nm S.tp b } dx fd td ad ld nd fs fw tw aq := by
  have mq : q ∈ tw.map (·.2) := List.mem_map.mpr ⟨_, hq, rfl⟩
  have hm : q ∈ foot a fd td ad tw := by simp only [foot, List.mem_cons]; exact .inr (.inr (.inr (.inr mq)))
  have ft := foot_ne x.nd
  have e : ap1 nm S.tp b = S.tp.map (ad1 nm b) := by unfold ap1; rw [hr]
  refine ⟨by rw [upd_ne (Ne.symm (ft.la _ mq))]; exact x.ins, x.len, x.l1, x.l2, x.l3, x.l4, x.l5, x.l6, x.l7, x.l0, by rw [upd_ne (Ne.symm (ft.lf _ mq))]; exact x.f1, by rw [upd_ne (Ne.symm (ft.lt _ mq))]; exact x.t1, by rw [upd_ne (Ne.symm (ft.ld _ mq))]; exact x.a1, by rw [hid_upd_in hm]; exact x.f2, ?_, by rw [hid_upd_in hm]; exact x.a2, by rw [hid_upd_in hm]; exact x.g1, by rw [hid_upd_in hm]; exact x.g2, x.nd, x.fn, ?_⟩
  · show Tps _ tw (ap1 nm S.tp b)
    rw [e]
    exact tps_add x.t2 ft.nd x.tn hq hr
  · show ((ap1 nm S.tp b).map (·.1)).Nodup
    rw [e, ad1_names]
    exact x.tn
theorem StoX.put_new (x : StoX K H a S dx fd td ad ld nd fs fw tw aq) {q : Addr} (hq : H q = none) (hr : lk nm S.tp = none) :
    StoX K (upd (upd H td (.dK (dct tw ++ [(Sum.inr nm, .ref q)]))) q (.lst [.int b])) a { S with tp := ap1 nm S.tp b } dx fd td ad ld nd fs fw (tw ++ [(nm, q)]) aq := by
  have ft := foot_ne x.nd
  have nq : q ∉ foot a fd td ad tw := fun m => by
    obtain ⟨⟨o, e⟩, _⟩ := x.has q m
    rw [hq] at e; cases e
  have e : ap1 nm S.tp b = S.tp ++ [(nm, [b])] := by unfold ap1; rw [hr]
  have ef : foot a fd td ad (tw ++ [(nm, q)]) = foot a fd td ad tw ++ [q] := by simp [foot]
  have qa : q ≠ a := fun z => nq (by simp [foot, z])
  have qf : q ≠ fd := fun z => nq (by simp [foot, z])
  have qt : q ≠ td := fun z => nq (by simp [foot, z])
  have qd : q ≠ ad := fun z => nq (by simp [foot, z])
  have sm : Same (hid (foot a fd td ad tw) H) (hid (foot a fd td ad (tw ++ [(nm, q)])) (upd (upd H td (.dK (dct tw ++ [(Sum.inr nm, .ref q)]))) q (.lst [.int b]))) := fun y o h => by
    obtain ⟨n, h⟩ := hid_some h
    have n1 : y ≠ q := ne_of_none h hq
    have n2 : y ≠ td := fun z => n (by simp [foot, z])
    rw [ef, hid_at (by rw [List.mem_append, List.mem_singleton]; exact fun z => z.elim n n1), upd_ne n1, upd_ne n2]
    exact h
  refine ⟨by rw [upd_ne (Ne.symm qa), upd_ne (Ne.symm ft.ta)]; exact x.ins, x.len, x.l1, x.l2, x.l3, x.l4, x.l5, x.l6, x.l7, x.l0, by rw [upd_ne (Ne.symm qf), upd_ne (Ne.symm ft.tf)]; exact x.f1, by rw [upd_ne (Ne.symm qt), upd_same]; simp [dct], by rw [upd_ne (Ne.symm qd), upd_ne ft.at_]; exact x.a1, fls_same x.f2 sm, ?_, ats_same x.a2 sm, sm _ _ x.g1, sm _ _ x.g2, ?_, x.fn, ?_⟩
  · show Tps _ _ (ap1 nm S.tp b)
    rw [e]
    refine Paired.snoc (tps_upd (tps_upd x.t2 ft.lt) fun y m z => nq ?_) ⟨rfl, upd_same⟩
    rw [← z]
    simp only [foot, List.mem_cons]
    exact .inr (.inr (.inr (.inr m)))
  · rw [ef, List.nodup_append]
    refine ⟨x.nd, by simp, fun y m z mz => ?_⟩
    rw [List.mem_singleton.mp mz]
    exact fun e => nq (by rw [← e]; exact m)
  · show ((ap1 nm S.tp b).map (·.1)).Nodup
    rw [e, List.map_append, List.nodup_append]
    refine ⟨x.tn, by simp, fun y m z mz => ?_⟩
    rw [List.mem_singleton.mp mz]
    intro e
    have e : y = nm := e
    exact lk_not hr (by rw [← e]; exact m)
end
theorem ap1_len (nm : Str) (tp : List (Str × List Int)) (b : Int) (m n : Nat) (h1 : tp.length ≤ m) (h2 : ∀ r ∈ tp, r.2.length ≤ n) : (ap1 nm tp b).length ≤ m + 1 ∧ ∀ r ∈ ap1 nm tp b, r.2.length ≤ n + 1 := by
  unfold ap1
  cases lk nm tp with
  | none =>
    refine ⟨by simp; omega, fun r hr => ?_⟩
    rcases List.mem_append.mp hr with h | h
    · have := h2 r h; omega
    · rw [List.mem_singleton.mp h]; simp
  | some o =>
    refine ⟨by simp; omega, fun r hr => ?_⟩
    obtain ⟨r0, h, rfl⟩ := List.mem_map.mp hr
    have := h2 r0 h
    split
    · simp; omega
    · omega
theorem app_len (nm : Str) : ∀ (bs : List Int) (tp : List (Str × List Int)) (m n : Nat), tp.length ≤ m → (∀ r ∈ tp, r.2.length ≤ n) → (bs.foldl (ap1 nm) tp).length ≤ m + bs.length ∧ ∀ r ∈ bs.foldl (ap1 nm) tp, r.2.length ≤ n + bs.length
  | [], _, _, _, h1, h2 => ⟨h1, h2⟩
  | b :: bs, tp, m, n, h1, h2 => by
    obtain ⟨h3, h4⟩ := ap1_len nm tp b m n h1 h2
    obtain ⟨h5, h6⟩ := app_len nm bs (ap1 nm tp b) (m + 1) (n + 1) h3 h4
    rw [List.foldl_cons, List.length_cons]
    exact ⟨by omega, fun r hr => by have := h6 r hr; omega⟩
theorem upd_none {H : Hp} {a p : Addr} {o : HO} (h : upd H a o p = none) : p ≠ a ∧ H p = none := by
  have n : p ≠ a := fun z => by rw [z, upd_same] at h; cases h
  exact ⟨n, by rwa [upd_ne n] at h⟩
theorem fr_back {S : List Addr} {H H' : Hp} {p : Addr} (f : Fr S H H') (n : p ∉ S) (h : H' p = none) : H p = none := by
  cases e : H p with
  | none => rfl
  | some o => rw [f _ _ n e] at h; cases h
theorem inV_ints (x : Int) (ys : List Int) : inV (.int x) (ys.map V.int) = decide (x ∈ ys) := by
  unfold inV
  refine Bool.eq_iff_iff.mpr ?_
  rw [List.any_eq_true, decide_eq_true_eq]
  constructor
  · rintro ⟨v, hv, e⟩
    obtain ⟨y, hy, rfl⟩ := List.mem_map.mp hv
    have e2 : y = x := by simpa [eqV] using e
    rw [← e2]; exact hy
  · intro h
    exact ⟨.int x, List.mem_map.mpr ⟨x, h, rfl⟩, by simp [eqV]⟩
theorem flat_ints (ys : List Int) : (ys.map V.int).all flatV = true := List.all_eq_true.mpr fun v hv => by
  obtain ⟨y, _, rfl⟩ := List.mem_map.mp hv
  rfl
theorem e_ninL {K : PySem.W.Frag} {H : Hp} {Q : VK} {p : Addr} {x : Int} {ys : List Int} (h : SqL K H p (ys.map V.int)) (q : Q (.bl (!decide (x ∈ ys))) H) : rIn K true (.int x) (.ref p) H Q :=
  ⟨p, _, rfl, .inl h, rfl, flat_ints _, by rw [if_pos rfl, inV_ints]; exact q⟩
theorem dp_li {K : PySem.W.Frag} {H : Hp} {a : Addr} {xs : List Int} (h : SqL K H a (xs.map V.int)) : Dp K H (.ref a) (.list (Di xs)) := .lst h (dpAll_ints xs)
theorem e_eqPL {K : PySem.W.Frag} {H : Hp} {Q : VK} {a b : Addr} {xs ys : List Int} (h1 : SqL K H a (xs.map V.int)) (h2 : SqL K H b (ys.map V.int)) (q : Q (.bl (decide (xs = ys))) H) : rEqP K (.ref a) (.ref b) H Q :=
  e_eqPV (dp_li h1) (dp_li h2) (by simp [PyData.plain, plain_ints]) (by simp [PyData.plain, plain_ints]) (by
    show PyData.depthAll (Di xs) + 1 ≤ 60
    rw [Vf.depthAll_ints]; decide) (eqvAll_ints xs ys) q
theorem e_nePL {K : PySem.W.Frag} {H : Hp} {Q : VK} {a b : Addr} {xs ys : List Int} (h1 : SqL K H a (xs.map V.int)) (h2 : SqL K H b (ys.map V.int)) (q : Q (.bl (!decide (xs = ys))) H) : rNeP K (.ref a) (.ref b) H Q :=
  e_nePV (dp_li h1) (dp_li h2) (by simp [PyData.plain, plain_ints]) (by simp [PyData.plain, plain_ints]) (by
    show PyData.depthAll (Di xs) + 1 ≤ 60
    rw [Vf.depthAll_ints]; decide) (eqvAll_ints xs ys) q
theorem e_cat {H : Hp} {Q : VK} {a b : Addr} {xs ys : List V} (h1 : H a = some (.lst xs)) (h2 : H b = some (.lst ys)) (hn : xs.length + ys.length ≤ 100000) (q : ∀ p, H p = none → Q (.ref p) (upd H p (.lst (xs ++ ys)))) : rCat (.ref a) (.ref b) H Q :=
  ⟨a, b, xs, ys, rfl, rfl, h1, h2, Nat.le_trans hn (by decide), q⟩
/-! ### rows of blocks, and where a block is near -/
structure NRow where
  kd : Str
  wh : Key
  bl : List Int
def RowA (K : PySem.W.Frag) (H : Hp) (q : Addr) (r : NRow) : Prop := ∃ b, H q = some (.tup [.str r.kd, kV r.wh, .ref b]) ∧ SqT K H b (r.bl.map V.int)
theorem RowA.same {K : PySem.W.Frag} {H H' : Hp} {q : Addr} {r : NRow} (h : RowA K H q r) (s : Same H H') : RowA K H' q r := let ⟨b, h1, h2⟩ := h; ⟨b, s _ _ h1, same_tup s h2⟩
theorem RowA.fr {K : PySem.W.Frag} {D : List Addr} {H H' : Hp} {q : Addr} {r : NRow} (h : RowA K H q r) (f : Fr D H H') (n : ∀ d ∈ D, NT H d) : RowA K H' q r := let ⟨b, h1, h2⟩ := h; ⟨b, f _ _ (fun m => (n q m).1 _ h1) h1, sqT_fr h2 f n⟩
theorem RowA.hide {K : PySem.W.Frag} {D : List Addr} {H : Hp} {q : Addr} {r : NRow} (h : RowA K H q r) (n : ∀ d ∈ D, NT H d) : RowA K (hid D H) q r := let ⟨b, h1, h2⟩ := h; ⟨b, by rw [hid_at fun m => (n q m).1 _ h1]; exact h1, sqT_hid h2 n⟩
abbrev Rws (K : PySem.W.Frag) (H : Hp) (q : List Addr) (l : List NRow) : Prop := Paired (RowA K H) q l
def fRow (S : S0) (y : Str) : NRow := ⟨"file", .inr y, nums ((lk y S.fl).getD ([], 0)).1⟩
def aRow (S : S0) (i : Nat) : NRow := ⟨"attic", .inl i, nums (S.at_[i]?.getD ("", ([], []))).2.2⟩
def rowsOf (S : S0) (nm : Str) (bl : List Int) (c : Nat) (ys : List Str) : List NRow := ⟨"temp", .inr nm, bl.take c⟩ :: (ys.map (fRow S) ++ (List.range S.at_.length).map (aRow S))
abbrev Nr := List (Int × (Str × (Key × Nat)))
def nadd (kd : Str) (wh : Key) (m : Nr) (x : Int × Nat) : Nr := if x.1 ∈ m.map (·.1) then m else m ++ [(x.1, (kd, (wh, x.2)))]
def nrow (m : Nr) (r : NRow) : Nr := r.bl.zipIdx.foldl (nadd r.kd r.wh) m
def nearOf (rows : List NRow) : Nr := rows.foldl nrow []
def dci (w : List (Int × Addr)) : List (Key × V) := w.map fun x => (Sum.inl x.1, V.ref x.2)
def NearA (H : Hp) (q : Addr) (r : Str × (Key × Nat)) : Prop := H q = some (.tup [.str r.1, kV r.2.1, .int r.2.2])
abbrev Nrs (H : Hp) (w : List (Int × Addr)) (m : Nr) : Prop := Paired (fun x r => x.1 = r.1 ∧ NearA H x.2 r.2) w m
/-- the blocks that a begun file holds -/
def keptN : List Int → List Int → Nat
  | [], _ => 0
  | b :: bs, t => if t.take (bbytes b).length = bbytes b then keptN bs (t.drop (bbytes b).length) + 1 else 0
def keptS (S : S0) (nm : Str) (bl : List Int) : Nat := match lk nm S.tp with
  | none => 0
  | some t => keptN bl t
theorem kept_le : ∀ (bl t : List Int), keptN bl t ≤ bl.length
  | [], _ => Nat.le_refl 0
  | b :: bs, t => by
    unfold keptN
    split
    · have := kept_le bs (t.drop (bbytes b).length); rw [List.length_cons]; omega
    · exact Nat.zero_le _
theorem keptS_le (S : S0) (nm : Str) (bl : List Int) : keptS S nm bl ≤ bl.length := by
  unfold keptS
  split
  · exact Nat.zero_le _
  · exact kept_le _ _
def missOf (m : Nr) (bl : List Int) : List Int := bl.foldl (fun acc b => if b ∈ m.map (·.1) ∨ b ∈ acc then acc else acc ++ [b]) []
theorem cut_mid (xs : List Int) (i n : Nat) : cutV (xs.map V.int) (some (i : Int)) (some ((i : Int) + (n : Int))) = ((xs.drop i).take n).map V.int := by
  unfold cutV
  rw [show ((i : Int) + (n : Int)) = ((i + n : Nat) : Int) by omega, HT.sIx_nat, HT.sIx_nat, List.length_map, List.map_take, List.map_drop]
  by_cases h : i ≤ xs.length
  · rw [Nat.min_eq_left h]
    by_cases h2 : i + n ≤ xs.length
    · rw [Nat.min_eq_left h2, show i + n - i = n by omega]
    · rw [Nat.min_eq_right (by omega), List.take_of_length_le (by simp), List.take_of_length_le (by simp; omega)]
  · rw [Nat.min_eq_right (by omega), Nat.min_eq_right (by omega), List.drop_eq_nil_of_le (by simp), List.drop_eq_nil_of_le (by simp; omega)]
    simp
theorem val_dci {R : Addr → (Str × (Key × Nat)) → Prop} (b : Int) : ∀ {w : List (Int × Addr)} {m : Nr}, Paired (fun x r => x.1 = r.1 ∧ R x.2 r.2) w m →
    (valV (dci w) (Sum.inl b) = none ∧ b ∉ m.map (·.1)) ∨ ∃ q r, valV (dci w) (Sum.inl b) = some (.ref q) ∧ (b, r) ∈ m ∧ R q r ∧ b ∈ m.map (·.1)
  | _, _, .nil => .inl ⟨rfl, by simp⟩
  | x :: ws, r :: rs, .cons h t => by
    have e : valV (dci (x :: ws)) (Sum.inl b) = if x.1 = b then some (.ref x.2) else valV (dci ws) (Sum.inl b) := by
      unfold valV dci
      rw [List.map_cons, List.find?_cons]
      by_cases z : x.1 = b
      · rw [if_pos z, decide_eq_true (congrArg Sum.inl z)]; rfl
      · rw [if_neg z, decide_eq_false fun q => z (Sum.inl.inj q)]
    by_cases z : x.1 = b
    · refine .inr ⟨x.2, r.2, by rw [e, if_pos z], ?_, h.2, ?_⟩
      · rw [← z, h.1]; exact List.mem_cons_self ..
      · rw [← z, h.1]; exact List.mem_cons_self ..
    · rcases val_dci b t with ⟨h1, h2⟩ | ⟨q, s, h1, h2, h3, h4⟩
      · refine .inl ⟨by rw [e, if_neg z]; exact h1, ?_⟩
        rw [List.map_cons, List.mem_cons]
        rintro (q | q)
        · exact z (h.1.trans q.symm)
        · exact h2 q
      · exact .inr ⟨q, s, by rw [e, if_neg z]; exact h1, List.mem_cons_of_mem _ h2, h3, List.mem_cons_of_mem _ h4⟩
abbrev Srt (S : S0) (ys : List Str) : Prop := ys.Perm (S.fl.map (·.1)) ∧ PyProof.Rows.sortedS ys = true
/-- what is small -/
structure Smal (S : S0) (bl : List Int) : Prop where
  f : S.fl.length < 64
  fl : ∀ r ∈ S.fl, r.2.1.length ≤ 1000
  a : S.at_.length ≤ 100
  al : ∀ r ∈ S.at_, r.2.2.length ≤ 1000
  b : bl.length ≤ 1000
  bb : ∀ n ∈ bl, 0 < bsize n
  t : ∀ r ∈ S.tp, r.2.length ≤ 10000
def sp_kept_blocks (K : PySem.W.Frag) : Sp := sp2 fun x y H Q => ∃ (a ea : Addr) (F : List Addr) (S : S0) (p : Bool) (e : En), x = .ref a ∧ y = .ref ea ∧ Sto K H F a S ∧ Ent K H p ea e ∧ Smal S e.bl ∧ ∀ H', Same H H' → Q (.int (keptS S e.nm e.bl : Nat)) H'
def sp_near_rows (K : PySem.W.Frag) : Sp := sp2 fun x y H Q => ∃ (a ea : Addr) (F : List Addr) (S : S0) (p : Bool) (e : En), x = .ref a ∧ y = .ref ea ∧ Sto K H F a S ∧ Ent K H p ea e ∧ Smal S e.bl ∧
  ∀ (r : Addr) (qs : List Addr) (ys : List Str) (H' : Hp), Same H H' → H r = none → H' r = some (.lst (qs.map V.ref)) → Srt S ys → Rws K H' qs (rowsOf S e.nm e.bl (keptS S e.nm e.bl) ys) → Q (.ref r) H'
def sp_near_places (K : PySem.W.Frag) : Sp := sp2 fun x y H Q => ∃ (a ea : Addr) (F : List Addr) (S : S0) (p : Bool) (e : En), x = .ref a ∧ y = .ref ea ∧ Sto K H F a S ∧ Ent K H p ea e ∧ Smal S e.bl ∧
  ∀ (d : Addr) (w : List (Int × Addr)) (ys : List Str) (H' : Hp), Same H H' → H d = none → H' d = some (.dK (dci w)) → Srt S ys → Nrs H' w (nearOf (rowsOf S e.nm e.bl (keptS S e.nm e.bl) ys)) → Q (.ref d) H'
def sp_missing (K : PySem.W.Frag) : Sp := sp2 fun x y H Q => ∃ (a ea : Addr) (F : List Addr) (S : S0) (p : Bool) (e : En), x = .ref a ∧ y = .ref ea ∧ Sto K H F a S ∧ Ent K H p ea e ∧ Smal S e.bl ∧
  ∀ (r : Addr) (ys : List Str) (H' : Hp), Same H H' → H r = none → Srt S ys → H' r = some (.lst ((missOf (nearOf (rowsOf S e.nm e.bl (keptS S e.nm e.bl) ys)) (e.bl.drop (keptS S e.nm e.bl))).map V.int)) → Q (.ref r) H'
theorem keptN_c (b : Int) (bs t : List Int) : keptN (b :: bs) t = if t.take (bbytes b).length = bbytes b then keptN bs (t.drop (bbytes b).length) + 1 else 0 := by rw [keptN]
theorem cut_to (xs : List Int) (c : Nat) : cutV (xs.map V.int) none (some (c : Int)) = (xs.take c).map V.int := by
  have h := cut_mid xs 0 c
  rw [show ((0 : Nat) : Int) + (c : Int) = (c : Int) by omega, List.drop_zero] at h
  rw [← h]
  unfold cutV
  rw [HT.sIx_nat, HT.sIx_nat, show HT.sIx (xs.map V.int).length 0 none = 0 from rfl]
  simp
theorem cut_from (xs : List Int) (c : Nat) : cutV (xs.map V.int) (some (c : Int)) none = (xs.drop c).map V.int := by
  have h := cut_mid xs c xs.length
  rw [List.take_of_length_le (by simp)] at h
  rw [← h]
  unfold cutV
  rw [show ((c : Int) + (xs.length : Int)) = ((c + xs.length : Nat) : Int) by omega, HT.sIx_nat, HT.sIx_nat, List.length_map, Nat.min_eq_right (by omega : xs.length ≤ c + xs.length), show HT.sIx xs.length xs.length none = xs.length from rfl]
theorem nadd_len (kd : Str) (wh : Key) : ∀ (l : List (Int × Nat)) (m : Nr), (l.foldl (nadd kd wh) m).length ≤ m.length + l.length
  | [], _ => Nat.le_refl _
  | x :: l, m => by
    have h := nadd_len kd wh l (nadd kd wh m x)
    have h2 : (nadd kd wh m x).length ≤ m.length + 1 := by
      unfold nadd
      split
      · omega
      · simp
    rw [List.foldl_cons, List.length_cons]
    omega
theorem near_len : ∀ (rows : List NRow) (m : Nr), (∀ r ∈ rows, r.bl.length ≤ 1000) → (rows.foldl nrow m).length ≤ m.length + 1000 * rows.length
  | [], _, _ => Nat.le_refl _
  | r :: rows, m, h => by
    have h1 := near_len rows (nrow m r) fun x hx => h x (List.mem_cons_of_mem _ hx)
    have h2 := nadd_len r.kd r.wh r.bl.zipIdx m
    have h3 := h r (List.mem_cons_self ..)
    rw [List.length_zipIdx] at h2
    rw [List.foldl_cons, List.length_cons]
    have h4 : (nrow m r).length ≤ m.length + r.bl.length := h2
    omega
theorem nums_le {xs : List Int} (h : xs.length ≤ 1000) : (nums xs).length ≤ 1000 := by rw [nums_len]; omega
theorem rows_ok {S : S0} {bl : List Int} {ys : List Str} (hm : Smal S bl) (hp : ys.Perm (S.fl.map (·.1))) (nm : Str) (c : Nat) : (∀ r ∈ rowsOf S nm bl c ys, r.bl.length ≤ 1000) ∧ (rowsOf S nm bl c ys).length ≤ 200 := by
  have yl : ys.length < 64 := by rw [hp.length_eq, List.length_map]; exact hm.f
  have ha := hm.a
  have hb := hm.b
  unfold rowsOf
  refine ⟨fun r h => ?_, by simp; omega⟩
  rcases List.mem_cons.mp h with rfl | h
  · rw [List.length_take]; omega
  rcases List.mem_append.mp h with h | h
  · obtain ⟨y, _, rfl⟩ := List.mem_map.mp h
    refine nums_le ?_
    cases e : lk y S.fl with
    | none => simp
    | some r =>
      have hy : y ∈ S.fl.map (·.1) := Decidable.byContradiction fun n => by rw [lk_none n] at e; cases e
      obtain ⟨r2, e2, m2⟩ := lk_mem hy
      rw [e] at e2
      cases e2
      exact hm.fl _ m2
  · obtain ⟨i, _, rfl⟩ := List.mem_map.mp h
    refine nums_le ?_
    cases e : S.at_[i]? with
    | none => simp
    | some r => exact hm.al _ (List.mem_of_getElem? e)
/-- the state of the draws: the script's copy, a place, a number that is kept, a mixed number -/
structure Dw (K : PySem.W.Frag) (st sc : Addr) (ns : List Int) (H : Hp) : Prop where
  s : ∃ a b c : Int, 0 ≤ a ∧ 0 ≤ b ∧ (0 ≤ c ∧ c < 2147483647) ∧ H st = some (.lst [.ref sc, .int a, .int b, .int c])
  l : H sc = some (.lst (ns.map V.int))
  ne : sc ≠ st
  len : ns.length ≤ 63
theorem Dw.kp {K : PySem.W.Frag} {st sc : Addr} {ns : List Int} {H H' : Hp} (d : Dw K st sc ns H) (k : Kp st H H') (s : ∃ a b c : Int, 0 ≤ a ∧ 0 ≤ b ∧ (0 ≤ c ∧ c < 2147483647) ∧ H' st = some (.lst [.ref sc, .int a, .int b, .int c])) : Dw K st sc ns H' :=
  ⟨s, k _ _ d.ne d.l, d.ne, d.len⟩
theorem Dw.same {K : PySem.W.Frag} {st sc : Addr} {ns : List Int} {H H' : Hp} (d : Dw K st sc ns H) (k : Same H H') : Dw K st sc ns H' := by
  obtain ⟨a, b, c, h1, h2, hc, h3⟩ := d.s
  exact d.kp (Kp.of k) ⟨a, b, c, h1, h2, hc, k _ _ h3⟩
theorem Dw.free {K : PySem.W.Frag} {st sc p : Addr} {ns : List Int} {H : Hp} (d : Dw K st sc ns H) (h : H p = none) : p ≠ st := by
  obtain ⟨a, b, c, _, _, _, h3⟩ := d.s
  intro e
  rw [e, h3] at h
  cases h
theorem Dw.mut {K : PySem.W.Frag} {st sc p : Addr} {ns : List Int} {H0 H1 : Hp} {o : HO} (d0 : Dw K st sc ns H0) (d : Dw K st sc ns H1) (hp : H0 p = none) (k : Kp st H0 H1) : Dw K st sc ns (upd H1 p o) := by
  obtain ⟨a, b, c, h1, h2, hc, h3⟩ := d.s
  exact d0.kp (k.mut hp) ⟨a, b, c, h1, h2, hc, by rw [upd_ne (d0.free hp).symm]; exact h3⟩
theorem Dw.some {K : PySem.W.Frag} {st sc : Addr} {ns : List Int} {H : Hp} (d : Dw K st sc ns H) : ∃ o, H st = some o := by
  obtain ⟨a, b, c, h1, h2, hc, h3⟩ := d.s
  exact ⟨_, h3⟩
section
variable {K : PySem.W.Frag} {g : TG} {σ : L2.St} {te : TE} {vs : List Nat} {Q : VK} {Da st sc : Addr} {ns : List Int} {H0 : Hp}
/-- [e for k in range(..)], e with draws -/
theorem lc_dw {lo : Int} {n : Nat} (d0 : Dw K st sc ns H0) (hD : H0 Da = none) (hn : n ≤ 1000000) (Pe : V → Prop)
    (hs : ∀ (i : Nat) (H2 : Hp) (C : VK) (E : Hp → Prop), i < n → Kp st H0 H2 → Dw K st sc ns H2 → (∀ y H3, Kp st H2 H3 → Dw K st sc ns H3 → Pe y → C y H3) →
      g (.int (lo + i)) (wipe σ vs) H2 fun σ2 H2 => wipe σ2 vs = wipe σ vs ∧ tYes σ2 H2 fun b H3 => if b = true then te σ2 H3 C else E H3)
    (hd : ∀ (H : Hp) (xs : List V), Kp st H0 H → Dw K st sc ns H → H Da = some (.lst xs) → xs.length = n → (∀ x ∈ xs, Pe x) → Q (.ref Da) H) : LcB (Itr lo n) g tYes te vs σ Da H0 Q := by
  have nD := d0.free hD
  refine lc_rng (fun i H2 => Kp st H0 H2 ∧ Dw K st sc ns H2 ∧ ∃ xs : List V, H2 Da = some (.lst xs) ∧ xs.length = i ∧ ∀ x ∈ xs, Pe x) ⟨Kp.new hD, d0.same (same_new hD), [], upd_same, rfl, fun _ hy => by cases hy⟩ (fun i H2 hi p => ?_) (fun H2 p => ?_)
  · obtain ⟨k4, d4, xs, e4, l4, o4⟩ := p
    refine hs i H2 _ _ hi k4 d4 fun y H3 k5 d5 hy => ?_
    refine ⟨xs, k5 _ _ nD e4, Nat.lt_of_le_of_lt (Nat.le_of_lt (by omega : xs.length < 1000001)) (by decide), (k4.trans k5).mut hD, Dw.mut d0 d5 hD (k4.trans k5), xs ++ [y], upd_same, by simp [l4], fun z hz => ?_⟩
    rcases List.mem_append.mp hz with h | h
    · exact o4 z h
    · rw [List.mem_singleton.mp h]; exact hy
  · obtain ⟨k4, d4, xs, e4, l4, o4⟩ := p
    exact hd H2 xs k4 d4 e4 l4 o4
end
theorem ints_of {n : Nat} {P : Int → Prop} : ∀ {xs : List V}, (∀ x ∈ xs, ∃ i, x = .int i ∧ P i) → ∃ ks : List Int, xs = ks.map V.int ∧ ∀ k ∈ ks, P k
  | [], _ => ⟨[], rfl, fun _ h => by cases h⟩
  | x :: xs, h => by
    obtain ⟨i, rfl, hi⟩ := h x (List.mem_cons_self ..)
    obtain ⟨ks, rfl, hk⟩ := ints_of (n := n) (P := P) (xs := xs) fun y hy => h y (List.mem_cons_of_mem _ hy)
    refine ⟨i :: ks, rfl, fun k hk2 => ?_⟩
    rcases List.mem_cons.mp hk2 with rfl | h2
    · exact hi
    · exact hk k h2
def sp_law_draws (K : PySem.W.Frag) : Sp := sp1 fun a H Q => ∃ (sa : Addr) (ns : List Int), a = .ref sa ∧ SqL K H sa (ns.map V.int) ∧ ns.length ≤ 63 ∧ ∀ (st sc : Addr) (H' : Hp), H st = none → Same H H' → Dw K st sc ns H' → Q (.ref st) H'
def sp_law_draw (K : PySem.W.Frag) : Sp := sp2 fun a b H Q => ∃ (st sc : Addr) (ns : List Int) (n : Int), a = .ref st ∧ b = .int n ∧ Dw K st sc ns H ∧ 0 < n ∧ n < 2 ^ 60 ∧
  ∀ (d : Int) (H' : Hp), 0 ≤ d → d < n → Kp st H H' → Dw K st sc ns H' → Q (.int d) H'
/-- the files are as they were, or one is written -/
theorem fls_mapput {H : Hp} {nm : Str} {t : Addr} {x : List Int × Int} (ht : FilA H t x) : ∀ {w : List (Str × Addr)} {fl : List (Str × (List Int × Int))}, Fls H w fl → Fls H (w.map fun y => if y.1 = nm then (nm, t) else y) (fl.map fun y => if y.1 = nm then (nm, x) else y)
  | _, _, .nil => .nil
  | a :: w, b :: fl, .cons h r => by
    rw [List.map_cons, List.map_cons]
    refine .cons ?_ (fls_mapput ht r)
    by_cases e : b.1 = nm
    · rw [if_pos e, if_pos (h.1.trans e)]
      exact ⟨rfl, ht⟩
    · rw [if_neg e, if_neg fun z => e (h.1.symm.trans z)]
      exact h
theorem fls_put {H : Hp} {w : List (Str × Addr)} {fl : List (Str × (List Int × Int))} {nm : Str} {t : Addr} {x : List Int × Int} (q : Fls H w fl) (hn : (fl.map (·.1)).Nodup) (ht : FilA H t x) :
    ∃ w2 fl2, putK (dct w) (Sum.inr nm) (.ref t) = dct w2 ∧ Fls H w2 fl2 ∧ (fl2.map (·.1)).Nodup ∧ fl2.length ≤ fl.length + 1 ∧ ∀ r ∈ fl2, r ∈ fl ∨ r = (nm, x) := by
  by_cases m : nm ∈ w.map (·.1)
  · refine ⟨w.map fun y => if y.1 = nm then (nm, t) else y, fl.map fun y => if y.1 = nm then (nm, x) else y, ?_, fls_mapput ht q, ?_, by rw [List.length_map]; omega, fun r hr => ?_⟩
    · unfold putK
      have ha : ((dct w).any fun kv => decide (kv.1 = Sum.inr nm)) = true := by
        obtain ⟨y, hy, e⟩ := List.mem_map.mp m
        refine List.any_eq_true.mpr ⟨(Sum.inr y.1, .ref y.2), List.mem_map.mpr ⟨y, hy, rfl⟩, ?_⟩
        exact decide_eq_true (congrArg Sum.inr e)
      rw [if_pos ha]
      unfold dct
      rw [List.map_map, List.map_map]
      refine List.map_congr_left fun y _ => ?_
      show (if (Sum.inr y.1 : Key) = Sum.inr nm then ((Sum.inr y.1 : Key), V.ref t) else (Sum.inr y.1, .ref y.2)) = (fun x => (Sum.inr x.1, V.ref x.2)) (if y.1 = nm then (nm, t) else y)
      by_cases e : y.1 = nm
      · rw [if_pos (congrArg Sum.inr e), if_pos e, e]
      · rw [if_neg fun z => e (Sum.inr.inj z), if_neg e]
    · rw [List.map_map]
      have : (fl.map ((·.1) ∘ fun y => if y.1 = nm then (nm, x) else y)) = fl.map (·.1) := List.map_congr_left fun y _ => by
        show (if y.1 = nm then (nm, x) else y).1 = y.1
        by_cases e : y.1 = nm
        · rw [if_pos e]; exact e.symm
        · rw [if_neg e]
      rw [this]
      exact hn
    · obtain ⟨y, hy, rfl⟩ := List.mem_map.mp hr
      by_cases e : y.1 = nm
      · rw [if_pos e]; exact .inr rfl
      · rw [if_neg e]; exact .inl hy
  · have hv : valV (dct w) (Sum.inr nm) = none := by
      rcases val_dct (R := FilA H) nm q with ⟨h1, _⟩ | ⟨q2, r, _, _, _, h4⟩
      · exact h1
      · exact absurd (List.mem_map.mpr ⟨_, h4, rfl⟩) m
    have hw : w.map (·.1) = fl.map (·.1) := by
      clear m hv hn ht
      induction q with
      | nil => rfl
      | cons h _ ih => rw [List.map_cons, List.map_cons, ih, h.1]
    refine ⟨w ++ [(nm, t)], fl ++ [(nm, x)], ?_, Paired.snoc q ⟨rfl, ht⟩, ?_, by simp, fun r hr => ?_⟩
    · rw [putK_new _ hv]
      unfold dct
      rw [List.map_append]
      rfl
    · rw [List.map_append, List.nodup_append]
      refine ⟨hn, by simp, fun y my z mz => ?_⟩
      rw [List.mem_singleton.mp mz]
      intro e
      have e : y = nm := e
      rw [e, ← hw] at my
      exact m my
    · rcases List.mem_append.mp hr with h | h
      · exact .inl h
      · exact .inr (List.mem_singleton.mp h)
theorem kept_iff : ∀ (cs : List (List Int)) (xs : List Int) (i : Nat), (∀ c ∈ cs, Piece c) → i ≤ cs.length → (xs.take (cs.take i).flatten.length = (cs.take i).flatten ↔ i ≤ keptN (cs.map bnum) xs)
  | _, xs, 0, _, _ => by simp
  | [], _, i + 1, _, h => by simp at h
  | c :: cs, xs, i + 1, hc, h => by
    have p := hc c (List.mem_cons_self ..)
    have ih := kept_iff cs (xs.drop c.length) i (fun d m => hc d (List.mem_cons_of_mem _ m)) (by simpa using h)
    rw [List.take_succ_cons, List.flatten_cons, List.length_append, List.map_cons, keptN_c, bbytes_bnum p]
    constructor
    · intro e
      have e1 : xs.take c.length = c := by
        have := congrArg (List.take c.length) e
        rw [List.take_take, List.take_append_of_le_length (Nat.le_refl _), List.take_length, Nat.min_eq_left (by omega)] at this
        exact this
      have e2 : (xs.drop c.length).take (cs.take i).flatten.length = (cs.take i).flatten := by
        have := congrArg (List.drop c.length) e
        rw [List.drop_take, List.drop_append_of_le_length (Nat.le_refl _), List.drop_length, List.nil_append, Nat.add_sub_cancel_left] at this
        exact this
      rw [if_pos e1]
      have := ih.mp e2
      omega
    · intro e
      by_cases e1 : xs.take c.length = c
      · rw [if_pos e1] at e
        rw [List.take_add, e1, ih.mpr (by omega)]
      · rw [if_neg e1] at e
        omega
theorem StoX.put_file {K : PySem.W.Frag} {H : Hp} {a dx fd td ad ld nd : Addr} {S : S0} {fs : List (Str × V)} {fw tw : List (Str × Addr)} {aq : List Addr} (x : StoX K H a S dx fd td ad ld nd fs fw tw aq) {t : Addr} {nm : Str} {r : List Int × Int}
    (h : FilA (hid (foot a fd td ad tw) H) t r) : ∃ w2 fl2, putK (dct fw) (Sum.inr nm) (.ref t) = dct w2 ∧ fl2.length ≤ S.fl.length + 1 ∧ (∀ y ∈ fl2, y ∈ S.fl ∨ y = (nm, r)) ∧ StoX K (upd H fd (.dK (dct w2))) a { S with fl := fl2 } dx fd td ad ld nd fs w2 tw aq := by
  obtain ⟨w2, fl2, g1, g2, g3, g4, g5⟩ := fls_put (nm := nm) x.f2 x.fn h
  have hm : fd ∈ foot a fd td ad tw := by simp [foot]
  have ft := foot_ne x.nd
  exact ⟨w2, fl2, g1, g4, g5, by rw [upd_ne (Ne.symm ft.fa)]; exact x.ins, x.len, x.l1, x.l2, x.l3, x.l4, x.l5, x.l6, x.l7, x.l0, upd_same, by rw [upd_ne ft.tf]; exact x.t1, by rw [upd_ne ft.af]; exact x.a1, by rw [hid_upd_in hm]; exact g2, tps_upd x.t2 ft.lf, by rw [hid_upd_in hm]; exact x.a2, by rw [hid_upd_in hm]; exact x.g1, by rw [hid_upd_in hm]; exact x.g2, x.nd, g3, x.tn⟩
/-! ### what must come -/
def Mis (S : S0) (nm : Str) (bl : List Int) (x : Int) : Prop := x ∈ bl.drop (keptS S nm bl) ∧ ¬ (x ∈ bl.take (keptS S nm bl) ∨ (∃ r ∈ S.fl, x ∈ nums r.2.1) ∨ ∃ r ∈ S.at_, x ∈ nums r.2.2)
theorem nadd_keys (kd : Str) (wh : Key) (x : Int) : ∀ (l : List (Int × Nat)) (m : Nr), x ∈ (l.foldl (nadd kd wh) m).map (·.1) ↔ x ∈ m.map (·.1) ∨ x ∈ l.map (·.1)
  | [], m => by simp
  | y :: l, m => by
    rw [List.foldl_cons, nadd_keys kd wh x l, List.map_cons, List.mem_cons]
    have h : x ∈ (nadd kd wh m y).map (·.1) ↔ x ∈ m.map (·.1) ∨ x = y.1 := by
      unfold nadd
      by_cases z : y.1 ∈ m.map (·.1)
      · rw [if_pos z]
        exact ⟨.inl, fun q => q.elim id fun e => by rw [e]; exact z⟩
      · rw [if_neg z, List.map_append, List.mem_append]
        exact ⟨fun q => q.imp id fun w => List.mem_singleton.mp w, fun q => q.imp id fun w => List.mem_singleton.mpr w⟩
    rw [h, or_assoc]
theorem near_keys (x : Int) : ∀ (rows : List NRow) (m : Nr), x ∈ (rows.foldl nrow m).map (·.1) ↔ x ∈ m.map (·.1) ∨ ∃ r ∈ rows, x ∈ r.bl
  | [], m => by simp
  | r :: rows, m => by
    rw [List.foldl_cons, near_keys x rows]
    have h : x ∈ (nrow m r).map (·.1) ↔ x ∈ m.map (·.1) ∨ x ∈ r.bl := by
      unfold nrow
      rw [nadd_keys, List.zipIdx_map_fst]
    rw [h, or_assoc]
    simp
theorem miss_mem (m : Nr) (x : Int) : ∀ (l acc : List Int), x ∈ l.foldl (fun acc b => if b ∈ m.map (·.1) ∨ b ∈ acc then acc else acc ++ [b]) acc ↔ x ∈ acc ∨ (x ∈ l ∧ x ∉ m.map (·.1))
  | [], acc => by simp
  | b :: l, acc => by
    rw [List.foldl_cons, miss_mem m x l, List.mem_cons]
    by_cases z : b ∈ m.map (·.1) ∨ b ∈ acc
    · rw [if_pos z]
      constructor
      · rintro (h | h)
        · exact .inl h
        · exact .inr ⟨.inr h.1, h.2⟩
      · rintro (h | ⟨rfl | h, h2⟩)
        · exact .inl h
        · exact z.elim (fun q => absurd q h2) .inl
        · exact .inr ⟨h, h2⟩
    · rw [if_neg z, List.mem_append, List.mem_singleton]
      constructor
      · rintro ((h | rfl) | h)
        · exact .inl h
        · exact .inr ⟨.inl rfl, fun q => z (.inl q)⟩
        · exact .inr ⟨.inr h.1, h.2⟩
      · rintro (h | ⟨rfl | h, h2⟩)
        · exact .inl (.inl h)
        · exact .inl (.inr rfl)
        · exact .inr ⟨h, h2⟩
theorem miss_len (m : Nr) (l : List Int) : (missOf m l).length ≤ l.length := by
  have h : ∀ (l acc : List Int), (l.foldl (fun acc b => if b ∈ m.map (·.1) ∨ b ∈ acc then acc else acc ++ [b]) acc).length ≤ acc.length + l.length := by
    intro l
    induction l with
    | nil => intro acc; exact Nat.le_refl _
    | cons b l ih =>
      intro acc
      rw [List.foldl_cons, List.length_cons]
      refine Nat.le_trans (ih _) ?_
      split
      · omega
      · rw [List.length_append, List.length_singleton]; omega
  have := h l []
  rw [List.length_nil, Nat.zero_add] at this
  exact this
theorem lk_of {β : Type} : ∀ {l : List (Str × β)}, (l.map (·.1)).Nodup → ∀ r ∈ l, lk r.1 l = some r.2
  | x :: l, n, r, h => by
    rw [List.map_cons, List.nodup_cons] at n
    show (if x.1 = r.1 then some x.2 else lk r.1 l) = _
    rcases List.mem_cons.mp h with rfl | h
    · rw [if_pos rfl]
    · rw [if_neg fun e => n.1 (by rw [e]; exact List.mem_map.mpr ⟨r, h, rfl⟩)]
      exact lk_of n.2 r h
theorem mis_iff {S : S0} {nm : Str} {bl : List Int} {ys : List Str} (hp : ys.Perm (S.fl.map (·.1))) (hn : (S.fl.map (·.1)).Nodup) (x : Int) : x ∈ missOf (nearOf (rowsOf S nm bl (keptS S nm bl) ys)) (bl.drop (keptS S nm bl)) ↔ Mis S nm bl x := by
  unfold missOf Mis
  rw [miss_mem]
  unfold nearOf
  rw [near_keys]
  have e : (∃ r ∈ rowsOf S nm bl (keptS S nm bl) ys, x ∈ r.bl) ↔ x ∈ bl.take (keptS S nm bl) ∨ (∃ r ∈ S.fl, x ∈ nums r.2.1) ∨ ∃ r ∈ S.at_, x ∈ nums r.2.2 := by
    unfold rowsOf
    constructor
    · rintro ⟨r, h, hx⟩
      rcases List.mem_cons.mp h with rfl | h
      · exact .inl hx
      rcases List.mem_append.mp h with h | h
      · obtain ⟨y, hy, rfl⟩ := List.mem_map.mp h
        obtain ⟨z, hz, m⟩ := lk_mem (hp.mem_iff.mp hy)
        refine .inr (.inl ⟨_, m, ?_⟩)
        have hx : x ∈ nums ((lk y S.fl).getD ([], 0)).1 := hx
        rw [hz] at hx
        exact hx
      · obtain ⟨i, hi, rfl⟩ := List.mem_map.mp h
        have hi2 := List.getElem?_eq_getElem (List.mem_range.mp hi)
        have hx : x ∈ nums (S.at_[i]?.getD ("", ([], []))).2.2 := hx
        rw [hi2] at hx
        exact .inr (.inr ⟨_, List.getElem_mem _, hx⟩)
    · rintro (h | ⟨r, hr, hx⟩ | ⟨r, hr, hx⟩)
      · exact ⟨_, List.mem_cons_self .., h⟩
      · refine ⟨fRow S r.1, List.mem_cons_of_mem _ (List.mem_append_left _ (List.mem_map.mpr ⟨r.1, hp.mem_iff.mpr (List.mem_map.mpr ⟨r, hr, rfl⟩), rfl⟩)), ?_⟩
        show x ∈ nums ((lk r.1 S.fl).getD ([], 0)).1
        rw [lk_of hn r hr]
        exact hx
      · obtain ⟨i, hi⟩ := List.getElem?_of_mem hr
        have hi2 := (List.getElem?_eq_some_iff.mp hi).1
        refine ⟨aRow S i, List.mem_cons_of_mem _ (List.mem_append_right _ (List.mem_map.mpr ⟨i, List.mem_range.mpr hi2, rfl⟩)), ?_⟩
        show x ∈ nums (S.at_[i]?.getD ("", ([], []))).2.2
        rw [hi]
        exact hx
  rw [e]
  simp
abbrev Pcs (K : PySem.W.Frag) (H : Hp) (ps : List Addr) (cs : List (List Int)) : Prop := Paired (fun p c => SqT K H p (c.map V.int)) ps cs
theorem pcs_same {K : PySem.W.Frag} {H H' : Hp} {ps : List Addr} {cs : List (List Int)} (h : Pcs K H ps cs) (s : Same H H') : Pcs K H' ps cs := paired_imp (fun _ _ q => same_tup s q) h
/-- bytes alone -/
structure BySt (S : S0) : Prop where
  f : ∀ r ∈ S.fl, isB r.2.1
  a : ∀ r ∈ S.at_, isB r.2.2
theorem Sto.names {K : PySem.W.Frag} {H : Hp} {F : List Addr} {a : Addr} {S : S0} (h : Sto K H F a S) : (S.fl.map (·.1)).Nodup := by
  obtain ⟨dx, fd, td, ad, ld, nd, fs, fw, tw, aq, rfl, x⟩ := h
  exact x.fn
def sp_Store_write (K : PySem.W.Frag) : Sp := sp4 fun x y z u H Q => ∃ (a l : Addr) (F D : List Addr) (S : S0) (nm : Str) (bs : List Int) (t : Int), x = .ref a ∧ y = .str nm ∧ z = .ref l ∧ u = .int t ∧ Al D H ∧ Sto K (hid D H) F a S ∧ SqL K H l (bs.map V.int) ∧ S.fl.length ≤ 100 ∧
  ∀ (fl2 : List (Str × (List Int × Int))) (H' : Hp), Fr F H H' → Sto K (hid D H') F a { S with fl := fl2, n := S.n + 1 } → fl2.length ≤ S.fl.length + 1 → (∀ r ∈ fl2, r ∈ S.fl ∨ r = (nm, (bs, t))) → Q .non H'
def sp_must_come (K : PySem.W.Frag) : Sp := sp2 fun x y H Q => ∃ (a l : Addr) (F : List Addr) (S : S0) (es : List (Addr × En)), x = .ref a ∧ y = .ref l ∧ Sto K H F a S ∧ SqL K H l (es.map fun p => V.ref p.1) ∧ (∀ p ∈ es, Ent K H false p.1 p.2 ∧ Smal S p.2.bl ∧ p.2.bl.length ≤ 4) ∧ es.length ≤ 3 ∧
  ∀ (r : Addr) (out : List Int) (H' : Hp), Same H H' → H r = none → H' r = some (.lst (out.map V.int)) → out.Pairwise (· < ·) → (∀ x, x ∈ out ↔ ∃ p ∈ es, Mis S p.2.nm p.2.bl x) → Q (.ref r) H'
def sp_law_content (K : PySem.W.Frag) : Sp := sp1 fun x H Q => ∃ (st sc : Addr) (ns : List Int), x = .ref st ∧ Dw K st sc ns H ∧
  ∀ (q : Addr) (xs : List Int) (H' : Hp), H q = none → Kp st H H' → Dw K st sc ns H' → H' q = some (.lst (xs.map V.int)) → isB xs → xs.length ≤ 16 → Q (.ref q) H'
def sp_law_pieces (K : PySem.W.Frag) : Sp := sp1 fun x H Q => ∃ (p : Addr) (xs : List Int), x = .ref p ∧ SqL K H p (xs.map V.int) ∧ xs.length ≤ 1000 ∧ ∀ (q : Addr) (ps : List Addr) (H' : Hp), H q = none → Same H H' → H' q = some (.lst (ps.map V.ref)) → Pcs K H' ps (chunks xs) → Q (.ref q) H'
def sp_law_number (K : PySem.W.Frag) : Sp := sp1 fun x H Q => ∃ (p : Addr) (c : List Int), x = .ref p ∧ SqT K H p (c.map V.int) ∧ Q (.int (bnum c)) H
def sp_law_missing (K : PySem.W.Frag) : Sp := sp3 fun x y z H Q => ∃ (a p : Addr) (F : List Addr) (S : S0) (nm : Str) (ct : List Int), x = .ref a ∧ y = .str nm ∧ z = .ref p ∧ Sto K H F a S ∧ SqL K H p (ct.map V.int) ∧ isB ct ∧ ct.length ≤ 16 ∧ BySt S ∧ Smal S (nums ct) ∧
  ∀ (r : Addr) (ms : List Int) (H' : Hp), Same H H' → H r = none → H' r = some (.lst (ms.map V.int)) → ms.length ≤ 4 → (∀ x, x ∈ ms ↔ Mis S nm (nums ct) x) → Q (.ref r) H'
theorem e_temp {K : PySem.W.Frag} {H : Hp} {Q : VK} {E : XK} {a : Addr} {F : List Addr} {S : S0} {nm : Str} (hS : Sto K H F a S) (q : ∀ v H', Same H H' → ((v = .non ∧ lk nm S.tp = none) ∨ ∃ l bs, v = .ref l ∧ lk nm S.tp = some bs ∧ H' l = some (.lst (bs.map V.int))) → Q v H') : sp_Store_temp K [.ref a, .str nm] H Q E :=
  ⟨_, _, rfl, a, F, S, nm, rfl, rfl, hS, fun h => q _ _ (Same.refl _) (.inl ⟨rfl, h⟩), fun bs hb l H' _ s e => q _ _ s (.inr ⟨l, bs, rfl, hb, e⟩)⟩
theorem cut_toV (xs : List V) (c : Nat) : cutV xs none (some (c : Int)) = xs.take c := by
  unfold cutV
  rw [HT.sIx_nat, show HT.sIx xs.length 0 none = 0 from rfl, List.drop_zero, Nat.sub_zero]
  by_cases h : c ≤ xs.length
  · rw [Nat.min_eq_left h]
  · rw [Nat.min_eq_right (by omega), List.take_of_length_le (Nat.le_refl _), List.take_of_length_le (by omega)]
theorem cut_fromV (xs : List V) (c : Nat) : cutV xs (some (c : Int)) none = xs.drop c := by
  unfold cutV
  rw [HT.sIx_nat, show HT.sIx xs.length xs.length none = xs.length from rfl]
  by_cases h : c ≤ xs.length
  · rw [Nat.min_eq_left h, List.take_of_length_le (by simp)]
  · rw [Nat.min_eq_right (by omega), List.drop_eq_nil_of_le (Nat.le_refl _), List.drop_eq_nil_of_le (by omega)]
    simp
theorem chunks_pre : ∀ (xs : List Int) (i : Nat), i < (chunks xs).length → ((chunks xs).take i).flatten.length = 4 * i
  | _, 0, _ => by simp
  | [], i + 1, h => by simp [chunks] at h
  | [a], i + 1, h => by simp [chunks] at h
  | [a, b], i + 1, h => by simp [chunks] at h
  | [a, b, c], i + 1, h => by simp [chunks] at h
  | a :: b :: c :: d :: r, i + 1, h => by
    have ih := chunks_pre r i (by simpa [chunks] using h)
    show (([a, b, c, d] :: chunks r).take (i + 1)).flatten.length = _
    rw [List.take_succ_cons, List.flatten_cons, List.length_append, ih]
    simp
    omega
/-- the next piece stands in the begun file -/
theorem kept_next {cs : List (List Int)} {bs : List Int} {i : Nat} {c : List Int} (hc : ∀ c ∈ cs, Piece c) (hi : cs[i]? = some c) (hl : (cs.take i).flatten.length = 4 * i) (hk : i ≤ keptN (cs.map bnum) bs) : (bs.drop (4 * i)).take c.length = c ↔ i + 1 ≤ keptN (cs.map bnum) bs := by
  have hlt := (List.getElem?_eq_some_iff.mp hi).1
  have h1 := (kept_iff cs bs i hc (by omega)).mpr hk
  rw [← kept_iff cs bs (i + 1) hc (by omega)]
  have hf : (cs.take (i + 1)).flatten = (cs.take i).flatten ++ c := by
    rw [List.take_add_one, hi, List.flatten_append]
    simp
  rw [hf, List.length_append, hl, List.take_add]
  rw [hl] at h1
  rw [h1]
  exact ⟨fun e => by rw [e], fun e => List.append_cancel_left e⟩
theorem shaped_piece (c : List Int) : SeqAt.shaped (.tuple (Di c)) = true := by
  have h1 : ∀ c : List Int, PyData.canLayAll0 (Di c) = true := fun c => by
    induction c with
    | nil => rfl
    | cons x c ih =>
      show (true && PyData.canLayAll0 (Di c)) = true
      rw [ih]; rfl
  unfold SeqAt.shaped
  rw [show (PyData.tuple (Di c)).canLay0 = PyData.canLayAll0 (Di c) from rfl, h1]
  have h2 : (PyData.tuple (Di c)).depth = 1 := by
    show PyData.depthAll (Di c) + 1 = 1
    rw [Vf.depthAll_ints]
  rw [h2]
  rfl
theorem shaped_pieces (cs : List (List Int)) : SeqAt.shaped (.list (cs.map fun c => .tuple (Di c))) = true := by
  have h1 : ∀ cs : List (List Int), PyData.canLayAll0 (cs.map fun c => .tuple (Di c)) = true ∧ PyData.depthAll (cs.map fun c => .tuple (Di c)) ≤ 1 := fun cs => by
    induction cs with
    | nil => exact ⟨rfl, Nat.zero_le _⟩
    | cons c cs ih =>
      have h := shaped_piece c
      have h3 := SeqAt.canLay_of_shaped h
      constructor
      · show ((PyData.tuple (Di c)).canLay0 && PyData.canLayAll0 (cs.map fun c => .tuple (Di c))) = true
        rw [h3, ih.1]; rfl
      · show max (PyData.depthAll (Di c) + 1) (PyData.depthAll (cs.map fun c => .tuple (Di c))) ≤ 1
        rw [Vf.depthAll_ints]
        have := ih.2
        omega
  unfold SeqAt.shaped
  rw [show (PyData.list (cs.map fun c => .tuple (Di c))).canLay0 = PyData.canLayAll0 (cs.map fun c => .tuple (Di c)) from rfl, (h1 cs).1, Bool.true_and]
  refine decide_eq_true ?_
  show PyData.depthAll _ + 1 ≤ 64
  have := (h1 cs).2
  omega
theorem e_ninPc {K : PySem.W.Frag} {H : Hp} {Q : VK} {p l : Addr} {c : List Int} {ps : List Addr} {cs : List (List Int)} (h1 : SqT K H p (c.map V.int)) (h2 : SqL K H l (ps.map V.ref)) (h3 : Pcs K H ps cs) (q : Q (.bl (!decide (c ∈ cs))) H) : rNotInD K (.ref p) (.ref l) H Q := by
  have hd : ∀ {ps : List Addr} {cs : List (List Int)}, Pcs K H ps cs → DpAll K H (ps.map V.ref) (cs.map fun c => .tuple (Di c)) := by
    intro ps cs h
    induction h with
    | nil => exact .nil
    | cons h _ ih => exact .cons (dp_ti h) ih
  refine ⟨_, _, dp_ti h1, .lst h2 (hd h3), shaped_piece c, shaped_pieces cs, ?_⟩
  have e : ((cs.map fun c => PyData.tuple (Di c)).any fun z => PyData.eqv z (.tuple (Di c))) = decide (c ∈ cs) := by
    rw [List.any_map]
    refine Bool.eq_iff_iff.mpr ?_
    rw [List.any_eq_true, decide_eq_true_eq]
    constructor
    · rintro ⟨x, hx, h⟩
      have h : PyData.eqvAll (Di x) (Di c) = true := h
      rw [eqvAll_ints, decide_eq_true_eq] at h
      rw [← h]; exact hx
    · intro h
      refine ⟨c, h, ?_⟩
      show PyData.eqvAll (Di c) (Di c) = true
      rw [eqvAll_ints, decide_eq_true rfl]
  rw [e]
  exact q
theorem num_mem {c : List Int} {cs : List (List Int)} (hc : Piece c) (hs : ∀ d ∈ cs, Piece d) : bnum c ∈ cs.map bnum ↔ c ∈ cs := by
  rw [List.mem_map]
  exact ⟨fun ⟨d, hd, e⟩ => (bnum_inj (hs d hd) hc).mp e ▸ hd, fun h => ⟨c, h, rfl⟩⟩
theorem dwFr {K : PySem.W.Frag} {H0 H H' : Hp} {st sc : Addr} {ns : List Int} {S : List Addr} (d0 : Dw K st sc ns H0) (k : Kp st H0 H) (d : Dw K st sc ns H) (f : Fr S H H') (b : ∀ x ∈ S, H0 x = none) : Kp st H0 H' ∧ Dw K st sc ns H' := by
  have k' : Kp st H0 H' := fun x o n e => f x o (fun m => by rw [b x m] at e; cases e) (k x o n e)
  obtain ⟨o, e0⟩ := d0.some
  have n : st ∉ S := fun m => by rw [b st m] at e0; cases e0
  obtain ⟨x, y, z, hx, hy, hz, e⟩ := d.s
  exact ⟨k', d0.kp k' ⟨x, y, z, hx, hy, hz, f _ _ n e⟩⟩
abbrev nm4V : List V := [.str "a", .str "b", .str "c", .str "d"]
theorem nm4_at (v : Int) (h0 : 0 ≤ v) (h1 : v < 4) : ∃ z : Str, atI nm4V v = some (.str z) := by
  have h : v = 0 ∨ v = 1 ∨ v = 2 ∨ v = 3 := by omega
  rcases h with rfl | rfl | rfl | rfl
  · exact ⟨_, rfl⟩
  · exact ⟨_, rfl⟩
  · exact ⟨_, rfl⟩
  · exact ⟨_, rfl⟩
theorem kp_frD {st : Addr} {D : List Addr} {H H' : Hp} (k : Kp st H H') (m : st ∈ D) : Fr D H H' := fun x o n e => k x o (fun z => n (by rw [z]; exact m)) e
/-- the law's state while the store is filled -/
structure Nv (K : PySem.W.Frag) (st sc : Addr) (ns : List Int) (nl a : Addr) (Hb H : Hp) (F : List Addr) (S : S0) (x y z : Nat) : Prop where
  k : Kp st Hb H
  d : Dw K st sc ns H
  n : H nl = some (.lst nm4V)
  s : Sto K (hid [st, nl] H) F a S
  f : ∀ b ∈ F, Hb b = none
  fl : S.fl.length ≤ x
  fb : ∀ r ∈ S.fl, isB r.2.1 ∧ r.2.1.length ≤ 16
  tl : S.tp.length ≤ y
  tb : ∀ r ∈ S.tp, r.2.length ≤ y
  al : S.at_.length ≤ z
  ab : ∀ r ∈ S.at_, isB r.2.2 ∧ r.2.2.length ≤ 16
section
variable {K : PySem.W.Frag} {st sc : Addr} {ns : List Int} {nl a : Addr} {Hb H H' : Hp} {F F' : List Addr} {S S' : S0} {x y z x' y' z' : Nat}
theorem Nv.ne (v : Nv K st sc ns nl a Hb H F S x y z) : nl ≠ st := fun e => by
  obtain ⟨_, _, _, _, _, _, h⟩ := v.d.s
  have n := v.n
  rw [e, h] at n
  cases n
theorem Nv.kp (v : Nv K st sc ns nl a Hb H F S x y z) (k : Kp st H H') (d : Dw K st sc ns H') : Nv K st sc ns nl a Hb H' F S x y z :=
  ⟨v.k.trans k, d, k _ _ v.ne v.n, v.s.same (hid_fr (kp_frD k (List.mem_cons_self ..))), v.f, v.fl, v.fb, v.tl, v.tb, v.al, v.ab⟩
theorem Nv.same (v : Nv K st sc ns nl a Hb H F S x y z) (k : Same H H') : Nv K st sc ns nl a Hb H' F S x y z := v.kp (Kp.of k) (v.d.same k)
theorem Nv.lists (v : Nv K st sc ns nl a Hb H F S x y z) : Al [st, nl] H := fun b m => by
  rcases List.mem_cons.mp m with e | m
  · obtain ⟨_, _, _, _, _, _, h⟩ := v.d.s
    rw [e]; exact ⟨_, h⟩
  · rw [List.mem_singleton.mp m]; exact ⟨_, v.n⟩
theorem Nv.fr (d0 : Dw K st sc ns Hb) (v : Nv K st sc ns nl a Hb H F S x y z) (f : Fr F H H') (s : Sto K (hid [st, nl] H') F' a S') (hF : ∀ b ∈ F', b ∈ F ∨ H b = none) (fl : S'.fl.length ≤ x') (fb : ∀ r ∈ S'.fl, isB r.2.1 ∧ r.2.1.length ≤ 16) (tl : S'.tp.length ≤ y') (tb : ∀ r ∈ S'.tp, r.2.length ≤ y') (al : S'.at_.length ≤ z') (ab : ∀ r ∈ S'.at_, isB r.2.2 ∧ r.2.2.length ≤ 16) : Nv K st sc ns nl a Hb H' F' S' x' y' z' := by
  obtain ⟨k', d'⟩ := dwFr d0 v.k v.d f v.f
  exact ⟨k', d', f _ _ (v.s.notin (by simp)) v.n, s, fun b m => (hF b m).elim (v.f b) fun h => v.k.free v.d.some h, fl, fb, tl, tb, al, ab⟩
theorem Nv.smal (v : Nv K st sc ns nl a Hb H F S 4 40 3) {ct : List Int} (hb : isB ct) (hl : ct.length ≤ 16) : Smal S (nums ct) :=
  ⟨by have := v.fl; omega, fun r h => Nat.le_trans (v.fb r h).2 (by decide), by have := v.al; omega, fun r h => Nat.le_trans (v.ab r h).2 (by decide), by rw [nums_len]; omega, nums_pos hb, fun r h => Nat.le_trans (v.tb r h) (by decide)⟩
theorem Nv.bytes (v : Nv K st sc ns nl a Hb H F S x y z) : BySt S := ⟨fun r h => (v.fb r h).1, fun r h => (v.ab r h).1⟩
end
mutual
def tupO : PyData → Bool
  | .tuple ds => tupOs ds
  | .list _ => false
  | .dict _ => false
  | _ => true
def tupOs : List PyData → Bool
  | [] => true
  | d :: ds => tupO d && tupOs ds
end
mutual
theorem dp_hid {K : PySem.W.Frag} {H : Hp} {D : List Addr} (n : ∀ d ∈ D, NT H d) : ∀ {v : V} {d : PyData}, Dp K H v d → tupO d = true → Dp K (hid D H) v d
  | _, _, .non, _ => .non
  | _, _, .bl b, _ => .bl b
  | _, _, .int i, _ => .int i
  | _, _, .str x, _ => .str x
  | _, _, .lst _ _, h => by cases h
  | _, _, .tup h1 h2, h => .tup (sqT_hid h1 n) (dpa_hid n h2 h)
theorem dpa_hid {K : PySem.W.Frag} {H : Hp} {D : List Addr} (n : ∀ d ∈ D, NT H d) : ∀ {v : List V} {d : List PyData}, DpAll K H v d → tupOs d = true → DpAll K (hid D H) v d
  | _, _, .nil, _ => .nil
  | _, _, .cons a b, h => .cons (dp_hid n a (Bool.and_eq_true_iff.mp h).1) (dpa_hid n b (Bool.and_eq_true_iff.mp h).2)
end
theorem tupOs_map {α : Type} (f : α → PyData) (h : ∀ x, tupO (f x) = true) : ∀ l : List α, tupOs (l.map f) = true
  | [] => rfl
  | x :: l => by
    show (tupO (f x) && tupOs (l.map f)) = true
    rw [h x, tupOs_map f h l]; rfl
theorem tupOs_ints : ∀ xs : List Int, tupOs (Di xs) = true
  | [] => rfl
  | x :: xs => by
    show (true && tupOs (Di xs)) = true
    rw [tupOs_ints xs]; rfl
theorem tupOs_vec : ∀ v : Vc, tupOs (Dv v) = true
  | [] => rfl
  | c :: v => by
    show (tupOs (Di [c.1, c.2]) && tupOs (Dv v)) = true
    rw [tupOs_vec v, tupOs_ints]; rfl
theorem Dur.hide {K : PySem.W.Frag} {H : Hp} {r : Addr} {S : S0} {D : List Addr} (h : Dur K H r S) (n : ∀ d ∈ D, NT H d) : Dur K (hid D H) r S := by
  obtain ⟨ys, zs, h1, h2, h3, h4, h5⟩ := h
  refine ⟨ys, zs, h1, h2, h3, h4, dp_hid n h5 ?_⟩
  have e1 := tupOs_map (durF S) (fun y => by simp [durF, tupO, tupOs, tupOs_ints]) ys
  have e2 := tupOs_map (durT S) (fun y => by simp [durT, tupO, tupOs, tupOs_ints]) zs
  have e3 := tupOs_map durA (fun y => by simp [durA, tupO, tupOs, tupOs_ints, tupOs_vec]) S.at_
  simp [durD, tupO, tupOs, e1, e2, e3]
/-- the keys of a dict made of pairs -/
theorem merge_keys : ∀ (l ks : List Int) (acc : List (Key × V)), acc.map (·.1) = ks.map Sum.inl → ks.Nodup → ∃ ks2 : List Int, (mergeK acc (l.map fun x => (Sum.inl x, V.bl true))).map (·.1) = ks2.map Sum.inl ∧ ks2.Nodup ∧ (∀ x, x ∈ ks2 ↔ x ∈ ks ∨ x ∈ l) ∧ ks2.length ≤ ks.length + l.length
  | [], ks, acc, h, n => ⟨ks, h, n, by simp, Nat.le_refl _⟩
  | b :: l, ks, acc, h, n => by
    have key : (b ∈ ks ∧ (putK acc (Sum.inl b) (V.bl true)).map (·.1) = ks.map Sum.inl) ∨ (b ∉ ks ∧ (putK acc (Sum.inl b) (V.bl true)).map (·.1) = (ks ++ [b]).map Sum.inl) := by
      unfold putK
      by_cases m : b ∈ ks
      · refine .inl ⟨m, ?_⟩
        have ha : (acc.any fun kv => decide (kv.1 = Sum.inl b)) = true := by
          have : (Sum.inl b : Key) ∈ acc.map (·.1) := by rw [h]; exact List.mem_map.mpr ⟨b, m, rfl⟩
          obtain ⟨kv, h1, h2⟩ := List.mem_map.mp this
          exact List.any_eq_true.mpr ⟨kv, h1, decide_eq_true h2⟩
        rw [if_pos ha, List.map_map, ← h]
        refine List.map_congr_left fun kv _ => ?_
        show (if kv.1 = Sum.inl b then (kv.1, V.bl true) else kv).1 = kv.1
        split <;> rfl
      · refine .inr ⟨m, ?_⟩
        have ha : ¬ (acc.any fun kv => decide (kv.1 = Sum.inl b)) = true := fun q => by
          obtain ⟨kv, h1, h2⟩ := List.any_eq_true.mp q
          have h2 := of_decide_eq_true h2
          have : (Sum.inl b : Key) ∈ acc.map (·.1) := List.mem_map.mpr ⟨kv, h1, h2⟩
          rw [h] at this
          obtain ⟨y, hy, e⟩ := List.mem_map.mp this
          cases e
          exact m hy
        rw [if_neg ha, List.map_append, h, List.map_append]
        rfl
    rcases key with ⟨m, e⟩ | ⟨m, e⟩
    · obtain ⟨ks2, g1, g2, g3, g4⟩ := merge_keys l ks _ e n
      refine ⟨ks2, g1, g2, fun x => ?_, by rw [List.length_cons]; omega⟩
      rw [g3, List.mem_cons]
      exact ⟨fun q => q.imp id .inr, fun q => q.elim .inl fun q => q.elim (fun e => .inl (by rw [e]; exact m)) .inr⟩
    · have n2 : (ks ++ [b]).Nodup := by
        rw [List.nodup_append]
        refine ⟨n, by simp, fun y hy z hz => ?_⟩
        rw [List.mem_singleton.mp hz]
        exact fun e => m (by rw [← e]; exact hy)
      obtain ⟨ks2, g1, g2, g3, g4⟩ := merge_keys l (ks ++ [b]) _ e n2
      refine ⟨ks2, g1, g2, fun x => ?_, by rw [List.length_append, List.length_singleton] at g4; rw [List.length_cons]; omega⟩
      rw [g3, List.mem_append, List.mem_singleton, List.mem_cons, or_assoc]
theorem sorted_two {ks : List Int} : ∀ {out ys : List Int}, out.Pairwise (· < ·) → ys.Pairwise (· ≤ ·) → ks.Nodup → ys.Perm ks → (∀ x, x ∈ out ↔ x ∈ ks) → out = ys := fun {out ys} h1 h2 h3 h4 h5 => by
  have n1 : out.Nodup := h1.imp fun h => Int.ne_of_lt h
  have n2 : ys.Nodup := h4.nodup_iff.mpr h3
  have p : out.Perm ys := (List.perm_ext_iff_of_nodup n1 n2).mpr fun x => by rw [h5, h4.mem_iff]
  exact p.eq_of_pairwise (fun a b _ _ h3 h4 => Int.le_antisymm h3 h4) (h1.imp fun h => Int.le_of_lt h) h2
theorem Ent.hide {K : PySem.W.Frag} {D : List Addr} {H : Hp} {a : Addr} {e : En} (h : Ent K H false a e) (n : ∀ d ∈ D, NT H d) (n2 : ∀ d ∈ D, ∃ xs, H d = some (.lst xs)) : Ent K (hid D H) false a e := by
  obtain ⟨dx, v, m, b, fs, h1, h2, h3, h4, h5⟩ := h
  exact ⟨dx, v, m, b, fs, by rw [hid_at fun z => by obtain ⟨xs, q⟩ := n2 _ z; rw [h1] at q; cases q]; exact h1, h2, ⟨vec_hid h3.1 n, fun z => nomatch z⟩, sqT_hid h4 n, sqT_hid h5 n⟩
/-- the law's state while the entries are made -/
structure Lv (K : PySem.W.Frag) (st sc : Addr) (ns : List Int) (nl a el r1 : Addr) (Hb H : Hp) (F : List Addr) (S : S0) (es : List (Addr × En)) : Prop where
  k : Kp st Hb H
  d : Dw K st sc ns H
  n : H nl = some (.lst nm4V)
  s : Sto K (hid [st, nl, el] H) F a S
  u : Dur K (hid [st, nl, el] H) r1 S
  e : H el = some (.lst (es.map fun p => V.ref p.1))
  x : ∀ p ∈ es, Ent K (hid [st, nl, el] H) false p.1 p.2 ∧ Smal S p.2.bl ∧ p.2.bl.length ≤ 4
section
variable {K : PySem.W.Frag} {st sc : Addr} {ns : List Int} {nl a el r1 : Addr} {Hb H H' : Hp} {F : List Addr} {S : S0} {es : List (Addr × En)}
theorem Lv.kp (v : Lv K st sc ns nl a el r1 Hb H F S es) (n1 : nl ≠ st) (n2 : el ≠ st) (k : Kp st H H') (d : Dw K st sc ns H') : Lv K st sc ns nl a el r1 Hb H' F S es := by
  have hs : Same (hid [st, nl, el] H) (hid [st, nl, el] H') := hid_fr (kp_frD k (List.mem_cons_self ..))
  exact ⟨v.k.trans k, d, k _ _ n1 v.n, v.s.same hs, v.u.same hs, k _ _ n2 v.e, fun p m => ⟨(v.x p m).1.same hs, (v.x p m).2⟩⟩
theorem Lv.same (v : Lv K st sc ns nl a el r1 Hb H F S es) (n1 : nl ≠ st) (n2 : el ≠ st) (k : Same H H') : Lv K st sc ns nl a el r1 Hb H' F S es := v.kp n1 n2 (Kp.of k) (v.d.same k)
theorem Lv.lists (v : Lv K st sc ns nl a el r1 Hb H F S es) : Al [st, nl, el] H := fun b m => by
  rcases List.mem_cons.mp m with e | m
  · obtain ⟨_, _, _, _, _, _, h⟩ := v.d.s
    rw [e]; exact ⟨_, h⟩
  rcases List.mem_cons.mp m with e | m
  · rw [e]; exact ⟨_, v.n⟩
  · rw [List.mem_singleton.mp m]; exact ⟨_, v.e⟩
theorem Lv.add (d0 : Dw K st sc ns Hb) (v : Lv K st sc ns nl a el r1 Hb H F S es) (n1 : nl ≠ el) (n2 : el ≠ st) (hb : Hb el = none) {ea : Addr} {e : En} (h : Ent K H false ea e) (hm : Smal S e.bl) (hl : e.bl.length ≤ 4) : Lv K st sc ns nl a el r1 Hb (upd H el (.lst ((es.map fun p => V.ref p.1) ++ [.ref ea]))) F S (es ++ [(ea, e)]) := by
  have m : el ∈ [st, nl, el] := by simp
  refine ⟨v.k.mut hb, Dw.mut d0 v.d hb v.k, by rw [upd_ne n1]; exact v.n, by rw [hid_upd_in m]; exact v.s, by rw [hid_upd_in m]; exact v.u, by rw [upd_same, List.map_append]; rfl, fun p hp => ?_⟩
  · rw [hid_upd_in m]
    rcases List.mem_append.mp hp with hp | hp
    · exact v.x p hp
    · rw [List.mem_singleton.mp hp]
      exact ⟨h.hide v.lists.nt v.lists, hm, hl⟩
end
local macro_rules | `(tactic| walk_at "dr") => `(tactic| first
  | assumption
  | exact Dr.same (by assumption) (same_new (by assumption))
  | exact Dr.same (Dr.same (by assumption) (same_new (by assumption))) (same_new (by assumption)))
local macro_rules | `(tactic| walk_at "ar") => `(tactic| first | omega | (simp only [List.length_cons, List.length_nil, List.length_map, List.length_append]; omega) | (simp only [List.length_cons, List.length_nil, List.length_map, List.length_append] at *; omega) | decide | assumption)
local macro_rules | `(tactic| walk_at "sl") => `(tactic| first
  | exact Dr.seq (by assumption)
  | assumption
  | exact SqL.of (by assumption)
  | exact SqL.of upd_same)
local macro_rules | `(tactic| walk_at "slt") => `(tactic| first
  | assumption
  | exact SqT.of (by assumption)
  | exact SqT.of upd_same)
local macro_rules | `(tactic| walk_at "size") => `(tactic| first
  | assumption
  | (refine sz_of ?_; first | decide | omega | (simp only [List.length_cons, List.length_nil, List.length_map, List.length_append] at *; omega)))
local macro_rules | `(tactic| walk_at "seq") => `(tactic| first
  | assumption
  | exact .inl (Dr.seq (by assumption))
  | exact .inl (by assumption)
  | exact .inl (SqL.of (by assumption))
  | exact .inr (by assumption)
  | exact .inr (SqT.of (by assumption)))
local macro_rules | `(tactic| walk_at "cond") => `(tactic| first
  | ((with_reducible show CMul _ _); first | exact .inr ⟨by decide, by decide⟩ | exact .inl ⟨by decide, by decide⟩ | exact .inr ⟨by omega, by omega⟩ | exact .inl ⟨by omega, by omega⟩)
  | ((with_reducible show CDivW _ _); first | exact ⟨by decide, by decide⟩ | exact wide_div (b := 60) (by omega) (by omega) (by decide) (by decide))
  | ((with_reducible show CDiv _ _); first | exact ⟨by decide, by decide⟩ | exact ⟨by omega, by omega⟩)
  | ((with_reducible show CPow _ _); exact ⟨by decide, by decide, by decide⟩)
  | (show (0 : Int) < _; first | decide | omega)
  | (show (0 : Int) ≤ _; first | decide | omega))
local macro_rules | `(tactic| walk_at "st1") => `(tactic| first
  | ((with_reducible show tVar _ _ _ _); refine e_var rfl ?_)
  | ((with_reducible show tC _ _ _ _); refine e_c ?_)
  | ((with_reducible show tOp _ _ _ _ _ _); refine e_op ?_)
  | ((with_reducible show rI0 _ _ _ _ _); refine e_I0 ?_)
  | ((with_reducible show rI _ _ _ _ _ _); refine e_I (by walk_at "cond") ?_)
  | ((with_reducible show rEq (V.int _) (V.int _) _ _); refine e_eqI ?_)
  | ((with_reducible show rNe (V.int _) (V.int _) _ _); refine e_neI ?_)
  | ((with_reducible show rEq (V.str _) (V.str _) _ _); refine e_eqS ?_)
  | ((with_reducible show rNe (V.str _) (V.str _) _ _); refine e_neS ?_)
  | ((with_reducible show rEq (V.bl _) (V.bl _) _ _); refine e_eqB ?_)
  | ((with_reducible show rNe (V.bl _) (V.bl _) _ _); refine e_neB ?_)
  | ((with_reducible show rEq _ _ _ _); refine e_eq rfl ?_)
  | ((with_reducible show rNe _ _ _ _); refine e_ne rfl ?_)
  | ((with_reducible show tTest _ _ _ _); refine e_test ?_)
  | ((with_reducible show tB _ _ _ _); refine e_B ?_)
  | ((with_reducible show ∃ k, V.bl _ = V.bl k ∧ _); refine e_ex ?_)
  | ((with_reducible show ∃ k, V.int _ = V.int k ∧ _); refine e_exI ?_)
  | ((with_reducible show tAnd _ _ _ _ _); refine e_and ?_)
  | ((with_reducible show tOr _ _ _ _ _); refine e_or ?_)
  | ((with_reducible show tNot _ _ _ _); refine e_not ?_)
  | ((with_reducible show tYes _ _ _); refine e_yes ?_))
local macro_rules | `(tactic| walk_at "st2") => `(tactic| first
  | ((with_reducible show tAndV _ _ _ _ _); refine e_andV ?_)
  | ((with_reducible show tOrV _ _ _ _ _); refine e_orV ?_)
  | ((with_reducible show tNotV _ _ _ _); refine e_notV ?_)
  | ((with_reducible show tIf _ _ _ _ _ _); refine e_if ?_)
  | ((with_reducible show tChain _ _ _ _ _ _ _ _); refine e_chain ?_)
  | ((with_reducible show tSeq _ _ _ _ _); refine e_seq ?_)
  | ((with_reducible show tNext _ _ _); refine e_next ?_)
  | ((with_reducible show tBreak _ _ _); refine e_break ?_)
  | ((with_reducible show tCont _ _ _); refine e_cont ?_)
  | ((with_reducible show tDrop _ _ _ _); refine e_drop ?_)
  | ((with_reducible show tRet _ _ _ _); refine e_ret ?_)
  | ((with_reducible show tRetN _ _ _); refine e_retN ?_)
  | ((with_reducible show tIfS _ _ _ _ _ _); refine e_ifS ?_)
  | ((with_reducible show tAsg _ _ _ _ _); refine e_asg ?_)
  | ((with_reducible show gName _ _ _ _ _); refine e_name ?_)
  | ((with_reducible show gSub _ _ _ _ _ _ _); refine e_sub ?_)
  | ((with_reducible show tNil _ _ _); refine e_nil ?_)
  | ((with_reducible show tCons _ _ _ _ _); refine e_cons ?_)
  | ((with_reducible show tCall _ _ _ _ _ _ _); refine e_call ?_)
  | ((with_reducible show tCB _ _ _ _ _); refine e_CB ?_)
  | ((with_reducible show tTup _ _ _ _); refine e_tup ?_)
  | ((with_reducible show tLst _ _ _ _); refine e_lst ?_)
  | ((with_reducible show tSl _ _ _ _ _ _ _); refine e_sl ?_)
  | ((with_reducible show tNoPart _ _ _); refine e_noP ?_)
  | ((with_reducible show tPart _ _ _ _); refine e_part ?_)
  | ((with_reducible show tBM _ _ _ _ _ _ _ _); refine e_bm ?_)
  | ((with_reducible show tFor _ _ _ _ _ _); refine e_for ?_)
  | ((with_reducible show iList _ _ _ _ _); refine e_iList ?_)
  | ((with_reducible show iTup _ _ _ _ _); refine e_iTup ?_)
  | ((with_reducible show iStr _ _ _ _); refine e_iStr ?_)
  | ((with_reducible show iRng1 _ _ _ _); refine e_iRng1 ?_)
  | ((with_reducible show iRng2 _ _ _ _); refine e_iRng2 ?_)
  | ((with_reducible show (∃ i', [V.int _] = [V.int i'] ∧ _) ∨ ∃ k, [V.int _] = [V.bl k] ∧ _); refine Or.inl ⟨_, rfl, ?_⟩)
  | ((with_reducible show ∃ p ys, [V.ref _] = [V.ref p] ∧ (SqL _ _ p ys ∨ SqT _ _ p ys) ∧ _); refine ⟨_, _, rfl, (by walk_at "seq"), ?_⟩)
  | ((with_reducible show tLc _ _ _ _ _ _ _ _); refine e_lc ?_)
  | ((with_reducible show tM0 _ _ _ _ _); refine e_m0 ?_)
  | ((with_reducible show tM1 _ _ _ _ _ _); refine e_m1 ?_)
  | ((with_reducible show ∃ k, V.str _ = V.str k ∧ _); refine e_exS ?_)
  | ((with_reducible show ∃ k, V.ref _ = V.ref k ∧ (∃ xs, SqL _ _ k xs) ∧ _); refine e_exR (by walk_at "sl") ?_)
  | ((with_reducible show ∃ k, V.ref _ = V.ref k ∧ (∃ xs, SqT _ _ k xs) ∧ _); refine e_exRT (by walk_at "slt") ?_)
  | ((with_reducible show ∃ j, [V.int _] = [V.int j] ∧ _ ≤ j ∧ j < _ ∧ _); refine e_rng1 (by omega) (by omega) ?_)
  | ((with_reducible show ∃ i j, [V.int _, V.int _] = [V.int i, V.int j] ∧ _ ∧ _); refine e_rng2 (by omega) ?_)
  | ((with_reducible show ∃ z', [V.str _] = [V.str z'] ∧ z'.length ≤ sizeLine ∧ _); refine ⟨_, rfl, (by walk_at "size"), ?_⟩)
  | ((with_reducible show (∃ a, V.str _ = V.str a) ∧ _); refine ⟨⟨_, rfl⟩, ?_⟩)
  | ((with_reducible show rSlS (V.str _) _ _ _ _); refine e_slS (by walk_at "size") ?_)
  | ((with_reducible show wipe _ _ = wipe _ _ ∧ _); refine ⟨rfl, ?_⟩)
  | ((with_reducible show List.length _ ≤ sizeLine ∧ ∀ p, _); refine ⟨(by walk_at "size"), fun p hp => ?_⟩)
  | ((with_reducible show rIsi _ _ _ _); first | refine isi_bb ?_ | refine isi_ib ?_ | refine isi_bi ?_ | refine isi_ii ?_ | refine isi_tt (by assumption) ?_ | refine isi_ll (by assumption) ?_)
  | ((with_reducible show spDraw _ _ _ _ _); refine ⟨_, _, _, rfl, _, _, _, _, rfl, rfl, rfl, (by walk_at "dr"), (by walk_at "ar"), (by walk_at "ar"), ?_⟩)
  | ((with_reducible show tUn _ _ _ _ _); refine e_un ?_)
  | ((with_reducible show rU _ (V.int _) _ _); refine e_U ?_)
  | ((with_reducible show ∃ i, [V.int _] = [V.int i] ∧ _); refine ⟨_, rfl, ?_⟩)
  | ((with_reducible show gTup _ _ _ _ _ _ _); refine ⟨_, _, rfl, (by walk_at "slt"), rfl, ?_⟩)
  | ((with_reducible show gCons _ _ _ _ _ _); refine ⟨_, _, rfl, ?_⟩)
  | ((with_reducible show gNil _ _ _ _); refine ⟨rfl, ?_⟩)
  | ((with_reducible show tAug _ _ _ _ _ _); refine e_aug rfl ?_)
  | ((with_reducible show if true = true then _ else _); refine i_T ?_)
  | ((with_reducible show if false = true then _ else _); refine i_F ?_))
local macro_rules | `(tactic| walk_at "st") => `(tactic| first | walk_at "st1" | walk_at "st2" | (dsimp only [List.append_nil, List.nil_append, List.cons_append, Bool.not_true, Bool.not_false]))
local macro_rules | `(tactic| walk_at "go") => `(tactic| repeat walk_at "st")
local macro_rules | `(tactic| walk_at "st") => `(tactic| first
  | ((with_reducible show iRevR _ _ _ _); refine e_iRevR ?_)
  | ((with_reducible show tRg1 _ _ _ _); refine e_rg1 ?_)
  | ((with_reducible show tRg2 _ _ _ _ _); refine e_rg2 ?_)
  | ((with_reducible show iEnum _ _ _ _ _); refine e_iEnum ?_)
  | ((with_reducible show iEnumT _ _ _ _ _); refine e_iEnumT ?_)
  | ((with_reducible show iRng3 _ _ _ _); refine e_iRng3 ?_)
  | ((with_reducible show ∃ p ys, [V.ref _] = [V.ref p] ∧ SqL _ _ p ys ∧ _); refine ⟨_, _, rfl, (by walk_at "sl"), ?_⟩)
  | ((with_reducible show ∃ p ys, [V.ref _] = [V.ref p] ∧ SqT _ _ p ys ∧ _); refine ⟨_, _, rfl, (by walk_at "slt"), ?_⟩)
  | ((with_reducible show tyV _ "list" (V.ref _) _ ∧ _); refine ⟨.inl ⟨rfl, _, (by walk_at "sl")⟩, ?_⟩)
  | ((with_reducible show ∃ a b, V.bl _ = V.bl a ∧ V.bl _ = V.bl b ∧ _); refine ⟨_, _, rfl, rfl, ?_⟩)
  | ((with_reducible show ∃ c, V.bl _ = V.bl c ∧ _); refine ⟨_, rfl, ?_⟩)
  | ((with_reducible show if (!true) = true then _ else _); refine i_F ?_)
  | ((with_reducible show if (!false) = true then _ else _); refine i_T ?_))
local macro_rules | `(tactic| walk_at "ent") => `(tactic| first
  | assumption
  | exact Ent.same (by assumption) (by assumption))
local macro_rules | `(tactic| walk_at "st") => `(tactic| first
  | ((with_reducible show tMake _ _ _ _ _ _ _ _); refine e_tMake ?_)
  | ((with_reducible show tFld _ _ _ _ _ _); refine e_tFld ?_)
  | ((with_reducible show sFld _ _ _ _ _ _ _); refine e_sFld ?_)
  | ((with_reducible show tTupP _ _ _ _); refine e_tupP ?_)
  | ((with_reducible show tJs (_ :: _) _ _ _ _); refine e_js ?_)
  | ((with_reducible show tJs [] _ _ _ _); refine e_js0 ?_)
  | ((with_reducible show tFmt _ _ _ _); refine e_fmt ?_)
  | ((with_reducible show tMaxF _ _ _ _ _ _); refine e_maxF ?_)
  | ((with_reducible show ∃ a C dx fs v, V.ref _ = V.ref a ∧ _); first
    | refine f_name (by assumption) (by walk_at "ent") ?_
    | refine f_height (by assumption) (by walk_at "ent") ?_
    | refine f_deleted (by assumption) (by walk_at "ent") ?_
    | refine f_time (by assumption) (by walk_at "ent") ?_
    | refine f_vector (by assumption) (by walk_at "ent") fun v hv => ?_
    | refine f_maker (by assumption) (by walk_at "ent") fun v hv => ?_
    | refine f_blocks (by assumption) (by walk_at "ent") fun v hv => ?_))
local macro_rules | `(tactic| walk_at "st") => `(tactic| first
  | ((with_reducible show tDGet _ _ _ _ _); refine e_tDGet ?_)
  | ((with_reducible show tDGet2 _ _ _ _ _ _); refine e_tDGet2 ?_)
  | ((with_reducible show sDPut _ _ _ _ _ _); refine e_sDPut ?_)
  | ((with_reducible show tDIn _ _ _ _ _); refine e_tDIn ?_)
  | ((with_reducible show tDNotIn _ _ _ _ _); refine e_tDNotIn ?_)
  | ((with_reducible show tDSetd _ _ _ _ _ _); refine e_tDSetd ?_)
  | ((with_reducible show tDc _ _ _ _ _ _ _ _ _); refine e_dc ?_)
  | ((with_reducible show tLc2 _ _ _ _ _ _ _ _ _ _ _ _); refine e_lc2 ?_)
  | ((with_reducible show tLockE _ _ _ _); refine e_lockE ?_)
  | ((with_reducible show iItems _ _ _ _); refine e_iItems ?_)
  | ((with_reducible show sFldAug _ _ _ _ _ _ _ _); refine e_sFldAug ?_)
  | ((with_reducible show tMeth _ _ _ _ _ _ _ _ _ _); refine e_tMeth ?_))
local macro_rules | `(tactic| walk_at "sto") => `(tactic| first
  | assumption
  | exact Sto.same (by assumption) (by assumption)
  | exact Sto.sub (by assumption))
local macro_rules | `(tactic| walk_at "st") => `(tactic| first
  | ((with_reducible show ∃ a C dx fs v, V.ref _ = V.ref a ∧ _); first
    | refine s_files (by assumption) (by assumption) ?_
    | refine s_temps (by assumption) (by assumption) ?_
    | refine s_attic (by assumption) (by assumption) ?_
    | refine s_log (by assumption) (by assumption) ?_
    | refine s_nlog (by assumption) (by assumption) ?_
    | refine s_budget (by assumption) (by assumption) ?_
    | refine s_done (by assumption) (by assumption) ?_)
  | ((with_reducible show if (Option.isSome (some _)) = true then _ else _); refine i_some ?_)
  | ((with_reducible show if (Option.isSome none) = true then _ else _); refine i_none ?_)
  | ((with_reducible show if (!(Option.isSome (some _))) = true then _ else _); refine i_nsome ?_)
  | ((with_reducible show if (!(Option.isSome none)) = true then _ else _); refine i_nnone ?_)
  | ((with_reducible show ∃ a dx fs, V.ref _ = V.ref a ∧ _); refine s_meth (by walk_at "sto") (by decide) ?_))
section
variable {P : Program} {w : World} {K : PySem.W.Frag} {mg : Str → Option Value} {base : Heap}
theorem ok_block_number (T : Txt K mg)   {f : Addr} {fd : FuncData} (F : FnP K "block_number" s_block_number f fd) : FnOk P w K mg base CX0 1 f fd ["data"] (sp_block_number K) := by
  refine F.ok sc_block_number (fun vs H Q E h => ?_) (fun cdv A outer s H vs Q E hr h => ?_)
  · obtain ⟨_, rfl, _⟩ := h
    rfl
  · have S := sc_block_number
    refine ⟨_, PSs.nox (pss_cons (ps_set (i := 1) S.nd rfl (by first | exact .inl rfl | exact .inr rfl) pe_int)
    (pss_cons (ps_for PassesOwn.never rfl (pi_list (pv 0)) (pg_name (i := 2) S.nd rfl (by first | exact .inl rfl | exact .inr rfl))
    (pss_one (ps_set (i := 1) S.nd rfl (by first | exact .inl rfl | exact .inr rfl) (pe_op op_add (pe_op op_mul (pv 1) pe_int) (pv 2)))))
    (pss_one (ps_ret (pv 1))))), ?_⟩
    try dsimp only [cxOf, Cx.nox]
    obtain ⟨_, rfl, p, xs, rfl, hS, k⟩ := h
    walk_at "go"
    refine for_ints (ns := xs) (fun pre σ H1 => (∃ v2, σ = [some (.ref p), some (.int (bnum pre)), v2]) ∧ H1 = H) ⟨⟨_, rfl⟩, rfl⟩ (fun pre σ H1 q => by rw [q.2]; exact hS) (fun pre x post σ H1 e q => ?_) (fun σ H1 q => ?_)
    · obtain ⟨⟨v2, rfl⟩, rfl⟩ := q
      walk_at "go"
      refine ⟨⟨some (.int x), ?_⟩, rfl⟩
      have e2 : bnum (pre ++ [x]) = bnum pre * 256 + x := by
        unfold bnum
        rw [List.foldl_append]
        rfl
      rw [e2]
      rfl
    · obtain ⟨⟨v2, rfl⟩, rfl⟩ := q
      walk_at "go"
      exact k
theorem ok_block_size (T : Txt K mg)   {f : Addr} {fd : FuncData} (F : FnP K "block_size" s_block_size f fd) : FnOk P w K mg base CX0 1 f fd ["number"] (sp_block_size K) := by
  refine F.ok sc_block_size (fun vs H Q E h => ?_) (fun cdv A outer s H vs Q E hr h => ?_)
  · obtain ⟨_, rfl, _⟩ := h
    rfl
  · have S := sc_block_size
    refine ⟨_, PSs.nox (pss_cons (ps_for PassesOwn.never rfl (pi_range2 (by rfl) T.f_range (pa_cons pe_int (pa_cons (pe_op op_add (C8.pe_gc (by rfl) T.c_BLOCK) pe_int) pa_nil))) (pg_name (i := 1) S.nd rfl (by first | exact .inl rfl | exact .inr rfl))
    (pss_one (ps_if (pt_cmpR op_eq (pe_op op_shr (pv 0) (pe_op op_mul pe_int (pv 1))) pe_int (nomark _))
      (pss_one (ps_ret (pv 1)))
      pss_nil)))
    (pss_one (ps_ret pe_int))), ?_⟩
    try dsimp only [cxOf, Cx.nox]
    obtain ⟨_, rfl, n, rfl, k⟩ := h
    walk_at "go"
    refine for_rng (fun i σ H1 => (∃ v1, σ = [some (.int n), v1]) ∧ H1 = H ∧ (1 ≤ i → ¬ n / 256 = 1) ∧ (2 ≤ i → ¬ n / 65536 = 1) ∧ (3 ≤ i → ¬ n / 16777216 = 1) ∧ (4 ≤ i → ¬ n / 4294967296 = 1)) ⟨⟨_, rfl⟩, rfl, by omega, by omega, by omega, by omega⟩ (fun i σ H1 hi q => ?_) (fun σ H1 q => ?_)
    · obtain ⟨⟨v1, rfl⟩, rfl, q1, q2, q3, q4⟩ := q
      have hi4 : i < 4 := hi
      walk_at "go"
      match i, hi4 with
      | 0, _ =>
        show if decide (n / 256 = 1) = true then _ else _
        refine i_d (fun h1 => ?_) (fun h1 => ?_)
        · walk_at "go"
          have e : bsize n = 1 := by unfold bsize; rw [if_pos h1]
          rw [e] at k
          exact k
        · walk_at "go"
          exact ⟨⟨_, rfl⟩, rfl, fun _ => h1, by omega, by omega, by omega⟩
      | 1, _ =>
        show if decide (n / 65536 = 1) = true then _ else _
        refine i_d (fun h1 => ?_) (fun h1 => ?_)
        · walk_at "go"
          have e : bsize n = 2 := by unfold bsize; rw [if_neg (q1 (by omega)), if_pos h1]
          rw [e] at k
          exact k
        · walk_at "go"
          exact ⟨⟨_, rfl⟩, rfl, fun _ => q1 (by omega), fun _ => h1, by omega, by omega⟩
      | 2, _ =>
        show if decide (n / 16777216 = 1) = true then _ else _
        refine i_d (fun h1 => ?_) (fun h1 => ?_)
        · walk_at "go"
          have e : bsize n = 3 := by unfold bsize; rw [if_neg (q1 (by omega)), if_neg (q2 (by omega)), if_pos h1]
          rw [e] at k
          exact k
        · walk_at "go"
          exact ⟨⟨_, rfl⟩, rfl, fun _ => q1 (by omega), fun _ => q2 (by omega), fun _ => h1, by omega⟩
      | 3, _ =>
        show if decide (n / 4294967296 = 1) = true then _ else _
        refine i_d (fun h1 => ?_) (fun h1 => ?_)
        · walk_at "go"
          have e : bsize n = 4 := by unfold bsize; rw [if_neg (q1 (by omega)), if_neg (q2 (by omega)), if_neg (q3 (by omega)), if_pos h1]
          rw [e] at k
          exact k
        · walk_at "go"
          exact ⟨⟨_, rfl⟩, rfl, fun _ => q1 (by omega), fun _ => q2 (by omega), fun _ => q3 (by omega), fun _ => h1⟩
    · obtain ⟨⟨v1, rfl⟩, rfl, q1, q2, q3, q4⟩ := q
      walk_at "go"
      have e : bsize n = 0 := by unfold bsize; rw [if_neg (q1 (by decide)), if_neg (q2 (by decide)), if_neg (q3 (by decide)), if_neg (q4 (by decide))]
      rw [e] at k
      exact k
theorem ok_block_bytes (T : Txt K mg)  (c_block_size : Cal P w K mg base 1 "block_size" (sp_block_size K)) {f : Addr} {fd : FuncData} (F : FnP K "block_bytes" s_block_bytes f fd) : FnOk P w K mg base CX0 2 f fd ["number"] (sp_block_bytes K) := by
  refine F.ok sc_block_bytes (fun vs H Q E h => ?_) (fun cdv A outer s H vs Q E hr h => ?_)
  · obtain ⟨_, rfl, _⟩ := h
    rfl
  · have S := sc_block_bytes
    refine ⟨_, PSs.nox (pss_cons (ps_set (i := 1) S.nd rfl (by first | exact .inl rfl | exact .inr rfl) (pe_c c_block_size hr (by decide) (by rfl) (pa_cons (pv 0) pa_nil)))
    (pss_cons (ps_if (pt_cmpR op_eq (pv 1) pe_int (nomark _))
    (pss_one ps_never)
    pss_nil)
    (pss_one (ps_ret (pe_lc (own := [("behind", 2)]) (g := gName 2) (tt := tYes) rfl S.nd (pi_revR (by rfl) T.f_reversed (prg_1 (by rfl) T.f_range (pv 1))) (blkOk_by (N := N_block_bytes) (sc := defScope s_block_bytes) (by decide +kernel)) (fun _ _ _ _ _ => (pg_name (i := 2) S.nd rfl (by first | exact .inl rfl | exact .inr rfl))) (fun _ _ _ _ _ => pts_nil) (fun _ _ _ _ _ => (pe_op op_andM (pe_op op_shr (pv 0) (pe_op op_mul pe_int (pv 2))) pe_int))))))), ?_⟩
    try dsimp only [cxOf, Cx.nox]
    obtain ⟨_, rfl, n, rfl, hn, k⟩ := h
    walk_at "go"
    refine ⟨_, rfl, n, rfl, ?_⟩
    walk_at "go"
    refine i_d (fun h1 => ?_) (fun h1 => ?_)
    · exfalso; omega
    have h4 := (bsize_le n).2
    walk_at "go"
    refine ⟨by omega, by omega, by omega, by omega, ?_⟩
    intro D hD
    refine lc_map_rngC hD (by omega) (fun i => .int ((bbytes n).getD i 0)) (fun i H2 C E hi s2 hC => ?_) (fun H2 s2 e2 => ?_)
    · walk_at "go"
      refine ⟨_, 8, rfl, rfl, ?_⟩
      rw [byte_at hn hi]
      exact hC H2 (Same.refl H2)
    · refine k D H2 hD s2 ?_
      rw [e2, show (bsize n - 0).toNat = (bbytes n).length by rw [bbytes_length hn]; omega, map_getD]
theorem ok_split (T : Txt K mg)  (c_block_number : Cal P w K mg base 1 "block_number" (sp_block_number K)) {f : Addr} {fd : FuncData} (F : FnP K "split" s_split f fd) : FnOk P w K mg base CX0 2 f fd ["content"] (sp_split K) := by
  refine F.ok sc_split (fun vs H Q E h => ?_) (fun cdv A outer s H vs Q E hr h => ?_)
  · obtain ⟨_, rfl, _⟩ := h
    rfl
  · have S := sc_split
    refine ⟨_, PSs.nox (pss_one (ps_ret (pe_callTy call_tuple_of (by rfl) T.f_tuple (by first | rfl | decide +kernel) (pa_cons (pe_lc (own := [("at", 1)]) (g := gName 1) (tt := tYes) rfl S.nd (pi_range3 (by rfl) T.f_range (pa_cons pe_int (pa_cons (pe_callB call_len_seq (by rfl) T.f_len (by first | rfl | decide +kernel) (pa_cons (pv 0) pa_nil)) (pa_cons (C8.pe_gc (by rfl) T.c_BLOCK) pa_nil)))) (blkOk_by (N := N_split) (sc := defScope s_split) (by decide +kernel)) (fun _ _ _ _ _ => (pg_name (i := 1) S.nd rfl (by first | exact .inl rfl | exact .inr rfl))) (fun _ _ _ _ _ => pts_nil) (fun _ _ _ _ _ => (pe_c c_block_number hr (by decide) (by rfl) (pa_cons (pe_slice (slL K) (pv 0) (po_some (pv 1)) (po_some (pe_op op_add (pv 1) (C8.pe_gc (by rfl) T.c_BLOCK)))) pa_nil)))) pa_nil)))), ?_⟩
    try dsimp only [cxOf, Cx.nox]
    obtain ⟨_, rfl, p, xs, rfl, hS, hl, k⟩ := h
    walk_at "go"
    refine ⟨_, _, _, _, rfl, range4 (by omega) (by rw [List.length_map]; omega), ?_⟩
    intro D hD
    refine lc_map_rngC hD (by rw [List.length_map]; omega) (fun i => .int (bnum ((xs.drop (4 * i)).take 4))) (fun i H2 C E hi s2 hC => ?_) (fun H2 s2 e2 => ?_)
    · walk_at "go"
      refine e_slL (s2.seq hS) fun r hr => ?_
      rw [cut_chunk]
      walk_at "go"
      refine ⟨_, rfl, r, _, rfl, SqL.of upd_same, ?_⟩
      exact hC _ (same_new hr)
    · walk_at "go"
      refine ⟨D, _, rfl, .inl ⟨SqL.of e2, fun l hl2 => ?_⟩⟩
      refine k l _ (s2.free hl2) (s2.trans (same_new hl2)) ?_
      rw [upd_same, nums_range]
      have e : (((xs.map V.int).length : Nat) : Int).toNat = xs.length := by rw [List.length_map]; omega
      rw [e]
theorem ok_near_places (T : Txt K mg)  (c_near_rows : Cal P w K mg base 4 "_near_rows" (sp_near_rows K)) {f : Addr} {fd : FuncData} (F : FnP K "near_places" s_near_places f fd) : FnOk P w K mg base CX0 5 f fd ["store", "entry"] (sp_near_places K) := by
  refine F.ok sc_near_places (fun vs H Q E h => ?_) (fun cdv A outer s H vs Q E hr h => ?_)
  · obtain ⟨_, _, rfl, _⟩ := h
    rfl
  · have S := sc_near_places
    refine ⟨_, PSs.nox (pss_cons (ps_set (i := 2) S.nd rfl (by first | exact .inl rfl | exact .inr rfl) pe_dnewK)
    (pss_cons (ps_for PassesOwn.never rfl (pi_list (pe_c c_near_rows hr (by decide) (by rfl) (pa_cons (pv 0) (pa_cons (pv 1) pa_nil)))) (pg_tup rfl (pgs_cons (pg_name (i := 3) S.nd rfl (by first | exact .inl rfl | exact .inr rfl)) (pgs_cons (pg_name (i := 4) S.nd rfl (by first | exact .inl rfl | exact .inr rfl)) (pgs_cons (pg_name (i := 5) S.nd rfl (by first | exact .inl rfl | exact .inr rfl)) pgs_nil))))
    (pss_one (ps_for PassesOwn.never rfl (pi_enumT (by rfl) T.f_enumerate (pa_cons (pv 5) pa_nil)) (pg_tup rfl (pgs_cons (pg_name (i := 6) S.nd rfl (by first | exact .inl rfl | exact .inr rfl)) (pgs_cons (pg_name (i := 7) S.nd rfl (by first | exact .inl rfl | exact .inr rfl)) pgs_nil)))
      (pss_one (ps_if (pt_cmp (pc_dnotin (hu_of hr) (pv 7) (pv 2)))
        (pss_one (ps_dput (hu_of hr) (pv 2) (pv 7) (pe_tup (pa_cons (pv 3) (pa_cons (pv 4) (pa_cons (pv 6) pa_nil)))) rfl))
        pss_nil)))))
    (pss_one (ps_ret (pv 2))))), ?_⟩
    try dsimp only [cxOf, Cx.nox]
    have st0 : STT K := ⟨T.cl_Store, T.no_Store__files, T.no_Store__temps, T.no_Store__attic, T.no_Store__log, T.no_Store__new_log, T.no_Store__budget, T.no_Store__done⟩
    have t : ET K := ⟨T.cl_Entry, T.no_Entry_name, T.no_Entry_vector, T.no_Entry_height, T.no_Entry_maker, T.no_Entry_deleted, T.no_Entry_time, T.no_Entry_blocks⟩
    obtain ⟨_, _, rfl, a, ea, F, S, p, e, rfl, rfl, hS, hE, hm, k⟩ := h
    walk_at "go"
    refine e_dnewK fun dN hdN => ?_
    have s0 := same_new (o := .dK []) hdN
    walk_at "go"
    refine ⟨_, _, rfl, a, ea, F, S, p, e, rfl, rfl, hS.same s0, hE.same s0, hm, fun r qs ys H2 s2 hr e2 hsr hq => ?_⟩
    walk_at "go"
    have ed0 := s2 _ _ (upd_same (H := H) (a := dN) (o := .dK []))
    have ndr : r ≠ dN := fun z => by rw [z, ed0] at e2; cases e2
    have ntd : ∀ d ∈ [dN], NT H2 d := fun d m => by rw [List.mem_singleton.mp m]; exact nt_dK ed0
    refine for_list (K := K) (xs := qs.map V.ref) (fun i σ H3 => (∃ v3 v4 v5 v6 v7, σ = [some (.ref a), some (.ref ea), some (.ref dN), v3, v4, v5, v6, v7]) ∧ Fr [dN] H2 H3 ∧ Same H H3 ∧ ∃ w, H3 dN = some (.dK (dci w)) ∧ Nrs (hid [dN] H3) w (((rowsOf S e.nm e.bl (keptS S e.nm e.bl) ys).take i).foldl nrow [])) ⟨⟨_, _, _, _, _, rfl⟩, Fr.refl _ _, s0.trans s2, [], ed0, .nil⟩ (fun i σ H3 _ q => SqL.of (q.2.1 _ _ (fun m => ndr (List.mem_singleton.mp m)) e2)) (fun i x σ H3 hx q => ?_) (fun σ H3 q => ?_)
    · obtain ⟨⟨v3, v4, v5, v6, v7, rfl⟩, f3, s3, w, e3, q3⟩ := q
      rw [List.getElem?_map] at hx
      obtain ⟨rq, hrq, rfl⟩ := Option.map_eq_some_iff.mp hx
      obtain ⟨rr, hrr, hra⟩ := paired_get hq i rq hrq
      obtain ⟨b, t1, t2⟩ := hra.fr f3 ntd
      have ntd3 : ∀ d ∈ [dN], NT H3 d := fun d m => by rw [List.mem_singleton.mp m]; exact nt_dK e3
      walk_at "go"
      rw [List.take_add_one, hrr, Option.toList, List.foldl_append, List.foldl_cons, List.foldl_nil]
      have lm0 : (((rowsOf S e.nm e.bl (keptS S e.nm e.bl) ys).take i).foldl nrow []).length ≤ 200000 := by
        obtain ⟨o1, o2⟩ := rows_ok hm hsr.1 e.nm (keptS S e.nm e.bl)
        have := near_len ((rowsOf S e.nm e.bl (keptS S e.nm e.bl) ys).take i) [] fun r h => o1 r (List.mem_of_mem_take h)
        rw [List.length_take] at this
        simp only [List.length_nil, Nat.zero_add] at this
        omega
      have lrr : rr.bl.length ≤ 1000 := (rows_ok hm hsr.1 e.nm (keptS S e.nm e.bl)).1 _ (List.mem_of_getElem? hrr)
      generalize ((rowsOf S e.nm e.bl (keptS S e.nm e.bl) ys).take i).foldl nrow [] = m0 at q3 lm0 ⊢
      refine for_enumIT (ns := rr.bl) (fun pre σ H4 => (∃ v6 v7, σ = [some (.ref a), some (.ref ea), some (.ref dN), some (.str rr.kd), some (kV rr.wh), some (.ref b), v6, v7]) ∧ Fr [dN] H3 H4 ∧ Same H H4 ∧ ∃ w, H4 dN = some (.dK (dci w)) ∧ Nrs (hid [dN] H4) w (pre.zipIdx.foldl (nadd rr.kd rr.wh) m0)) ⟨⟨_, _, rfl⟩, Fr.refl _ _, s3, w, e3, q3⟩ (fun pre σ H4 q => sqT_fr t2 q.2.1 ntd3) (fun pre x post T σ H4 e0 q hT => ?_) (fun σ H4 q => ?_)
      · obtain ⟨⟨v6, v7, rfl⟩, f4, s4, w, e4, q4⟩ := q
        have sT := same_new (o := .tup [.int (pre.length : Nat), .int x]) hT
        have e5 := sT _ _ e4
        rw [List.zipIdx_append, List.foldl_append]
        have lm1 := nadd_len rr.kd rr.wh pre.zipIdx m0
        rw [List.length_zipIdx] at lm1
        have lpre : pre.length ≤ 1000 := by
          have := congrArg List.length e0
          rw [List.length_append] at this
          omega
        generalize pre.zipIdx.foldl (nadd rr.kd rr.wh) m0 = m1 at q4 lm1 ⊢
        have ez : [x].zipIdx (0 + pre.length) = [(x, pre.length)] := by simp
        rw [ez, List.foldl_cons, List.foldl_nil]
        walk_at "go"
        refine ⟨dN, _, rfl, DGet.k (k := Sum.inl x) e5, _, rfl, ?_⟩
        rcases val_dci (R := NearA (hid [dN] H4)) x q4 with ⟨h1, h2⟩ | ⟨q, r, h1, h2, h3, h4⟩
        · rw [h1]
          walk_at "go"
          rename_i tq htq
          have s5 := same_new (o := .tup [.str rr.kd, kV rr.wh, .int (pre.length : Nat)]) htq
          have e6 := s5 _ _ e5
          have lw : w.length ≤ 1000000 := by
            have := paired_len q4
            omega
          refine ⟨dN, _, rfl, DPut.k (k := Sum.inl x) e6 (by unfold dci; rw [List.length_map]; exact Nat.lt_of_le_of_lt lw (by decide)), ⟨_, _, rfl⟩, ((f4.same sT).same s5).put (List.mem_cons_self ..), Same.mut ((s4.trans sT).trans s5) hdN, w ++ [(x, tq)], ?_, ?_⟩
          · rw [upd_same, putK_new _ h1]
            unfold dci
            rw [List.map_append]
            rfl
          · rw [hid_upd_in (List.mem_cons_self ..)]
            unfold nadd
            rw [if_neg h2]
            have nt : tq ∉ [dN] := fun m => by
              rw [List.mem_singleton.mp m, e5] at htq; cases htq
            exact Paired.snoc (paired_imp (fun _ _ z => ⟨z.1, hid_same (sT.trans s5) _ _ z.2⟩) q4) ⟨rfl, by
              show hid [dN] _ tq = _
              rw [hid_at nt]; exact upd_same⟩
        · rw [h1]
          walk_at "go"
          refine ⟨⟨_, _, rfl⟩, f4.same sT, s4.trans sT, w, e5, ?_⟩
          unfold nadd
          rw [if_pos h4]
          exact paired_imp (fun _ _ z => ⟨z.1, hid_same sT _ _ z.2⟩) q4
      · obtain ⟨⟨v6, v7, rfl⟩, f4, s4, w, e4, q4⟩ := q
        exact ⟨⟨_, _, _, _, _, rfl⟩, f3.trans f4, s4, w, e4, q4⟩
    · obtain ⟨⟨v3, v4, v5, v6, v7, rfl⟩, f3, s3, w, e3, q3⟩ := q
      rw [List.length_map, paired_len hq, List.take_length] at q3
      walk_at "go"
      exact k dN w ys H3 s3 hdN e3 hsr (paired_imp (fun _ _ z => ⟨z.1, hid_sub _ _ z.2⟩) q3)
theorem ok_near_rows (T : Txt K mg)  (c_kept_blocks : Cal P w K mg base 3 "kept_blocks" (sp_kept_blocks K)) (m_Store_names : C8.Met P w K mg base 1 (He.ga K "Store") "names" (sp_Store_names K) []) (c_split : Cal P w K mg base 2 "split" (sp_split K)) (m_Store_read : C8.Met P w K mg base 1 (He.ga K "Store") "read" (sp_Store_read K) []) (m_Store_attic : C8.Met P w K mg base 1 (He.ga K "Store") "attic" (sp_Store_attic K) []) {f : Addr} {fd : FuncData} (F : FnP K "_near_rows" s_near_rows f fd) : FnOk P w K mg base CX0 4 f fd ["store", "entry"] (sp_near_rows K) := by
  refine F.ok sc_near_rows (fun vs H Q E h => ?_) (fun cdv A outer s H vs Q E hr h => ?_)
  · obtain ⟨_, _, rfl, _⟩ := h
    rfl
  · have S := sc_near_rows
    refine ⟨_, PSs.nox (pss_cons (ps_set (i := 2) S.nd rfl (by first | exact .inl rfl | exact .inr rfl) (pe_tup (pa_cons pe_str (pa_cons (pe_fld (pv 1) rfl) (pa_cons (pe_slice sl_tupA (pe_fld (pv 1) rfl) po_none (po_some (pe_c c_kept_blocks hr (by decide) (by rfl) (pa_cons (pv 0) (pa_cons (pv 1) pa_nil))))) pa_nil)))))
    (pss_cons (ps_setLc (i := 3) (own := [("name", 5)]) (g := gName 5) (tt := tYes) rfl S.nd rfl rfl (sw_true rfl rfl rfl (by decide +kernel)) (pi_list (C8.pe_mt0 m_Store_names hr (by decide) (pv 0))) (blkOk_by (N := N_near_rows) (sc := defScope s_near_rows) (by decide +kernel)) (fun _ _ _ _ _ => (pg_name (i := 5) S.nd rfl (by first | exact .inl rfl | exact .inr rfl))) (fun _ _ _ _ _ => pts_nil) (fun _ _ _ _ _ => (pe_tup (pa_cons pe_str (pa_cons (pv 5) (pa_cons (pe_c c_split hr (by decide) (by rfl) (pa_cons (pe_ix (ixT K) (C8.pe_mt m_Store_read hr (by decide) (pv 0) (pa_cons (pv 5) pa_nil)) pe_int (fun _ _ => rfl)) pa_nil)) pa_nil))))))
    (pss_cons (ps_setLc (i := 4) (own := [("index", 6), ("row", 7)]) (g := gTup K 2 (gCons (gName 6) (gCons (gName 7) gNil))) (tt := tYes) rfl S.nd rfl rfl (sw_true rfl rfl rfl (by decide +kernel)) (pi_enum (by rfl) T.f_enumerate (pa_cons (C8.pe_mt0 m_Store_attic hr (by decide) (pv 0)) pa_nil)) (blkOk_by (N := N_near_rows) (sc := defScope s_near_rows) (by decide +kernel)) (fun _ _ _ _ _ => (pg_tupK (n := 2) K rfl (pgs_cons (pg_name (i := 6) S.nd rfl (by first | exact .inl rfl | exact .inr rfl)) (pgs_cons (pg_name (i := 7) S.nd rfl (by first | exact .inl rfl | exact .inr rfl)) pgs_nil)))) (fun _ _ _ _ _ => pts_nil) (fun _ _ _ _ _ => (pe_tup (pa_cons pe_str (pa_cons (pv 6) (pa_cons (pe_c c_split hr (by decide) (by rfl) (pa_cons (pe_ix (ixT K) (pv 7) pe_int (fun _ _ => rfl)) pa_nil)) pa_nil))))))
    (pss_one (ps_ret (pe_op op_cat (pe_op op_cat (pe_lst (pa_cons (pv 2) pa_nil)) (pv 3)) (pv 4))))))), ?_⟩
    try dsimp only [cxOf, Cx.nox]
    have st0 : STT K := ⟨T.cl_Store, T.no_Store__files, T.no_Store__temps, T.no_Store__attic, T.no_Store__log, T.no_Store__new_log, T.no_Store__budget, T.no_Store__done⟩
    have t : ET K := ⟨T.cl_Entry, T.no_Entry_name, T.no_Entry_vector, T.no_Entry_height, T.no_Entry_maker, T.no_Entry_deleted, T.no_Entry_time, T.no_Entry_blocks⟩
    obtain ⟨_, _, rfl, a, ea, F, S, p, e, rfl, rfl, hS, hE, hm, k⟩ := h
    walk_at "go"
    rename_i v hv
    refine ⟨_, _, rfl, a, ea, F, S, p, e, rfl, rfl, hS, hE, hm, fun H1 s1 => ?_⟩
    refine ⟨_, rfl, e_slA (same_tup s1 hv) fun r H2 s2 hr => ?_⟩
    walk_at "go"
    rename_i t0 ht0
    have s3 := same_new (o := .tup [.str "temp", .str e.nm, .ref r]) ht0
    have s03 := (s1.trans s2).trans s3
    have hS3 := hS.same s03
    walk_at "go"
    refine ⟨_, rfl, a, F, S, rfl, hS3, hm.f, fun pn H4 ys hpn s4 e4 hpy hsy => ?_⟩
    have yl : ys.length < 64 := by rw [hpy.length_eq, List.length_map]; exact hm.f
    walk_at "go"
    intro D hD
    refine lc_rel (walk_list (K := K) (xs := ys.map V.str)) hD (by rw [List.length_map]; omega) (fun H1 s1 => s1.seq (SqL.of e4)) (fun i v H1 => ∃ q y, v = .ref q ∧ ys[i]? = some y ∧ RowA K H1 q (fRow S y)) (fun i v H1 H2 h s => ?_) (fun i y H1 H2 C E acc hi s1 e1 hy hC => ?_) (fun H5 us s5 e5 l5 hr5 => ?_)
    · obtain ⟨q, y, h1, h2, h3⟩ := h
      exact ⟨q, y, h1, h2, h3.same s⟩
    · obtain ⟨rfl, hx⟩ := hy
      rw [List.getElem?_map] at hx
      obtain ⟨y, hq, rfl⟩ := Option.map_eq_some_iff.mp hx
      obtain ⟨rr, hrr, mr⟩ := lk_mem (hpy.mem_iff.mp (List.mem_of_getElem? hq))
      have hS5 := hS3.same (s4.trans s1)
      walk_at "go"
      refine ⟨_, _, rfl, a, F, S, y, rr, rfl, rfl, hS5, hrr, fun t l H6 s6 e6 e7 => ?_⟩
      walk_at "go"
      refine e_ixT (SqT.of e6) rfl ?_
      walk_at "go"
      refine ⟨_, rfl, l, rr.1, rfl, SqL.of e7, Nat.le_trans (hm.fl _ mr) (by decide), fun q H7 hq7 s7 e8 => ?_⟩
      walk_at "go"
      rename_i tt htt
      have s8 := same_new (o := .tup [.str "file", .str y, .ref q]) htt
      refine hC _ _ ((s6.trans s7).trans s8) ⟨tt, y, rfl, hq, ?_⟩
      have nq : q ∉ [D] := fun m => by
        rw [List.mem_singleton.mp m, s6 _ _ e1] at hq7; cases hq7
      have nt : tt ∉ [D] := fun m => by
        rw [List.mem_singleton.mp m, s7 _ _ (s6 _ _ e1)] at htt; cases htt
      unfold fRow
      rw [hrr]
      exact ⟨q, by rw [hid_at nt]; exact upd_same, SqT.of (by rw [hid_at nq]; exact s8 _ _ e8)⟩
    obtain ⟨fq, rfl⟩ := all_refs us fun u m => by
      obtain ⟨i, hi⟩ := List.getElem?_of_mem m
      obtain ⟨q, _, e, _⟩ := hr5 i u hi
      exact ⟨q, e⟩
    rw [List.length_map, List.length_map] at l5
    have pF : Rws K H5 fq (ys.map (fRow S)) := prd_mk (by rw [List.length_map]; exact l5) fun i q r h1 h2 => by
      obtain ⟨q2, y, e2, e3, e4⟩ := hr5 i (.ref q) (by rw [List.getElem?_map, h1]; rfl)
      cases e2
      rw [List.getElem?_map, e3] at h2
      cases h2
      exact e4.same hid_sub
    have s45 := s4.trans s5
    have hS5 := hS3.same s45
    walk_at "go"
    refine ⟨_, rfl, a, F, S, rfl, hS5, Nat.le_trans hm.a (by decide), fun pa qa H6 hpa s6 e6 hAt => ?_⟩
    have la := paired_len hAt
    walk_at "go"
    intro D2 hD2
    refine lc_rel (walk_enum (K := K) (xs := qa.map V.ref)) hD2 (by rw [List.length_map]; have := hm.a; omega) (fun H1 s1 => s1.seq (SqL.of e6)) (fun i v H1 => ∃ q, v = .ref q ∧ RowA K H1 q (aRow S i)) (fun i v H1 H2 h s => ?_) (fun i y H1 H2 C E acc hi s1 e1 hy hC => ?_) (fun H7 us s7 e7 l7 hr7 => ?_)
    · obtain ⟨q, h1, h3⟩ := h
      exact ⟨q, h1, h3.same s⟩
    · obtain ⟨T, x, y, rfl, hT, rfl, hx, hy⟩ := hy
      cases (Option.some.inj hx)
      have hy : (qa.map V.ref)[i]? = some y := hy
      rw [List.getElem?_map] at hy
      obtain ⟨q, hq, rfl⟩ := Option.map_eq_some_iff.mp hy
      obtain ⟨rr, hrr, vv, l, t1, t2, t3⟩ := paired_get hAt i q hq
      have sT := same_new (o := .tup [.int (i : Nat), .ref q]) hT
      have t1 := sT _ _ (s1 _ _ t1)
      have t3 := sT _ _ (s1 _ _ t3)
      walk_at "go"
      refine e_ixT (SqT.of t1) rfl ?_
      walk_at "go"
      refine ⟨_, rfl, l, rr.2.2, rfl, SqL.of t3, Nat.le_trans (hm.al _ (List.mem_of_getElem? hrr)) (by decide), fun q7 H7 hq7 s7 e8 => ?_⟩
      walk_at "go"
      rename_i tt htt
      have s8 := same_new (o := .tup [.str "attic", .int (i : Nat), .ref q7]) htt
      refine hC _ _ ((sT.trans s7).trans s8) ⟨tt, rfl, ?_⟩
      have nq : q7 ∉ [D2] := fun m => by
        rw [List.mem_singleton.mp m, sT _ _ e1] at hq7; cases hq7
      have nt : tt ∉ [D2] := fun m => by
        rw [List.mem_singleton.mp m, s7 _ _ (sT _ _ e1)] at htt; cases htt
      unfold aRow
      rw [hrr]
      exact ⟨q7, by rw [hid_at nt]; exact upd_same, SqT.of (by rw [hid_at nq]; exact s8 _ _ e8)⟩
    obtain ⟨gq, rfl⟩ := all_refs us fun u m => by
      obtain ⟨i, hi⟩ := List.getElem?_of_mem m
      obtain ⟨q, e, _⟩ := hr7 i u hi
      exact ⟨q, e⟩
    rw [List.length_map, List.length_map, la] at l7
    have pA : Rws K H7 gq ((List.range S.at_.length).map (aRow S)) := prd_mk (by rw [List.length_map, List.length_range]; exact l7) fun i q r h1 h2 => by
      obtain ⟨q2, e2, e4⟩ := hr7 i (.ref q) (by rw [List.getElem?_map, h1]; rfl)
      cases e2
      have hi := (List.getElem?_eq_some_iff.mp h1).1
      rw [List.getElem?_map, List.getElem?_range (by omega)] at h2
      cases h2
      exact e4.same hid_sub
    walk_at "go"
    rename_i pl hpl
    have s8 := same_new (o := .lst [.ref t0]) hpl
    have s67 := s6.trans s7
    refine e_cat upd_same (s8 _ _ (s67 _ _ e5)) (by rw [List.length_map]; simp; omega) fun p2 hp2 => ?_
    have s9 := same_new (o := .lst ([.ref t0] ++ fq.map V.ref)) hp2
    walk_at "go"
    refine e_cat upd_same (s9 _ _ (s8 _ _ e7)) (by simp; have := hm.a; omega) fun p3 hp3 => ?_
    have s10 := same_new (o := .lst ([.ref t0] ++ fq.map V.ref ++ gq.map V.ref)) hp3
    have s7f := (s8.trans s9).trans s10
    have s5f := s67.trans s7f
    have s3f := s45.trans s5f
    walk_at "go"
    refine k p3 (t0 :: (fq ++ gq)) ys _ (s03.trans s3f) (((s03.trans s45).trans s67).free (s8.free (s9.free hp3))) ?_ ⟨hpy, hsy⟩ ?_
    · rw [upd_same]; simp
    · unfold rowsOf
      refine .cons ⟨r, s3f _ _ upd_same, ?_⟩ (prd_app (paired_imp (fun _ _ q => q.same s5f) pF) (paired_imp (fun _ _ q => q.same s7f) pA))
      refine same_tup (s3.trans s3f) ?_
      rw [← cut_to]
      exact hr
theorem ok_kept_blocks (T : Txt K mg)  (m_Store_temp : C8.Met P w K mg base 1 (He.ga K "Store") "temp" (sp_Store_temp K) []) (c_block_bytes : Cal P w K mg base 2 "block_bytes" (sp_block_bytes K)) {f : Addr} {fd : FuncData} (F : FnP K "kept_blocks" s_kept_blocks f fd) : FnOk P w K mg base CX0 3 f fd ["store", "entry"] (sp_kept_blocks K) := by
  refine F.ok sc_kept_blocks (fun vs H Q E h => ?_) (fun cdv A outer s H vs Q E hr h => ?_)
  · obtain ⟨_, _, rfl, _⟩ := h
    rfl
  · have S := sc_kept_blocks
    refine ⟨_, PSs.nox (pss_cons (ps_set (i := 2) S.nd rfl (by first | exact .inl rfl | exact .inr rfl) (C8.pe_mt m_Store_temp hr (by decide) (pv 0) (pa_cons (pe_fld (pv 1) rfl) pa_nil)))
    (pss_cons (ps_if (pt_cmpR op_isN (pv 2) pe_non (nomark _))
    (pss_one (ps_ret pe_int))
    pss_nil)
    (pss_cons (ps_set (i := 3) S.nd rfl (by first | exact .inl rfl | exact .inr rfl) pe_int)
    (pss_cons (ps_for PassesOwn.never rfl (pi_enumT (by rfl) T.f_enumerate (pa_cons (pe_fld (pv 1) rfl) pa_nil)) (pg_tup rfl (pgs_cons (pg_name (i := 4) S.nd rfl (by first | exact .inl rfl | exact .inr rfl)) (pgs_cons (pg_name (i := 5) S.nd rfl (by first | exact .inl rfl | exact .inr rfl)) pgs_nil)))
    (pss_cons (ps_set (i := 6) S.nd rfl (by first | exact .inl rfl | exact .inr rfl) (pe_c c_block_bytes hr (by decide) (by rfl) (pa_cons (pv 5) pa_nil)))
      (pss_cons (ps_if (pt_cmpR (op_neP hr.units) (pe_slice sl_list (pv 2) (po_some (pv 3)) (po_some (pe_op op_add (pv 3) (pe_callB call_len_seq (by rfl) T.f_len (by first | rfl | decide +kernel) (pa_cons (pv 6) pa_nil))))) (pv 6) (nomark _))
      (pss_one (ps_ret (pv 4)))
      pss_nil)
      (pss_one (ps_aug (i := 3) S.nd rfl (by first | exact .inl rfl | exact .inr rfl) (pe_callB call_len_seq (by rfl) T.f_len (by first | rfl | decide +kernel) (pa_cons (pv 6) pa_nil)) ip_add)))))
    (pss_one (ps_ret (pe_callB call_len_seq (by rfl) T.f_len (by first | rfl | decide +kernel) (pa_cons (pe_fld (pv 1) rfl) pa_nil)))))))), ?_⟩
    try dsimp only [cxOf, Cx.nox]
    have st0 : STT K := ⟨T.cl_Store, T.no_Store__files, T.no_Store__temps, T.no_Store__attic, T.no_Store__log, T.no_Store__new_log, T.no_Store__budget, T.no_Store__done⟩
    have t : ET K := ⟨T.cl_Entry, T.no_Entry_name, T.no_Entry_vector, T.no_Entry_height, T.no_Entry_maker, T.no_Entry_deleted, T.no_Entry_time, T.no_Entry_blocks⟩
    obtain ⟨_, _, rfl, a, ea, F, S, p, e, rfl, rfl, hS, hE, hm, k⟩ := h
    walk_at "go"
    refine ⟨_, _, rfl, a, F, S, e.nm, rfl, rfl, hS, fun hn => ?_, fun bs hb l H1 hl s1 e1 => ?_⟩
    · walk_at "go"
      refine ⟨rfl, _, rfl, i_self ?_⟩
      walk_at "go"
      have := k H (Same.refl _)
      rw [show keptS S e.nm e.bl = 0 by unfold keptS; rw [hn]] at this
      exact this
    have ek : keptS S e.nm e.bl = keptN e.bl bs := by unfold keptS; rw [hb]
    rw [ek] at k
    walk_at "go"
    refine ⟨rfl, _, rfl, i_d (fun z => nomatch z) (fun _ => ?_)⟩
    walk_at "go"
    rename_i v hv
    refine for_enumIT (ns := e.bl) (fun pre σ H2 => (∃ v4 v5 v6, σ = [some (.ref a), some (.ref ea), some (.ref l), some (.int ((pre.flatMap bbytes).length : Nat)), v4, v5, v6]) ∧ Same H1 H2 ∧ keptN e.bl bs = pre.length + keptN (e.bl.drop pre.length) (bs.drop (pre.flatMap bbytes).length)) ⟨⟨_, _, _, rfl⟩, Same.refl _, by simp⟩ (fun pre σ H2 q => same_tup q.2.1 hv) (fun pre x post T σ H2 e0 q hT => ?_) (fun σ H2 q => ?_)
    · obtain ⟨⟨v4, v5, v6, rfl⟩, s2, q⟩ := q
      have sT := same_new (o := .tup [.int (pre.length : Nat), .int x]) hT
      have hx : x ∈ e.bl := by rw [e0]; simp
      rw [show e.bl.drop pre.length = x :: post by rw [e0]; simp] at q
      walk_at "go"
      refine ⟨_, rfl, x, rfl, hm.bb x hx, fun d H3 hd s3 e3 => ?_⟩
      walk_at "go"
      refine e_slL (SqL.of (s3 _ _ (sT _ _ (s2 _ _ e1)))) fun r hr => ?_
      rw [List.length_map, cut_mid]
      have s4 := same_new (o := .lst (((bs.drop (pre.flatMap bbytes).length).take (bbytes x).length).map V.int)) hr
      walk_at "go"
      refine e_nePL (SqL.of upd_same) (SqL.of (s4 _ _ e3)) ?_
      walk_at "go"
      refine i_nd (fun ne => ?_) (fun eq => ?_)
      · walk_at "go"
        rw [keptN_c, if_neg ne] at q
        rw [q] at k
        exact k _ (s1.trans (((s2.trans sT).trans s3).trans s4))
      · walk_at "go"
        rw [keptN_c, if_pos eq] at q
        refine ⟨d, _, rfl, .inl (SqL.of (s4 _ _ e3)), ?_⟩
        walk_at "go"
        refine ⟨_, _, rfl, rfl, ⟨some (.int (pre.length : Nat)), some (.int x), some (.ref d), ?_⟩, ((s2.trans sT).trans s3).trans s4, ?_⟩
        · rw [List.length_map, List.flatMap_append, List.length_append]
          simp only [List.flatMap_cons, List.flatMap_nil, List.append_nil]
          rfl
        · rw [q, e0]
          simp [List.flatMap_append]
          omega
    · obtain ⟨⟨v4, v5, v6, rfl⟩, s2, q⟩ := q
      rw [List.drop_length] at q
      have q : keptN e.bl bs = e.bl.length := by rw [q]; rfl
      rw [q] at k
      have hv2 := same_tup s2 hv
      have hE2 := hE.same (s1.trans s2)
      walk_at "go"
      rw [List.length_map]
      exact k _ (s1.trans s2)
theorem ok_missing (T : Txt K mg)  (c_near_places : Cal P w K mg base 5 "near_places" (sp_near_places K)) (c_kept_blocks : Cal P w K mg base 3 "kept_blocks" (sp_kept_blocks K)) {f : Addr} {fd : FuncData} (F : FnP K "missing" s_missing f fd) : FnOk P w K mg base CX0 6 f fd ["store", "entry"] (sp_missing K) := by
  refine F.ok sc_missing (fun vs H Q E h => ?_) (fun cdv A outer s H vs Q E hr h => ?_)
  · obtain ⟨_, _, rfl, _⟩ := h
    rfl
  · have S := sc_missing
    refine ⟨_, PSs.nox (pss_cons (ps_set (i := 2) S.nd rfl (by first | exact .inl rfl | exact .inr rfl) (pe_c c_near_places hr (by decide) (by rfl) (pa_cons (pv 0) (pa_cons (pv 1) pa_nil))))
    (pss_cons (ps_set (i := 3) S.nd rfl (by first | exact .inl rfl | exact .inr rfl) (pe_lst pa_nil))
    (pss_cons (ps_for PassesOwn.never rfl (pi_tup (pe_slice sl_tupA (pe_fld (pv 1) rfl) (po_some (pe_c c_kept_blocks hr (by decide) (by rfl) (pa_cons (pv 0) (pa_cons (pv 1) pa_nil)))) po_none)) (pg_name (i := 4) S.nd rfl (by first | exact .inl rfl | exact .inr rfl))
    (pss_one (ps_if (pw_and (pt_cmp (pc_dnotin (hu_of hr) (pv 4) (pv 2))) (pw_and1 (pt_cmpR op_notIn_seq (pv 4) (pv 3) (by first | rfl | with_unfolding_all rfl)))).pt
      (pss_one (ps_expr (pe_bm PySem.F.plainAttrs_list PySem.F.slot_list_append PySem.F.type_list_append mt_append (pv 3) (pa_cons (pv 4) pa_nil))))
      pss_nil)))
    (pss_one (ps_ret (pv 3)))))), ?_⟩
    try dsimp only [cxOf, Cx.nox]
    have st0 : STT K := ⟨T.cl_Store, T.no_Store__files, T.no_Store__temps, T.no_Store__attic, T.no_Store__log, T.no_Store__new_log, T.no_Store__budget, T.no_Store__done⟩
    have t : ET K := ⟨T.cl_Entry, T.no_Entry_name, T.no_Entry_vector, T.no_Entry_height, T.no_Entry_maker, T.no_Entry_deleted, T.no_Entry_time, T.no_Entry_blocks⟩
    obtain ⟨_, _, rfl, a, ea, F, S, p, e, rfl, rfl, hS, hE, hm, k⟩ := h
    walk_at "go"
    refine ⟨_, _, rfl, a, ea, F, S, p, e, rfl, rfl, hS, hE, hm, fun d w ys H1 s1 hd e1 hsr hw => ?_⟩
    have hE1 := hE.same s1
    walk_at "go"
    rename_i l hl
    have s2 := same_new (o := .lst []) hl
    have hE2 := hE1.same s2
    have hS2 := hS.same (s1.trans s2)
    walk_at "go"
    rename_i v hv
    refine ⟨_, _, rfl, a, ea, F, S, p, e, rfl, rfl, hS2, hE2, hm, fun H3 s3 => ?_⟩
    refine ⟨_, rfl, ?_⟩
    walk_at "go"
    refine e_slA (same_tup s3 hv) fun r H4 s4 hr => ?_
    rw [cut_from] at hr
    have s34 := s3.trans s4
    have e4 := s34 _ _ (s2 _ _ e1)
    have hw4 : Nrs H4 w _ := paired_imp (fun _ _ z => ⟨z.1, (s2.trans s34) _ _ z.2⟩) hw
    have ndl : d ≠ l := fun z => by rw [z, hl] at e1; cases e1
    have el := s34 _ _ (upd_same (H := H1) (a := l) (o := .lst []))
    have ntl : ∀ d ∈ [l], NT H4 d := fun d m => by rw [List.mem_singleton.mp m]; exact nt_lst el
    walk_at "go"
    generalize hm0 : nearOf (rowsOf S e.nm e.bl (keptS S e.nm e.bl) ys) = m at hw4
    have lb : (e.bl.drop (keptS S e.nm e.bl)).length ≤ 1000 := by
      have := hm.b
      rw [List.length_drop]
      omega
    generalize e.bl.drop (keptS S e.nm e.bl) = bl at k hr lb
    refine for_intsT (ns := bl) (fun pre σ H5 => (∃ v4, σ = [some (.ref a), some (.ref ea), some (.ref d), some (.ref l), v4]) ∧ Fr [l] H4 H5 ∧ Same H1 H5 ∧ H5 l = some (.lst ((missOf m pre).map V.int)) ∧ (missOf m pre).length ≤ pre.length) ⟨⟨_, rfl⟩, Fr.refl _ _, s2.trans s34, el, Nat.le_refl _⟩ (fun pre σ H5 q => sqT_fr hr q.2.1 ntl) (fun pre x post σ H5 e0 q => ?_) (fun σ H5 q => ?_)
    · obtain ⟨⟨v4, rfl⟩, f5, s5, e5, l5⟩ := q
      have ed5 := f5 _ _ (fun z => ndl (List.mem_singleton.mp z)) e4
      have em : missOf m (pre ++ [x]) = if x ∈ m.map (·.1) ∨ x ∈ missOf m pre then missOf m pre else missOf m pre ++ [x] := by
        unfold missOf
        rw [List.foldl_append]
        rfl
      have lp : pre.length ≤ 1000 := by
        have := congrArg List.length e0
        rw [List.length_append] at this
        omega
      walk_at "go"
      refine ⟨d, _, rfl, DGet.k (k := Sum.inl x) ed5, _, rfl, ?_⟩
      rcases val_dci (R := NearA H4) x hw4 with ⟨h1, h2⟩ | ⟨q, r, h1, h2, h3, h4⟩
      · rw [h1]
        walk_at "go"
        refine e_ninL (SqL.of e5) ?_
        walk_at "go"
        refine i_nd (fun n => ?_) (fun y => ?_)
        · rw [if_neg (fun z => z.elim h2 n)] at em
          rw [em]
          walk_at "go"
          refine ⟨l, _, _, rfl, rfl, e5, ?_, ⟨_, rfl⟩, f5.put (List.mem_cons_self ..), Same.mut s5 hl, ?_, by simp only [List.length_append, List.length_singleton]; omega⟩
          · rw [List.length_map]
            exact Nat.lt_of_le_of_lt (by omega : _ ≤ 1000) (by decide)
          · rw [upd_same, List.map_append]; rfl
        · rw [if_pos (.inr y)] at em
          rw [em]
          walk_at "go"
          exact ⟨⟨_, rfl⟩, f5, s5, e5, by rw [List.length_append]; omega⟩
      · rw [if_pos (.inl h4)] at em
        rw [h1, em]
        walk_at "go"
        exact ⟨⟨_, rfl⟩, f5, s5, e5, by rw [List.length_append]; omega⟩
    · obtain ⟨⟨v4, rfl⟩, f5, s5, e5, l5⟩ := q
      walk_at "go"
      rw [← hm0] at e5
      exact k l ys H5 (s1.trans s5) (s1.free hl) hsr e5
theorem ok_must_come (T : Txt K mg)  (c_missing : Cal P w K mg base 6 "missing" (sp_missing K)) {f : Addr} {fd : FuncData} (F : FnP K "must_come" s_must_come f fd) : FnOk P w K mg base CX0 7 f fd ["store", "entries"] (sp_must_come K) := by
  refine F.ok sc_must_come (fun vs H Q E h => ?_) (fun cdv A outer s H vs Q E hr h => ?_)
  · obtain ⟨_, _, rfl, _⟩ := h
    rfl
  · have S := sc_must_come
    refine ⟨_, PSs.nox (pss_one (ps_ret (pe_callB (cr_sortedSet rfl) (by rfl) T.f_sorted (by first | rfl | decide +kernel) (pa_cons (pe_callTy (cr_setL rfl) (by rfl) T.f_set (by first | rfl | decide +kernel) (pa_cons (pe_lc2 (own := [("entry", 2), ("block", 3)]) (vs1 := [3]) (g := gName 2) (g1 := gName 3) (tt := tYes) (tt1 := tYes) rfl S.nd (pi_list (pv 1)) (blkOk_by (N := N_must_come) (sc := defScope s_must_come) (by decide +kernel)) (by decide) (fun _ _ _ _ _ => (pg_name (i := 2) S.nd rfl (by first | exact .inl rfl | exact .inr rfl))) (fun _ _ _ _ _ => pts_nil) (fun _ _ _ _ _ => (pi_listK K (pe_c c_missing hr (by decide) (by rfl) (pa_cons (pv 0) (pa_cons (pv 2) pa_nil))))) (fun _ _ _ _ _ => (pg_name (i := 3) S.nd rfl (by first | exact .inl rfl | exact .inr rfl))) (fun _ _ _ _ _ => pts_nil) (fun _ _ _ _ _ => (pv 3))) pa_nil)) pa_nil)))), ?_⟩
    try dsimp only [cxOf, Cx.nox]
    obtain ⟨_, _, rfl, a, l, F, S, es, rfl, rfl, hS, hl, hE, hn, k⟩ := h
    walk_at "go"
    intro D hD
    refine lc2_it (walk_list (K := K) (xs := es.map fun p => V.ref p.1)) (fun i H1 => Same H H1 ∧ ∃ acc : List Int, H1 D = some (.lst (acc.map V.int)) ∧ acc.length ≤ 4 * i ∧ ∀ x, x ∈ acc ↔ ∃ p ∈ es.take i, Mis S p.2.nm p.2.bl x) ⟨same_new hD, [], upd_same, Nat.le_refl _, by simp⟩ (fun i H1 _ p => p.1.seq hl) (fun i x H1 H2 hi p hy => ?_) (fun H1 p => ?_)
    · obtain ⟨s1, acc, e1, l1, m1⟩ := p
      obtain ⟨rfl, hx⟩ := hy
      rw [List.length_map] at hi
      rw [List.getElem?_map] at hx
      obtain ⟨pe, hpe, rfl⟩ := Option.map_eq_some_iff.mp hx
      obtain ⟨hE1, hm1, hb1⟩ := hE pe (List.mem_of_getElem? hpe)
      walk_at "go"
      refine ⟨_, _, rfl, a, pe.1, F, S, false, pe.2, rfl, rfl, hS.same s1, hE1.same s1, hm1, fun r ys H3 s3 hr hsr er => ?_⟩
      have e3 := s3 _ _ e1
      have nr : r ≠ D := fun z => by rw [z, e1] at hr; cases hr
      have hmi := fun x => mis_iff (nm := pe.2.nm) (bl := pe.2.bl) hsr.1 hS.names x
      have lms : (missOf (nearOf (rowsOf S pe.2.nm pe.2.bl (keptS S pe.2.nm pe.2.bl) ys)) (pe.2.bl.drop (keptS S pe.2.nm pe.2.bl))).length ≤ 4 := by
        have := miss_len (nearOf (rowsOf S pe.2.nm pe.2.bl (keptS S pe.2.nm pe.2.bl) ys)) (pe.2.bl.drop (keptS S pe.2.nm pe.2.bl))
        rw [List.length_drop] at this
        omega
      generalize missOf (nearOf (rowsOf S pe.2.nm pe.2.bl (keptS S pe.2.nm pe.2.bl) ys)) (pe.2.bl.drop (keptS S pe.2.nm pe.2.bl)) = ms at er hmi lms
      walk_at "go"
      refine inn_it (walk_list (K := K) (xs := ms.map V.int)) (fun j H4 => Fr [D] H3 H4 ∧ Same H H4 ∧ H4 D = some (.lst ((acc ++ ms.take j).map V.int))) ⟨Fr.refl _ _, s1.trans s3, by simpa using e3⟩ (fun j H4 _ p => SqL.of (p.1 _ _ (fun m => nr (List.mem_singleton.mp m)) er)) (fun j x H4 H5 hj p hy => ?_) (fun H4 p => ?_)
      · obtain ⟨f4, s4, e4⟩ := p
        obtain ⟨rfl, hx⟩ := hy
        rw [List.getElem?_map] at hx
        obtain ⟨z, hz, rfl⟩ := Option.map_eq_some_iff.mp hx
        rw [List.length_map] at hj
        walk_at "go"
        refine ⟨_, e4, ?_, f4.put (List.mem_cons_self ..), Same.mut s4 hD, ?_⟩
        · rw [List.length_map, List.length_append, List.length_take]
          exact Nat.lt_of_le_of_lt (by omega : _ ≤ 1000) (by decide)
        · rw [upd_same, List.take_add_one, hz, ← List.append_assoc]; simp
      · obtain ⟨f4, s4, e4⟩ := p
        rw [List.length_map, List.take_length] at e4
        refine ⟨s4, acc ++ ms, e4, by rw [List.length_append]; omega, fun x => ?_⟩
        rw [List.mem_append, m1, hmi, List.take_add_one, hpe]
        constructor
        · rintro (⟨q, hq, h⟩ | h)
          · exact ⟨q, List.mem_append_left _ hq, h⟩
          · exact ⟨pe, List.mem_append_right _ (by simp), h⟩
        · rintro ⟨q, hq, h⟩
          rcases List.mem_append.mp hq with hq | hq
          · exact .inl ⟨q, hq, h⟩
          · have : q = pe := by simpa using hq
            rw [this] at h
            exact .inr h
    · obtain ⟨s1, acc, e1, l1, m1⟩ := p
      rw [List.length_map] at l1 m1
      rw [List.take_length] at m1
      walk_at "go"
      refine ⟨D, acc, rfl, SqL.of e1, by omega, fun b n hb hnb => ?_⟩
      have s2 := same_new (o := SetO w b (fun j => decide (j ∈ acc)) n) hb
      walk_at "go"
      refine ⟨b, _, n, rfl, upd_same, by omega, fun out q h1 h2 h3 h4 => ?_⟩
      refine k q out _ ((s1.trans s2).trans (same_new h4)) (s1.free (s2.free h4)) upd_same h1 fun x => ?_
      rw [h2, decide_eq_true_eq, m1]
theorem ok_Entry___init__ (T : Txt K mg)   {f : Addr} {fd : FuncData} (F : FunD K "__init__" "Entry.__init__" (defArgs s_Entry___init__) (defBody s_Entry___init__) (defScope s_Entry___init__) [] [] f fd) : FnOk P w K mg base CX0 1 f fd ["self", "name", "vector", "height", "maker", "deleted", "time", "blocks"] (sp_Entry___init__ K) := by
  refine F.ok sc_Entry___init__ (fun vs H Q E h => ?_) (fun cdv A outer s H vs Q E hr h => ?_)
  · obtain ⟨_, _, _, _, _, _, _, _, rfl, _⟩ := h
    rfl
  · have S := sc_Entry___init__
    refine ⟨_, PSs.nox (pss_cons (ps_fld (pv 0) (pv 1) rfl)
    (pss_cons (ps_fld (pv 0) (pv 2) rfl)
    (pss_cons (ps_fld (pv 0) (pv 3) rfl)
    (pss_cons (ps_fld (pv 0) (pv 4) rfl)
    (pss_cons (ps_fld (pv 0) (pv 5) rfl)
    (pss_cons (ps_fld (pv 0) (pv 6) rfl)
    (pss_one (ps_fld (pv 0) (pv 7) rfl)))))))), ?_⟩
    try dsimp only [cxOf, Cx.nox]
    obtain ⟨_, _, _, _, _, _, _, _, rfl, a, dx, rfl, ha, k⟩ := h
    walk_at "go"
    refine ⟨a, _, dx, _, rfl, ha, T.cl_Entry, T.no_Entry_name, lt_put (by decide), ?_⟩
    walk_at "go"
    refine ⟨a, _, dx, _, rfl, upd_same, T.cl_Entry, T.no_Entry_vector, lt_put (Nat.le_trans (len_put (n := 0) (Nat.le_refl 0)) (by decide)), ?_⟩
    walk_at "go"
    refine ⟨a, _, dx, _, rfl, upd_same, T.cl_Entry, T.no_Entry_height, lt_put (Nat.le_trans (len_put (len_put (n := 0) (Nat.le_refl 0))) (by decide)), ?_⟩
    walk_at "go"
    refine ⟨a, _, dx, _, rfl, upd_same, T.cl_Entry, T.no_Entry_maker, lt_put (Nat.le_trans (len_put (len_put (len_put (n := 0) (Nat.le_refl 0)))) (by decide)), ?_⟩
    walk_at "go"
    refine ⟨a, _, dx, _, rfl, upd_same, T.cl_Entry, T.no_Entry_deleted, lt_put (Nat.le_trans (len_put (len_put (len_put (len_put (n := 0) (Nat.le_refl 0))))) (by decide)), ?_⟩
    walk_at "go"
    refine ⟨a, _, dx, _, rfl, upd_same, T.cl_Entry, T.no_Entry_time, lt_put (Nat.le_trans (len_put (len_put (len_put (len_put (len_put (n := 0) (Nat.le_refl 0)))))) (by decide)), ?_⟩
    walk_at "go"
    refine ⟨a, _, dx, _, rfl, upd_same, T.cl_Entry, T.no_Entry_blocks, lt_put (Nat.le_trans (len_put (len_put (len_put (len_put (len_put (len_put (n := 0) (Nat.le_refl 0))))))) (by decide)), ?_⟩
    simp only [upd_upd]
    exact k
theorem ok_Store___init__ (T : Txt K mg)   {f : Addr} {fd : FuncData} (F : FunD K "__init__" "Store.__init__" (defArgs s_Store___init__) (defBody s_Store___init__) (defScope s_Store___init__) [] [] f fd) : FnOk P w K mg base CX0 1 f fd ["self", "files", "log"] (sp_Store___init__ K) := by
  refine F.ok sc_Store___init__ (fun vs H Q E h => ?_) (fun cdv A outer s H vs Q E hr h => ?_)
  · obtain ⟨_, _, _, rfl, _⟩ := h
    rfl
  · have S := sc_Store___init__
    refine ⟨_, PSs.nox (pss_cons (ps_fld (pv 0) (pe_lock (pe_dc (own := [("name", 3), ("content", 4), ("time", 5)]) (g := gTup K 2 (gCons (gName 3) (gCons (gTup K 2 (gCons (gName 4) (gCons (gName 5) gNil))) gNil))) (tt := tYes) rfl S.nd (pi_items (pv 1)) (blkOk_by (N := N_Store___init__) (sc := defScope s_Store___init__) (by decide +kernel)) (fun _ _ _ _ _ => (pg_tupK (n := 2) K rfl (pgs_cons (pg_name (i := 3) S.nd rfl (by first | exact .inl rfl | exact .inr rfl)) (pgs_cons (pg_tupK (n := 2) K rfl (pgs_cons (pg_name (i := 4) S.nd rfl (by first | exact .inl rfl | exact .inr rfl)) (pgs_cons (pg_name (i := 5) S.nd rfl (by first | exact .inl rfl | exact .inr rfl)) pgs_nil))) pgs_nil)))) (fun _ _ _ _ _ => pts_nil) (fun _ _ _ _ _ => (pv 3)) (fun _ _ _ _ _ => (pe_tup (pa_cons (pe_callTy (lstOK K) (by rfl) T.f_list (by first | rfl | decide +kernel) (pa_cons (pv 4) pa_nil)) (pa_cons (pv 5) pa_nil)))))) rfl)
    (pss_cons (ps_fld (pv 0) pe_dnewK rfl)
    (pss_cons (ps_fld (pv 0) (pe_lst pa_nil) rfl)
    (pss_cons (ps_fld (pv 0) (pe_callTy call_list_of (by rfl) T.f_list (by first | rfl | decide +kernel) (pa_cons (pv 2) pa_nil)) rfl)
    (pss_cons (ps_fld (pv 0) (pe_lst pa_nil) rfl)
    (pss_cons (ps_fld (pv 0) pe_non rfl)
    (pss_one (ps_fld (pv 0) pe_int rfl)))))))), ?_⟩
    try dsimp only [cxOf, Cx.nox]
    have st0 : STT K := ⟨T.cl_Store, T.no_Store__files, T.no_Store__temps, T.no_Store__attic, T.no_Store__log, T.no_Store__new_log, T.no_Store__budget, T.no_Store__done⟩
    obtain ⟨_, _, _, rfl, a, d0, lg, dx, w0, fl, D, rfl, rfl, rfl, hi, hd, hfl, hnd, hlen, hlg, hA, k⟩ := h
    walk_at "go"
    refine ⟨d0, _, hd, trivial, fun od => ?_⟩
    walk_at "go"
    refine ⟨d0, od, dct w0, rfl, upd_same, fun Dn hDn => ?_⟩
    have nd0 : Dn ≠ d0 := fun z => by rw [z, upd_same] at hDn; cases hDn
    have hDn0 : H Dn = none := by rwa [upd_ne nd0] at hDn
    have lw : w0.length = fl.length := paired_len hfl
    have ad0 : a ≠ d0 := fun z => by rw [z, hd] at hi; cases hi
    have hA0 : Al D (upd H d0 (.frz od (.dK (dct w0)))) := fun d m => by
      obtain ⟨xs, e⟩ := hA d m
      exact ⟨xs, by rw [upd_ne fun z => by rw [z, hd] at e; cases e]; exact e⟩
    refine dc_it walk_items (fun i H1 => Same (upd H d0 (.frz od (.dK (dct w0)))) H1 ∧ ∃ w1, H1 Dn = some (.dK (dct w1)) ∧ Fls (hid (Dn :: D) H1) w1 (fl.take i)) ⟨same_new hDn, [], upd_same, .nil⟩ (fun i H1 _ p => p.1 _ _ upd_same) (fun i x H1 H2 hi2 p hy => ?_) (fun H1 p => ?_)
    · obtain ⟨s1, w1, e1, q1⟩ := p
      obtain ⟨t0, kx, vx, rfl, ht0, rfl, hkx, hvx⟩ := hy
      have hi3 : i < w0.length := by
        unfold dct at hi2
        rwa [List.length_map] at hi2
      have hw := List.getElem?_eq_getElem hi3
      obtain ⟨r, hr, hrn, l, g1, g2⟩ := paired_get hfl i _ hw
      have hk : kx = .str r.1 ∧ vx = .ref w0[i].2 := by
        have hkx : (dct w0)[i]?.map (fun kv => kV kv.1) = some kx := hkx
        have hvx : (dct w0)[i]?.map Prod.snd = some vx := hvx
        unfold dct at hkx hvx
        rw [List.getElem?_map, hw] at hkx hvx
        cases hkx
        cases hvx
        rw [← hrn]
        exact ⟨rfl, rfl⟩
      obtain ⟨rfl, rfl⟩ := hk
      have nq : ∀ {y : Addr} {o : HO}, H y = some o → y ≠ d0 → H1 y = some o := fun h n => s1 _ _ (by rw [upd_ne n]; exact h)
      have g1 := nq g1 (fun z => by rw [z, hd] at g1; cases g1)
      have g2 := nq g2 (fun z => by rw [z, hd] at g2; cases g2)
      have st := same_new (o := .tup [.str r.1, .ref w0[i].2]) ht0
      have g1 := st _ _ g1
      have g2 := st _ _ g2
      walk_at "go"
      intro l2 hl2
      walk_at "go"
      rename_i t ht3
      have s2 := same_new (o := .lst (r.2.1.map V.int)) hl2
      have s3 := same_new (o := .tup [.ref l2, .int r.2.2]) ht3
      have sA := (st.trans s2).trans s3
      have hA1 := hA0.same s1
      have hD1 := same_new (o := .tup [.str r.1, .ref w0[i].2]) ht0
      have nm0 : lk r.1 (fl.take i) = none := lk_none fun m => by
        have hri := (List.getElem?_eq_some_iff.mp hr)
        rw [← List.take_append_drop i fl, List.map_append] at hnd
        have hd2 := List.nodup_append.mp hnd
        refine hd2.2.2 _ m r.1 ?_ rfl
        rw [List.drop_eq_getElem_cons hri.1, hri.2]
        exact List.mem_cons_self ..
      have vn : valV (dct w1) (Sum.inr r.1) = none := by
        rcases val_dct (R := FilA (hid (Dn :: D) H1)) r.1 q1 with ⟨h1, _⟩ | ⟨_, _, _, h2, _⟩
        · exact h1
        · rw [nm0] at h2; cases h2
      have lw1 : w1.length ≤ 100 := by
        have := paired_len q1
        rw [List.length_take] at this
        omega
      refine ⟨dct w1, Sum.inr r.1, rfl, sA _ _ e1, ?_, Same.mut (s1.trans sA) hDn, w1 ++ [(r.1, t)], ?_, ?_⟩
      · unfold dct
        rw [List.length_map]
        exact Nat.lt_of_le_of_lt (by omega : _ ≤ 100) (by decide)
      · rw [upd_same, putK_new _ vn]
        unfold dct
        rw [List.map_append]
        rfl
      · rw [hid_upd_in (List.mem_cons_self ..)]
        have s4 : Same (hid (Dn :: D) H1) (hid (Dn :: D) (upd (upd (upd H1 t0 (.tup [.str r.1, .ref w0[i].2])) l2 (.lst (r.2.1.map V.int))) t (.tup [.ref l2, .int r.2.2]))) := hid_same sA
        have etk : fl.take (i + 1) = fl.take i ++ [r] := by rw [List.take_add_one, hr]; rfl
        rw [etk]
        have fresh : ∀ {y : Addr}, H1 y = none → y ∉ Dn :: D := fun h m => by
          rcases List.mem_cons.mp m with z | m
          · rw [z, e1] at h; cases h
          · exact hA1.free h m
        have l2n : H1 l2 = none := st.free hl2
        have tn : H1 t = none := (st.trans s2).free ht3
        exact Paired.snoc (fls_same q1 s4) ⟨rfl, l2, by rw [hid_at (fresh tn), upd_same], by rw [hid_at (fresh l2n)]; exact s3 _ _ upd_same⟩
    · obtain ⟨s1, w1, e1, q1⟩ := p
      have hl0 : (dct w0).length = fl.length := by
        unfold dct
        rw [List.length_map, lw]
      rw [hl0, List.take_length] at q1
      have fz := s1 _ _ upd_same
      have f0 : Fr [a] H (upd H1 d0 (.dK (dct w0))) := fun y o _ e => by
        by_cases z : y = d0
        · rw [z, upd_same, ← hd, ← z, e]
        · rw [upd_ne z]
          exact s1 _ _ (by rw [upd_ne z]; exact e)
      have i0 : upd H1 d0 (.dK (dct w0)) a = some (.ins (cSto K) dx []) := by
        rw [upd_ne ad0]
        exact s1 _ _ (by rw [upd_ne ad0]; exact hi)
      have e0 : upd H1 d0 (.dK (dct w0)) Dn = some (.dK (dct w1)) := by rw [upd_ne nd0]; exact e1
      have g0 : ∀ x o, x ≠ d0 → H1 x = some o → upd H1 d0 (.dK (dct w0)) x = some o := fun x o n e => by rw [upd_ne n]; exact e
      refine ⟨fz, ?_⟩
      walk_at "go"
      have ma : a ∈ [a] := List.mem_cons_self ..
      have nla : ∀ d ∈ [a], NL H d := fun d m => by rw [List.mem_singleton.mp m]; exact nl_ins hi
      generalize upd H1 d0 (.dK (dct w0)) = G0 at f0 i0 e0 g0 ⊢
      refine ⟨a, _, dx, _, rfl, i0, st0.cl, st0.n1, by decide, ?_⟩
      walk_at "go"
      refine e_dnewK fun td htd => ?_
      have fT : Fr [a] G0 (upd (upd G0 a (.ins (cSto K) dx (putF "_files" (.ref Dn) []))) td (.dK [])) := ((Fr.refl [a] G0).put ma).same (same_new htd)
      obtain ⟨ntd, zT⟩ := upd_none htd
      have iT : upd (upd G0 a (.ins (cSto K) dx (putF "_files" (.ref Dn) []))) td (.dK []) a = some (.ins (cSto K) dx (putF "_files" (.ref Dn) [])) := by rw [upd_ne (Ne.symm ntd)]; exact upd_same
      have eT : upd (upd G0 a (.ins (cSto K) dx (putF "_files" (.ref Dn) []))) td (.dK []) td = some (.dK []) := upd_same
      generalize upd (upd G0 a (.ins (cSto K) dx (putF "_files" (.ref Dn) []))) td (.dK []) = G1 at fT iT eT ⊢
      walk_at "go"
      refine ⟨a, _, dx, _, rfl, iT, st0.cl, st0.n2, lt_put (Nat.le_trans (len_put (n := 0) (Nat.le_refl 0)) (by decide)), ?_⟩
      walk_at "go"
      rename_i ad had
      have fD : Fr [a] G1 (upd (upd G1 a (.ins (cSto K) dx (putF "_temps" (.ref td) (putF "_files" (.ref Dn) [])))) ad (.lst [])) := ((Fr.refl [a] G1).put ma).same (same_new had)
      obtain ⟨nad, zD⟩ := upd_none had
      have iD : upd (upd G1 a (.ins (cSto K) dx (putF "_temps" (.ref td) (putF "_files" (.ref Dn) [])))) ad (.lst []) a = some (.ins (cSto K) dx (putF "_temps" (.ref td) (putF "_files" (.ref Dn) []))) := by rw [upd_ne (Ne.symm nad)]; exact upd_same
      have eD : upd (upd G1 a (.ins (cSto K) dx (putF "_temps" (.ref td) (putF "_files" (.ref Dn) [])))) ad (.lst []) ad = some (.lst []) := upd_same
      generalize upd (upd G1 a (.ins (cSto K) dx (putF "_temps" (.ref td) (putF "_files" (.ref Dn) [])))) ad (.lst []) = G2 at fD iD eD ⊢
      refine ⟨a, _, dx, _, rfl, iD, st0.cl, st0.n3, lt_put (Nat.le_trans (len_put (len_put (n := 0) (Nat.le_refl 0))) (by decide)), ?_⟩
      walk_at "go"
      refine ⟨lg, [], rfl, .inl (seq_fr hlg (((f0.trans fT).trans fD).put ma) nla), fun ld hld => ?_⟩
      have fL : Fr [a] G2 (upd (upd G2 a (.ins (cSto K) dx (putF "_attic" (.ref ad) (putF "_temps" (.ref td) (putF "_files" (.ref Dn) []))))) ld (.lst [])) := ((Fr.refl [a] G2).put ma).same (same_new hld)
      obtain ⟨nld, zL⟩ := upd_none hld
      have iL : upd (upd G2 a (.ins (cSto K) dx (putF "_attic" (.ref ad) (putF "_temps" (.ref td) (putF "_files" (.ref Dn) []))))) ld (.lst []) a = some (.ins (cSto K) dx (putF "_attic" (.ref ad) (putF "_temps" (.ref td) (putF "_files" (.ref Dn) [])))) := by rw [upd_ne (Ne.symm nld)]; exact upd_same
      have eL : upd (upd G2 a (.ins (cSto K) dx (putF "_attic" (.ref ad) (putF "_temps" (.ref td) (putF "_files" (.ref Dn) []))))) ld (.lst []) ld = some (.lst []) := upd_same
      generalize upd (upd G2 a (.ins (cSto K) dx (putF "_attic" (.ref ad) (putF "_temps" (.ref td) (putF "_files" (.ref Dn) []))))) ld (.lst []) = G3 at fL iL eL ⊢
      walk_at "go"
      refine ⟨a, _, dx, _, rfl, iL, st0.cl, st0.n4, lt_put (Nat.le_trans (len_put (len_put (len_put (n := 0) (Nat.le_refl 0)))) (by decide)), ?_⟩
      walk_at "go"
      rename_i nd hnd2
      have fN : Fr [a] G3 (upd (upd G3 a (.ins (cSto K) dx (putF "_log" (.ref ld) (putF "_attic" (.ref ad) (putF "_temps" (.ref td) (putF "_files" (.ref Dn) [])))))) nd (.lst [])) := ((Fr.refl [a] G3).put ma).same (same_new hnd2)
      obtain ⟨nnd, zN⟩ := upd_none hnd2
      have iN : upd (upd G3 a (.ins (cSto K) dx (putF "_log" (.ref ld) (putF "_attic" (.ref ad) (putF "_temps" (.ref td) (putF "_files" (.ref Dn) [])))))) nd (.lst []) a = some (.ins (cSto K) dx (putF "_log" (.ref ld) (putF "_attic" (.ref ad) (putF "_temps" (.ref td) (putF "_files" (.ref Dn) []))))) := by rw [upd_ne (Ne.symm nnd)]; exact upd_same
      have eN : upd (upd G3 a (.ins (cSto K) dx (putF "_log" (.ref ld) (putF "_attic" (.ref ad) (putF "_temps" (.ref td) (putF "_files" (.ref Dn) [])))))) nd (.lst []) nd = some (.lst []) := upd_same
      generalize upd (upd G3 a (.ins (cSto K) dx (putF "_log" (.ref ld) (putF "_attic" (.ref ad) (putF "_temps" (.ref td) (putF "_files" (.ref Dn) [])))))) nd (.lst []) = G4 at fN iN eN ⊢
      refine ⟨a, _, dx, _, rfl, iN, st0.cl, st0.n5, lt_put (Nat.le_trans (len_put (len_put (len_put (len_put (n := 0) (Nat.le_refl 0))))) (by decide)), ?_⟩
      walk_at "go"
      refine ⟨a, _, dx, _, rfl, upd_same, st0.cl, st0.n6, lt_put (Nat.le_trans (len_put (len_put (len_put (len_put (len_put (n := 0) (Nat.le_refl 0)))))) (by decide)), ?_⟩
      walk_at "go"
      refine ⟨a, _, dx, _, rfl, upd_same, st0.cl, st0.n7, lt_put (Nat.le_trans (len_put (len_put (len_put (len_put (len_put (len_put (n := 0) (Nat.le_refl 0))))))) (by decide)), ?_⟩
      walk_at "go"
      simp only [upd_upd]
      have sa : ∀ {p : Addr}, p ≠ a → p ∉ [a] := fun n m => n (List.mem_singleton.mp m)
      have nDa : Dn ≠ a := fun z => by rw [z, i0] at e0; cases e0
      -- what stands at the end
      have F4 := (Fr.refl [a] G4).put (o := .ins (cSto K) dx (putF "_done" (.int 0) (putF "_budget" .non (putF "_new_log" (.ref nd) (putF "_log" (.ref ld) (putF "_attic" (.ref ad) (putF "_temps" (.ref td) (putF "_files" (.ref Dn) [])))))))) ma
      have F3 := fN.trans F4
      have F2 := fL.trans F3
      have F1 := fD.trans F2
      have F0 := fT.trans F1
      generalize hfs : putF "_done" (.int 0) (putF "_budget" .non (putF "_new_log" (.ref nd) (putF "_log" (.ref ld) (putF "_attic" (.ref ad) (putF "_temps" (.ref td) (putF "_files" (.ref Dn) [])))))) = fs at F4 F3 F2 F1 F0 ⊢
      generalize hG5 : upd G4 a (.ins (cSto K) dx fs) = G5 at F4 F3 F2 F1 F0 ⊢
      have i5 : G5 a = some (.ins (cSto K) dx fs) := by rw [← hG5]; exact upd_same
      have eDn := F0 _ _ (sa nDa) e0
      have etd := F1 _ _ (sa ntd) eT
      have ead := F2 _ _ (sa nad) eD
      have eld := F3 _ _ (sa nld) eL
      have end_ := F4 _ _ (sa nnd) eN
      have z0 : ∀ {p : Addr}, p ≠ a → G0 p = none → H p = none := fun n h => fr_back f0 (sa n) h
      have zD0 := fr_back fT (sa nad) zD
      have zL0 := fr_back fT (sa nld) (fr_back fD (sa nld) zL)
      have zN0 := fr_back fT (sa nnd) (fr_back fD (sa nnd) (fr_back fL (sa nnd) zN))
      have aD : a ∉ D := fun m => by
        obtain ⟨xs, e⟩ := hA a m
        rw [hi] at e; cases e
      have nD : ∀ {p : Addr}, p ≠ a → G0 p = none → p ∉ D := fun n h => hA.free (z0 n h)
      have DnD : Dn ∉ D := hA.free hDn0
      -- their differences
      have d1 : td ≠ Dn := fun z => by rw [z, e0] at zT; cases zT
      have d2 : ad ≠ Dn := fun z => by rw [z, e0] at zD0; cases zD0
      have d3 : ad ≠ td := fun z => by rw [z, eT] at zD; cases zD
      have d4 : ld ≠ Dn := fun z => by rw [z, e0] at zL0; cases zL0
      have d5 : ld ≠ td := fun z => by rw [z, fD _ _ (sa ntd) eT] at zL; cases zL
      have d6 : ld ≠ ad := fun z => by rw [z, eD] at zL; cases zL
      have d7 : nd ≠ Dn := fun z => by rw [z, e0] at zN0; cases zN0
      have d8 : nd ≠ td := fun z => by rw [z, fL _ _ (sa ntd) (fD _ _ (sa ntd) eT)] at zN; cases zN
      have d9 : nd ≠ ad := fun z => by rw [z, fL _ _ (sa nad) eD] at zN; cases zN
      have keep : ∀ (y : Addr) (o : HO), (∀ C e fs, o ≠ .ins C e fs) → (∀ c o2, o ≠ .frz c o2) → hid (Dn :: D) H1 y = some o → hid (foot a Dn td ad []) (hid D G5) y = some o := fun y o no1 no2 h => by
        obtain ⟨n, h⟩ := hid_some h
        have n1 : y ∉ D := fun m => n (List.mem_cons_of_mem _ m)
        have n2 : y ≠ Dn := fun z => n (by rw [z]; exact List.mem_cons_self ..)
        have n3 : y ≠ d0 := fun z => by rw [z, fz] at h; cases h; exact no2 _ _ rfl
        have h0 := g0 y o n3 h
        have n4 : y ≠ a := fun z => by rw [z, i0] at h0; cases h0; exact no1 _ _ _ rfl
        have n5 : y ≠ td := fun z => by rw [z, zT] at h0; cases h0
        have n6 : y ≠ ad := fun z => by rw [z, zD0] at h0; cases h0
        rw [hid_at (by simp [foot, n2, n4, n5, n6]), hid_at n1]
        exact F0 _ _ (sa n4) h0
      refine k (foot a Dn td ad []) G5 (fun b nb o e => F0 _ _ (sa nb) (f0 _ _ (sa nb) e)) (fun b m => ?_) ⟨dx, Dn, td, ad, ld, nd, fs, w1, [], [], rfl, ?_⟩
      · simp only [foot, List.mem_cons, List.map_nil, List.not_mem_nil, or_false] at m
        rcases m with z | z | z | z
        · exact .inl z
        · rw [z]; exact .inr hDn0
        · rw [z]; exact .inr (z0 ntd zT)
        · rw [z]; exact .inr (z0 nad zD0)
      · refine ⟨by rw [hid_at aD]; exact i5, ?_, ?_, ?_, ?_, ?_, ?_, ?_, ?_, fun m hm => ?_, by rw [hid_at DnD]; exact eDn, by rw [hid_at (nD ntd zT)]; exact etd, by rw [hid_at (nD nad zD0)]; exact ead, ?_, .nil, .nil, ?_, ?_, ?_, hnd, by simp⟩
        · rw [← hfs]
          exact len_put (len_put (len_put (len_put (len_put (len_put (len_put (n := 1) (by decide)))))))
        · rw [← hfs]; simp only [lookup_putF]; rfl
        · rw [← hfs]; simp only [lookup_putF]; rfl
        · rw [← hfs]; simp only [lookup_putF]; rfl
        · rw [← hfs]; simp only [lookup_putF]; rfl
        · rw [← hfs]; simp only [lookup_putF]; rfl
        · rw [← hfs]; simp only [lookup_putF]; rfl
        · rw [← hfs]; simp only [lookup_putF]; rfl
        · simp only [List.mem_cons, not_or] at hm
          obtain ⟨m1, m2, m3, m4, m5, m6, m7, _⟩ := hm
          rw [← hfs]
          simp only [lookup_putF]
          rw [if_neg m7, if_neg m6, if_neg m5, if_neg m4, if_neg m3, if_neg m2, if_neg m1]
          rfl
        · exact paired_imp (fun x r q => ⟨q.1, by
            obtain ⟨l, h1, h2⟩ := q.2
            exact ⟨l, keep _ _ (by intros; exact fun z => by cases z) (by intros; exact fun z => by cases z) h1, keep _ _ (by intros; exact fun z => by cases z) (by intros; exact fun z => by cases z) h2⟩⟩) q1
        · rw [hid_at (by simp [foot, nld, d4, d5, d6]), hid_at (nD nld zL0)]; exact eld
        · rw [hid_at (by simp [foot, nnd, d7, d8, d9]), hid_at (nD nnd zN0)]; exact end_
        · simp [foot, Ne.symm nDa, Ne.symm ntd, Ne.symm nad, Ne.symm d1, Ne.symm d2, Ne.symm d3]
theorem ok_Store__count_write (T : Txt K mg)   {f : Addr} {fd : FuncData} (F : FunD K "_count_write" "Store._count_write" (defArgs s_Store__count_write) (defBody s_Store__count_write) (defScope s_Store__count_write) [] [] f fd) : FnOk P w K mg base CX0 1 f fd ["self"] (sp_Store__count_write K) := by
  refine F.ok sc_Store__count_write (fun vs H Q E h => ?_) (fun cdv A outer s H vs Q E hr h => ?_)
  · obtain ⟨_, rfl, _⟩ := h
    rfl
  · have S := sc_Store__count_write
    refine ⟨_, PSs.nox (C8.pss_cut (ps_if (pt_cmpR op_notN (pe_fld (pv 0) rfl) pe_non (nomark _))
    (pss_cons (ps_if (pt_cmpR op_le (pe_fld (pv 0) rfl) pe_int (nomark _))
      (pss_one ps_never)
      pss_nil)
      (pss_one (ps_fldaug (pv 0) pe_int in_sub)))
    pss_nil)
    (pss_one (ps_fldaug (pv 0) pe_int in_add))), ?_⟩
    try dsimp only [cxOf, Cx.nox]
    have st0 : STT K := ⟨T.cl_Store, T.no_Store__files, T.no_Store__temps, T.no_Store__attic, T.no_Store__log, T.no_Store__new_log, T.no_Store__budget, T.no_Store__done⟩
    obtain ⟨_, rfl, a, F, D, S, rfl, hA, hS, k⟩ := h
    obtain ⟨dx, fd, td, ad, ld, nd, fs, fw, tw, aq, rfl, x0⟩ := id hS
    have x := x0.same hid_sub
    have na : a ∉ D := fun m => hS.notin m (List.mem_cons_self ..)
    refine e_cut (Mid := fun σ' H' => σ' = [some (.ref a)] ∧ H' = H) ?_ ?_
    · walk_at "go"
      refine ⟨rfl, ?_⟩
      walk_at "go"
      refine i_nd (fun z => absurd rfl z) (fun _ => ?_)
      walk_at "go"
      exact ⟨rfl, rfl⟩
    rintro σ' H' ⟨rfl, rfl⟩
    walk_at "go"
    refine ⟨a, _, dx, fs, _, rfl, x.ins, st0.cl, st0.n7, x.l7, ?_⟩
    walk_at "go"
    refine ⟨_, _, rfl, rfl, ?_⟩
    walk_at "go"
    refine ⟨dx, fs, x.ins, Nat.lt_of_le_of_lt x.len (by decide), ?_⟩
    have c := x0.count (S.n + 1)
    rw [← hid_upd na] at c
    refine k _ ?_ ⟨dx, fd, td, ad, ld, nd, _, fw, tw, aq, rfl, c⟩
    exact (Fr.refl _ _).put (List.mem_cons_self ..)
theorem ok_Store_names (T : Txt K mg)   {f : Addr} {fd : FuncData} (F : FunD K "names" "Store.names" (defArgs s_Store_names) (defBody s_Store_names) (defScope s_Store_names) [] [] f fd) : FnOk P w K mg base CX0 1 f fd ["self"] (sp_Store_names K) := by
  refine F.ok sc_Store_names (fun vs H Q E h => ?_) (fun cdv A outer s H vs Q E hr h => ?_)
  · obtain ⟨_, rfl, _⟩ := h
    rfl
  · have S := sc_Store_names
    refine ⟨_, PSs.nox (pss_one (ps_ret (pe_callB (call_sortedD rfl) (by rfl) T.f_sorted (by first | rfl | decide +kernel) (pa_cons (pe_fld (pv 0) rfl) pa_nil)))), ?_⟩
    try dsimp only [cxOf, Cx.nox]
    have st0 : STT K := ⟨T.cl_Store, T.no_Store__files, T.no_Store__temps, T.no_Store__attic, T.no_Store__log, T.no_Store__new_log, T.no_Store__budget, T.no_Store__done⟩
    obtain ⟨_, rfl, a, F, S, rfl, hS, hl, k⟩ := h
    obtain ⟨dx, fd, td, ad, ld, nd, fs, fw, tw, aq, rfl, x⟩ := id hS
    walk_at "go"
    refine ⟨fd, dct fw, S.fl.map (·.1), rfl, .inl x.f1, dct_keys x.f2, by rw [List.length_map]; exact hl, fun ys p hp hs hpn => ?_⟩
    exact k p _ ys hpn (same_new hpn) upd_same hp hs
theorem ok_Store_read (T : Txt K mg)   {f : Addr} {fd : FuncData} (F : FunD K "read" "Store.read" (defArgs s_Store_read) (defBody s_Store_read) (defScope s_Store_read) [] [] f fd) : FnOk P w K mg base CX0 1 f fd ["self", "name"] (sp_Store_read K) := by
  refine F.ok sc_Store_read (fun vs H Q E h => ?_) (fun cdv A outer s H vs Q E hr h => ?_)
  · obtain ⟨_, _, rfl, _⟩ := h
    rfl
  · have S := sc_Store_read
    refine ⟨_, PSs.nox (pss_cons (ps_if (pt_cmp (pc_dnotin (hu_of hr) (pv 1) (pe_fld (pv 0) rfl)))
    (pss_one (ps_ret pe_non))
    pss_nil)
    (pss_cons (ps_asg (pe_dget (hu_of hr) (pe_fld (pv 0) rfl) (pv 1) (fun _ _ => rfl)) (pg_tup rfl (pgs_cons (pg_name (i := 2) S.nd rfl (by first | exact .inl rfl | exact .inr rfl)) (pgs_cons (pg_name (i := 3) S.nd rfl (by first | exact .inl rfl | exact .inr rfl)) pgs_nil))))
    (pss_one (ps_ret (pe_tup (pa_cons (pe_callTy call_list_of (by rfl) T.f_list (by first | rfl | decide +kernel) (pa_cons (pv 2) pa_nil)) (pa_cons (pv 3) pa_nil))))))), ?_⟩
    try dsimp only [cxOf, Cx.nox]
    have st0 : STT K := ⟨T.cl_Store, T.no_Store__files, T.no_Store__temps, T.no_Store__attic, T.no_Store__log, T.no_Store__new_log, T.no_Store__budget, T.no_Store__done⟩
    obtain ⟨_, _, rfl, a, F, S, nm, r, rfl, rfl, hS, hr, k⟩ := h
    obtain ⟨dx, fd, td, ad, ld, nd, fs, fw, tw, aq, rfl, x⟩ := id hS
    rcases val_dct nm x.f2 with ⟨h1, h2⟩ | ⟨q, r2, h1, h2, ⟨l, g1, g2⟩, h4⟩
    · rw [hr] at h2; cases h2
    rw [hr] at h2
    cases h2
    have g1 := (hid_some g1).2
    have g2 := (hid_some g2).2
    walk_at "go"
    refine ⟨fd, _, rfl, DGet.k (k := Sum.inr nm) x.f1, ?_⟩
    rw [h1]
    walk_at "go"
    refine ⟨fd, .ref q, rfl, by rw [← h1]; exact DGet.k (k := Sum.inr nm) x.f1, ?_⟩
    walk_at "go"
    intro l2 hl2
    walk_at "go"
    rename_i t ht
    refine k t l2 _ ((same_new hl2).trans (same_new ht)) upd_same ?_
    exact same_new ht _ _ upd_same
theorem ok_Store_write (T : Txt K mg)  (m_Store__count_write : C8.Met P w K mg base 1 (He.ga K "Store") "_count_write" (sp_Store__count_write K) []) {f : Addr} {fd : FuncData} (F : FunD K "write" "Store.write" (defArgs s_Store_write) (defBody s_Store_write) (defScope s_Store_write) [] [] f fd) : FnOk P w K mg base CX0 2 f fd ["self", "name", "content", "time"] (sp_Store_write K) := by
  refine F.ok sc_Store_write (fun vs H Q E h => ?_) (fun cdv A outer s H vs Q E hr h => ?_)
  · obtain ⟨_, _, _, _, rfl, _⟩ := h
    rfl
  · have S := sc_Store_write
    refine ⟨_, PSs.nox (pss_cons (ps_expr (C8.pe_mt0 m_Store__count_write hr (by decide) (pv 0)))
    (pss_one (ps_dput (hu_of hr) (pe_fld (pv 0) rfl) (pv 1) (pe_tup (pa_cons (pe_callTy call_list_of (by rfl) T.f_list (by first | rfl | decide +kernel) (pa_cons (pv 2) pa_nil)) (pa_cons (pv 3) pa_nil))) rfl))), ?_⟩
    try dsimp only [cxOf, Cx.nox]
    have st0 : STT K := ⟨T.cl_Store, T.no_Store__files, T.no_Store__temps, T.no_Store__attic, T.no_Store__log, T.no_Store__new_log, T.no_Store__budget, T.no_Store__done⟩
    obtain ⟨_, _, _, _, rfl, a, l, F, D, S, nm, bs, tm, rfl, rfl, rfl, rfl, hA, hS, hl, hn, k⟩ := h
    walk_at "go"
    refine ⟨_, rfl, a, F, D, S, rfl, hA, hS, fun H1 f1 hS1 => ?_⟩
    obtain ⟨dx, fd, td, ad, ld, nd, fs, fw, tw, aq, rfl, x0⟩ := id hS
    obtain ⟨dx1, fd1, td1, ad1, ld1, nd1, fs1, fw1, tw1, aq1, hF1, x1⟩ := id hS1
    have x := x1.same hid_sub
    have ia := (x0.same hid_sub).ins
    have fN : Fr (foot a fd td ad tw) H H1 := f1.mono fun y m => by rw [List.mem_singleton.mp m]; exact List.mem_cons_self ..
    have hA1 := hA.fr hS fN
    have nb : ∀ d ∈ [a], NL H d := fun d m => by rw [List.mem_singleton.mp m]; exact nl_ins ia
    have hl1 := seq_fr hl f1 nb
    walk_at "go"
    intro l2 hl2
    walk_at "go"
    rename_i t ht
    have s2 := same_new (o := .lst (bs.map V.int)) hl2
    have s3 := same_new (o := .tup [.ref l2, .int tm]) ht
    have ht1 : H1 t = none := s2.free ht
    have x3 := x.same (s2.trans s3)
    walk_at "go"
    have nl := hA1.free hl2
    have nt := hA1.free ht1
    have ml := hS1.new hl2
    have mt := hS1.new ht1
    rw [hF1] at ml mt
    obtain ⟨w2, fl2, g1, g2, g3, g4⟩ := (x1.same (hid_same (s2.trans s3))).put_file (t := t) (nm := nm) (r := (bs, tm)) ⟨l2, by rw [hid_at mt, hid_at nt, upd_same], by rw [hid_at ml, hid_at nl]; exact s3 _ _ upd_same⟩
    have hm : fd1 ∈ foot a fd td ad tw := by rw [hF1]; simp [foot]
    have lw := paired_len x.f2
    have lw2 : fw1.length = S.fl.length := lw
    refine ⟨fd1, _, rfl, DPut.k (k := Sum.inr nm) x3.f1 (by unfold dct; rw [List.length_map]; exact Nat.lt_of_le_of_lt (by omega : _ ≤ 100) (by decide)), ?_⟩
    rw [g1]
    refine k fl2 _ ((fN.same (s2.trans s3)).put hm) ⟨dx1, fd1, td1, ad1, ld1, nd1, fs1, w2, tw1, aq1, hF1, ?_⟩ g2 g3
    rw [hid_upd fun m => hS1.notin m hm]
    exact g4
theorem ok_Store_temp (T : Txt K mg)   {f : Addr} {fd : FuncData} (F : FunD K "temp" "Store.temp" (defArgs s_Store_temp) (defBody s_Store_temp) (defScope s_Store_temp) [] [] f fd) : FnOk P w K mg base CX0 1 f fd ["self", "name"] (sp_Store_temp K) := by
  refine F.ok sc_Store_temp (fun vs H Q E h => ?_) (fun cdv A outer s H vs Q E hr h => ?_)
  · obtain ⟨_, _, rfl, _⟩ := h
    rfl
  · have S := sc_Store_temp
    refine ⟨_, PSs.nox (pss_one (ps_ret (pe_ifExp (pt_cmp (pc_din (hu_of hr) (pv 1) (pe_fld (pv 0) rfl))) (pe_callTy call_list_of (by rfl) T.f_list (by first | rfl | decide +kernel) (pa_cons (pe_dget (hu_of hr) (pe_fld (pv 0) rfl) (pv 1) (fun _ _ => rfl)) pa_nil)) pe_non))), ?_⟩
    try dsimp only [cxOf, Cx.nox]
    have st0 : STT K := ⟨T.cl_Store, T.no_Store__files, T.no_Store__temps, T.no_Store__attic, T.no_Store__log, T.no_Store__new_log, T.no_Store__budget, T.no_Store__done⟩
    obtain ⟨_, _, rfl, a, F, S, nm, rfl, rfl, hS, k1, k2⟩ := h
    obtain ⟨dx, fd, td, ad, ld, nd, fs, fw, tw, aq, rfl, x⟩ := id hS
    walk_at "go"
    refine ⟨td, _, rfl, DGet.k (k := Sum.inr nm) x.t1, ?_⟩
    rcases val_dct (R := fun (q : Addr) (r : List Int) => H q = some (.lst (r.map V.int))) nm x.t2 with ⟨h1, h2⟩ | ⟨q, r2, h1, h2, h3, h4⟩
    · rw [h1]
      walk_at "go"
      exact k1 h2
    · rw [h1]
      walk_at "go"
      refine ⟨td, .ref q, rfl, by rw [← h1]; exact DGet.k (k := Sum.inr nm) x.t1, ?_⟩
      walk_at "go"
      intro l hl
      exact k2 r2 h2 l _ hl (same_new hl) upd_same
theorem ok_Store_append_temp (T : Txt K mg)  (m_Store__count_write : C8.Met P w K mg base 1 (He.ga K "Store") "_count_write" (sp_Store__count_write K) []) {f : Addr} {fd : FuncData} (F : FunD K "append_temp" "Store.append_temp" (defArgs s_Store_append_temp) (defBody s_Store_append_temp) (defScope s_Store_append_temp) [] [] f fd) : FnOk P w K mg base CX0 2 f fd ["self", "name", "data"] (sp_Store_append_temp K) := by
  refine F.ok sc_Store_append_temp (fun vs H Q E h => ?_) (fun cdv A outer s H vs Q E hr h => ?_)
  · obtain ⟨_, _, _, rfl, _⟩ := h
    rfl
  · have S := sc_Store_append_temp
    refine ⟨_, PSs.nox (pss_one (ps_for PassesOwn.never rfl (pi_list (pv 2)) (pg_name (i := 3) S.nd rfl (by first | exact .inl rfl | exact .inr rfl))
    (pss_cons (ps_expr (C8.pe_mt0 m_Store__count_write hr (by decide) (pv 0)))
      (pss_one (ps_expr (pe_bm PySem.F.plainAttrs_list PySem.F.slot_list_append PySem.F.type_list_append mt_append (pe_dsetd (pe_fld (pv 0) rfl) (pv 1) (pe_lst pa_nil) ⟨by rfl, by rfl, by rfl, by rfl⟩) (pa_cons (pv 3) pa_nil))))))), ?_⟩
    try dsimp only [cxOf, Cx.nox]
    have st0 : STT K := ⟨T.cl_Store, T.no_Store__files, T.no_Store__temps, T.no_Store__attic, T.no_Store__log, T.no_Store__new_log, T.no_Store__budget, T.no_Store__done⟩
    obtain ⟨_, _, _, rfl, a, d, F, D, S, nm, bs, rfl, rfl, rfl, hA, hS, hd, hdF, hn, hn2, hn3, k⟩ := h
    walk_at "go"
    refine for_list (K := K) (xs := bs.map V.int) (fun i σ H1 => (∃ v, σ = [some (.ref a), some (.str nm), some (.ref d), v]) ∧ ∃ F1, Fr F H H1 ∧ (∀ b ∈ F1, b ∈ F ∨ H b = none) ∧ Sto K (hid D H1) F1 a (S.app nm (bs.take i))) ⟨⟨_, rfl⟩, F, Fr.refl _ _, fun b m => .inl m, by unfold S0.app; simpa using hS⟩ (fun i σ H1 _ p => ?_) (fun i x σ H1 hx p => ?_) (fun σ H1 p => ?_)
    · obtain ⟨_, F1, f1, _⟩ := p
      exact SqL.of (f1 d _ hdF hd)
    · obtain ⟨⟨v, rfl⟩, F1, f1, n1, hS1⟩ := p
      rw [List.getElem?_map] at hx
      obtain ⟨b, hb, rfl⟩ := Option.map_eq_some_iff.mp hx
      have hi := (List.getElem?_eq_some_iff.mp hb).1
      obtain ⟨b1, b2⟩ := app_len nm (bs.take i) S.tp 100 10000 hn2 hn3
      have bl : (bs.take i).length = i := by rw [List.length_take]; omega
      rw [bl] at b1 b2
      walk_at "go"
      refine ⟨_, rfl, a, F1, D, _, rfl, hA.fr hS f1, hS1, fun H2 f2 hS2 => ?_⟩
      obtain ⟨dx1, fd1, td1, ad1, ld1, nd1, fs1, fw1, tw1, aq1, rfl, x1⟩ := id hS2
      have x := x1.same hid_sub
      have f12 : Fr F H H2 := fun y o n e => by
        have ya : y ≠ a := fun z => n (by
          obtain ⟨_, _, _, _, _, _, _, _, _, _, rfl, _⟩ := hS
          rw [z]; exact List.mem_cons_self ..)
        exact f2 y o (fun m => ya (List.mem_singleton.mp m)) (f1 y o n e)
      have e0 : S.app nm (bs.take (i + 1)) = { S.app nm (bs.take i) with tp := ap1 nm (S.app nm (bs.take i)).tp b, n := (S.app nm (bs.take i)).n + 1 } := by
        unfold S0.app
        rw [List.take_add_one, hb]
        simp only [Option.toList, List.foldl_append, List.foldl_cons, List.foldl_nil, List.length_append, List.length_singleton]
        congr 1
        omega
      walk_at "go"
      refine ⟨td1, rfl, .inl ⟨_, .inl x.t1⟩, ?_⟩
      walk_at "go"
      rename_i l0 hl0
      have s0 := same_new (o := .lst []) hl0
      have lw : tw1.length ≤ 100 + i := by rw [paired_len x.t2]; exact b1
      have hA2 := hA.fr hS f12
      refine ⟨dct tw1, Sum.inr nm, s0 _ _ x.t1, rfl, ?_, fun v2 hv => ?_, fun hv => ?_⟩
      · unfold dct
        rw [List.length_map]
        exact Nat.lt_of_le_of_lt (by omega : _ ≤ 1100) (by decide)
      · rcases val_dct (R := fun (q : Addr) (r : List Int) => H2 q = some (.lst (r.map V.int))) nm x.t2 with ⟨h1, h2⟩ | ⟨q, r2, h1, h2, h3, h4⟩
        · rw [hv] at h1; cases h1
        rw [hv] at h1
        cases h1
        have hm : q ∈ foot a fd1 td1 ad1 tw1 := by
          simp only [foot, List.mem_cons]
          exact .inr (.inr (.inr (.inr (List.mem_map.mpr ⟨_, h4, rfl⟩))))
        refine ⟨.inl ⟨rfl, _, SqL.of (s0 _ _ h3)⟩, ?_⟩
        walk_at "go"
        refine ⟨q, _, _, rfl, rfl, s0 _ _ h3, ?_, ⟨_, rfl⟩, foot a fd1 td1 ad1 tw1, (f12.same s0).put2 (n1 q hm), n1, ?_⟩
        · obtain ⟨_, e1, m1⟩ := lk_mem (l := (S.app nm (bs.take i)).tp) (nm := nm) (by
            cases hc : lk nm (S.app nm (bs.take i)).tp with
            | none => rw [show lk nm (S.app nm (bs.take i)).tp = some r2 from h2] at hc; cases hc
            | some u =>
              refine Decidable.byContradiction fun nm2 => ?_
              rw [lk_none nm2] at hc; cases hc)
          rw [show lk nm (S.app nm (bs.take i)).tp = some r2 from h2] at e1
          cases e1
          have : r2.length ≤ 10000 + i := b2 _ m1
          rw [List.length_map]
          exact Nat.lt_of_le_of_lt (by omega : _ ≤ 11000) (by decide)
        · rw [e0, hid_upd fun m => hS2.notin m hm, show r2.map V.int ++ [V.int b] = (r2 ++ [b]).map V.int by rw [List.map_append]; rfl]
          exact ⟨dx1, fd1, td1, ad1, ld1, nd1, fs1, fw1, tw1, aq1, rfl, (x1.same (hid_same s0)).put_old h4 h2⟩
      · rcases val_dct (R := fun (q : Addr) (r : List Int) => H2 q = some (.lst (r.map V.int))) nm x.t2 with ⟨h1, h2⟩ | ⟨q, r2, h1, h2, h3, h4⟩
        · have mt : td1 ∈ foot a fd1 td1 ad1 tw1 := by simp [foot]
          have nlt : l0 ≠ td1 := fun z => by rw [z, x.t1] at hl0; cases hl0
          have l0f : l0 ∈ F ∨ H l0 = none := by
            cases hc : H l0 with
            | none => exact .inr rfl
            | some o =>
              refine .inl (Decidable.byContradiction fun nf => ?_)
              rw [f12 _ _ nf hc] at hl0; cases hl0
          have ep : putK (dct tw1) (Sum.inr nm) (.ref l0) = dct tw1 ++ [(Sum.inr nm, .ref l0)] := putK_new _ hv
          rw [ep]
          refine ⟨.inl ⟨rfl, _, SqL.of (by rw [upd_ne nlt]; exact upd_same)⟩, ?_⟩
          walk_at "go"
          refine ⟨l0, [], _, rfl, rfl, by rw [upd_ne nlt]; exact upd_same, by decide, ⟨_, rfl⟩, foot a fd1 td1 ad1 (tw1 ++ [(nm, l0)]), ?_, ?_, ?_⟩
          · exact (((f12.same s0).put2 (n1 _ mt)).put2 l0f)
          · intro y my
            have : y ∈ foot a fd1 td1 ad1 tw1 ∨ y = l0 := by
              simp only [foot, List.mem_cons, List.map_append, List.mem_append, List.map_cons, List.map_nil, List.not_mem_nil, or_false] at my ⊢
              rcases my with z | z | z | z | z | z <;> simp [z]
            rcases this with z | z
            · exact n1 y z
            · rw [z]; exact l0f
          · rw [e0, upd3 nlt, hid_upd (hA2.free hl0), hid_upd fun m => hS2.notin m mt]
            exact ⟨dx1, fd1, td1, ad1, ld1, nd1, fs1, fw1, tw1 ++ [(nm, l0)], aq1, rfl, x1.put_new (hid_none hl0) h2⟩
        · rw [hv] at h1; cases h1
    · obtain ⟨⟨v, rfl⟩, F1, f1, n1, hS1⟩ := p
      walk_at "go"
      rw [List.length_map, List.take_length] at hS1
      exact k F1 H1 f1 n1 hS1
theorem ok_Store_attic (T : Txt K mg)   {f : Addr} {fd : FuncData} (F : FunD K "attic" "Store.attic" (defArgs s_Store_attic) (defBody s_Store_attic) (defScope s_Store_attic) [] [] f fd) : FnOk P w K mg base CX0 1 f fd ["self"] (sp_Store_attic K) := by
  refine F.ok sc_Store_attic (fun vs H Q E h => ?_) (fun cdv A outer s H vs Q E hr h => ?_)
  · obtain ⟨_, rfl, _⟩ := h
    rfl
  · have S := sc_Store_attic
    refine ⟨_, PSs.nox (pss_one (ps_ret (pe_lc (own := [("name", 1), ("vector", 2), ("content", 3)]) (g := gTup K 3 (gCons (gName 1) (gCons (gName 2) (gCons (gName 3) gNil)))) (tt := tYes) rfl S.nd (pi_list (pe_fld (pv 0) rfl)) (blkOk_by (N := N_Store_attic) (sc := defScope s_Store_attic) (by decide +kernel)) (fun _ _ _ _ _ => (pg_tupK (n := 3) K rfl (pgs_cons (pg_name (i := 1) S.nd rfl (by first | exact .inl rfl | exact .inr rfl)) (pgs_cons (pg_name (i := 2) S.nd rfl (by first | exact .inl rfl | exact .inr rfl)) (pgs_cons (pg_name (i := 3) S.nd rfl (by first | exact .inl rfl | exact .inr rfl)) pgs_nil))))) (fun _ _ _ _ _ => pts_nil) (fun _ _ _ _ _ => (pe_tup (pa_cons (pv 1) (pa_cons (pv 2) (pa_cons (pe_callTy (lstOK K) (by rfl) T.f_list (by first | rfl | decide +kernel) (pa_cons (pv 3) pa_nil)) pa_nil)))))))), ?_⟩
    try dsimp only [cxOf, Cx.nox]
    have st0 : STT K := ⟨T.cl_Store, T.no_Store__files, T.no_Store__temps, T.no_Store__attic, T.no_Store__log, T.no_Store__new_log, T.no_Store__budget, T.no_Store__done⟩
    obtain ⟨_, rfl, a, F, S, rfl, hS, hl, k⟩ := h
    obtain ⟨dx, fd, td, ad, ld, nd, fs, fw, tw, aq, rfl, x⟩ := id hS
    walk_at "go"
    refine ⟨ad, rfl, ⟨_, SqL.of x.a1⟩, fun D hD => ?_⟩
    have la := paired_len x.a2
    refine lc_rel (walk_list (K := K) (xs := aq.map V.ref)) hD (by rw [List.length_map]; omega) (fun H1 s1 => s1.seq (SqL.of x.a1)) (fun i v H1 => ∃ q r, v = .ref q ∧ S.at_[i]? = some r ∧ AttA K H1 q r) (fun i v H1 H2 h s => ?_) (fun i y H1 H2 C E acc hi s1 e1 hy hC => ?_) (fun H1 us s1 e1 l1 hr => ?_)
    · obtain ⟨q, r, h1, h2, h3⟩ := h
      exact ⟨q, r, h1, h2, h3.same s⟩
    · obtain ⟨rfl, hx⟩ := hy
      rw [List.getElem?_map] at hx
      obtain ⟨q, hq, rfl⟩ := Option.map_eq_some_iff.mp hx
      obtain ⟨r, hr, v, l, t1, t2, t3⟩ := paired_get x.a2 i q hq
      have t1 := s1 _ _ (hid_some t1).2
      have t3 := s1 _ _ (hid_some t3).2
      have t2' := (t2.same hid_sub).same s1
      walk_at "go"
      intro l2 hl2
      walk_at "go"
      rename_i t ht
      have s2 := same_new (o := .lst (r.2.2.map V.int)) hl2
      have s3 := same_new (o := .tup [.str r.1, .ref v, .ref l2]) ht
      refine hC _ _ (s2.trans s3) ⟨t, r, rfl, hr, ?_⟩
      have hN : (upd (hid [D] H2) l2 (.lst (r.2.2.map V.int))) t = none := by rw [← hid_new e1 hl2]; exact hid_none ht
      have h0 : H2 l2 = none := hl2
      have s4 := same_new (o := .tup [.str r.1, .ref v, .ref l2]) hN
      rw [hid_new (s2 _ _ e1) ht, hid_new e1 hl2]
      exact ⟨v, l2, upd_same, ((t2.same hid_sub).same (same_hidN hD s1)).same ((same_new (hid_none hl2)).trans s4), s4 _ _ upd_same⟩
    obtain ⟨qs, rfl⟩ := all_refs us fun u m => by
      obtain ⟨i, hi⟩ := List.getElem?_of_mem m
      obtain ⟨q, _, e, _⟩ := hr i u hi
      exact ⟨q, e⟩
    refine k D qs H1 hD s1 e1 (prd_mk (by rw [List.length_map] at l1; rw [List.length_map] at l1; omega) fun i q r h1 h2 => ?_)
    obtain ⟨q2, r2, e2, e3, e4⟩ := hr i (.ref q) (by rw [List.getElem?_map, h1]; rfl)
    cases e2
    rw [h2] at e3
    cases e3
    exact e4.same hid_sub
theorem ok_Store_attic_put (T : Txt K mg)  (m_Store__count_write : C8.Met P w K mg base 1 (He.ga K "Store") "_count_write" (sp_Store__count_write K) []) {f : Addr} {fd : FuncData} (F : FunD K "attic_put" "Store.attic_put" (defArgs s_Store_attic_put) (defBody s_Store_attic_put) (defScope s_Store_attic_put) [] [] f fd) : FnOk P w K mg base CX0 2 f fd ["self", "name", "vector", "content"] (sp_Store_attic_put K) := by
  refine F.ok sc_Store_attic_put (fun vs H Q E h => ?_) (fun cdv A outer s H vs Q E hr h => ?_)
  · obtain ⟨_, _, _, _, rfl, _⟩ := h
    rfl
  · have S := sc_Store_attic_put
    refine ⟨_, PSs.nox (pss_cons (ps_expr (C8.pe_mt0 m_Store__count_write hr (by decide) (pv 0)))
    (pss_one (ps_expr (pe_bm PySem.F.plainAttrs_list PySem.F.slot_list_append PySem.F.type_list_append mt_append (pe_fld (pv 0) rfl) (pa_cons (pe_tup (pa_cons (pv 1) (pa_cons (pv 2) (pa_cons (pe_callTy call_list_of (by rfl) T.f_list (by first | rfl | decide +kernel) (pa_cons (pv 3) pa_nil)) pa_nil)))) pa_nil))))), ?_⟩
    try dsimp only [cxOf, Cx.nox]
    have st0 : STT K := ⟨T.cl_Store, T.no_Store__files, T.no_Store__temps, T.no_Store__attic, T.no_Store__log, T.no_Store__new_log, T.no_Store__budget, T.no_Store__done⟩
    obtain ⟨_, _, _, _, rfl, a, w, l, F, D, S, z, vc, bs, rfl, rfl, rfl, rfl, hA, hS, hv, hl, hn, k⟩ := h
    walk_at "go"
    refine ⟨_, rfl, a, F, D, S, rfl, hA, hS, fun H1 f1 hS1 => ?_⟩
    obtain ⟨dx, fd, td, ad, ld, nd, fs, fw, tw, aq, rfl, x0⟩ := id hS
    obtain ⟨dx1, fd1, td1, ad1, ld1, nd1, fs1, fw1, tw1, aq1, hF1, x1⟩ := id hS1
    have x := x1.same hid_sub
    have ia := (x0.same hid_sub).ins
    have fN : Fr (foot a fd td ad tw) H H1 := f1.mono fun y m => by rw [List.mem_singleton.mp m]; exact List.mem_cons_self ..
    have hA1 := hA.fr hS fN
    have na : ∀ d ∈ [a], NT H d := fun d m => by rw [List.mem_singleton.mp m]; exact nt_ins ia
    have nb : ∀ d ∈ [a], NL H d := fun d m => by rw [List.mem_singleton.mp m]; exact nl_ins ia
    have hv1 := vec_fr hv f1 na
    have hl1 := seq_fr hl f1 nb
    walk_at "go"
    refine ⟨.inl ⟨rfl, _, SqL.of x.a1⟩, ?_⟩
    walk_at "go"
    intro l2 hl2
    walk_at "go"
    rename_i t ht
    have s2 := same_new (o := .lst (bs.map V.int)) hl2
    have s3 := same_new (o := .tup [.str z, .ref w, .ref l2]) ht
    have ht1 : H1 t = none := s2.free ht
    refine ⟨ad1, _, _, rfl, rfl, s3 _ _ (s2 _ _ x.a1), ?_, ?_⟩
    · have := paired_len x.a2
      have h3 : aq1.length = S.at_.length := this
      rw [List.length_map]
      exact Nat.lt_of_le_of_lt (by omega : _ ≤ 1000) (by decide)
    have hm : ad1 ∈ foot a fd td ad tw := by rw [hF1]; simp [foot]
    refine k _ ((fN.same (s2.trans s3)).put hm) ⟨dx1, fd1, td1, ad1, ld1, nd1, fs1, fw1, tw1, aq1 ++ [t], hF1, ?_⟩
    rw [hid_upd fun m => hS1.notin m hm]
    have nl := hA1.free hl2
    have nt := hA1.free ht1
    have ml := hS1.new hl2
    have mt := hS1.new ht1
    rw [hF1] at ml mt
    refine (x1.same (hid_same (s2.trans s3))).put_attic ⟨w, l2, by rw [hid_at mt, hid_at nt, upd_same], ?_, by rw [hid_at ml, hid_at nl]; exact s3 _ _ upd_same⟩
    exact (vec_hid (vec_hid hv1 hA1.nt) fun d m => (x1.has d m).2).same (hid_same (hid_same (s2.trans s3)))
theorem ok_Store_durable (T : Txt K mg)   {f : Addr} {fd : FuncData} (F : FunD K "durable" "Store.durable" (defArgs s_Store_durable) (defBody s_Store_durable) (defScope s_Store_durable) [] [] f fd) : FnOk P w K mg base CX0 1 f fd ["self"] (sp_Store_durable K) := by
  refine F.ok sc_Store_durable (fun vs H Q E h => ?_) (fun cdv A outer s H vs Q E hr h => ?_)
  · obtain ⟨_, rfl, _⟩ := h
    rfl
  · have S := sc_Store_durable
    refine ⟨_, PSs.nox (pss_cons (ps_set (i := 1) S.nd rfl (by first | exact .inl rfl | exact .inr rfl) (pe_callTy call_tuple_of (by rfl) T.f_tuple (by first | rfl | decide +kernel) (pa_cons (pe_lc (own := [("name", 4)]) (g := gName 4) (tt := tYes) rfl S.nd (pi_list (pe_callB (call_sortedD rfl) (by rfl) T.f_sorted (by first | rfl | decide +kernel) (pa_cons (pe_fld (pv 0) rfl) pa_nil))) (blkOk_by (N := N_Store_durable) (sc := defScope s_Store_durable) (by decide +kernel)) (fun _ _ _ _ _ => (pg_name (i := 4) S.nd rfl (by first | exact .inl rfl | exact .inr rfl))) (fun _ _ _ _ _ => pts_nil) (fun _ _ _ _ _ => (pe_tup (pa_cons (pv 4) (pa_cons (pe_callTy (tupOK K) (by rfl) T.f_tuple (by first | rfl | decide +kernel) (pa_cons (pe_ix (ixT K) (pe_dget (hu_of hr) (pe_fldK K (pv 0) rfl) (pv 4) (fun _ _ => rfl)) pe_int (fun _ _ => rfl)) pa_nil)) (pa_cons (pe_ix (ixT K) (pe_dget (hu_of hr) (pe_fldK K (pv 0) rfl) (pv 4) (fun _ _ => rfl)) pe_int (fun _ _ => rfl)) pa_nil)))))) pa_nil)))
    (pss_cons (ps_set (i := 2) S.nd rfl (by first | exact .inl rfl | exact .inr rfl) (pe_callTy call_tuple_of (by rfl) T.f_tuple (by first | rfl | decide +kernel) (pa_cons (pe_lc (own := [("name", 4)]) (g := gName 4) (tt := tYes) rfl S.nd (pi_list (pe_callB (call_sortedD rfl) (by rfl) T.f_sorted (by first | rfl | decide +kernel) (pa_cons (pe_fld (pv 0) rfl) pa_nil))) (blkOk_by (N := N_Store_durable) (sc := defScope s_Store_durable) (by decide +kernel)) (fun _ _ _ _ _ => (pg_name (i := 4) S.nd rfl (by first | exact .inl rfl | exact .inr rfl))) (fun _ _ _ _ _ => pts_nil) (fun _ _ _ _ _ => (pe_tup (pa_cons (pv 4) (pa_cons (pe_callTy (tupOK K) (by rfl) T.f_tuple (by first | rfl | decide +kernel) (pa_cons (pe_dget (hu_of hr) (pe_fldK K (pv 0) rfl) (pv 4) (fun _ _ => rfl)) pa_nil)) pa_nil))))) pa_nil)))
    (pss_cons (ps_set (i := 3) S.nd rfl (by first | exact .inl rfl | exact .inr rfl) (pe_callTy call_tuple_of (by rfl) T.f_tuple (by first | rfl | decide +kernel) (pa_cons (pe_lc (own := [("name", 4), ("vector", 5), ("content", 6)]) (g := gTup K 3 (gCons (gName 4) (gCons (gName 5) (gCons (gName 6) gNil)))) (tt := tYes) rfl S.nd (pi_list (pe_fld (pv 0) rfl)) (blkOk_by (N := N_Store_durable) (sc := defScope s_Store_durable) (by decide +kernel)) (fun _ _ _ _ _ => (pg_tupK (n := 3) K rfl (pgs_cons (pg_name (i := 4) S.nd rfl (by first | exact .inl rfl | exact .inr rfl)) (pgs_cons (pg_name (i := 5) S.nd rfl (by first | exact .inl rfl | exact .inr rfl)) (pgs_cons (pg_name (i := 6) S.nd rfl (by first | exact .inl rfl | exact .inr rfl)) pgs_nil))))) (fun _ _ _ _ _ => pts_nil) (fun _ _ _ _ _ => (pe_tup (pa_cons (pv 4) (pa_cons (pv 5) (pa_cons (pe_callTy (tupOK K) (by rfl) T.f_tuple (by first | rfl | decide +kernel) (pa_cons (pv 6) pa_nil)) pa_nil)))))) pa_nil)))
    (pss_one (ps_ret (pe_tup (pa_cons (pv 1) (pa_cons (pv 2) (pa_cons (pv 3) (pa_cons (pe_callTy call_tuple_of (by rfl) T.f_tuple (by first | rfl | decide +kernel) (pa_cons (pe_fld (pv 0) rfl) pa_nil)) (pa_cons (pe_callTy call_tuple_of (by rfl) T.f_tuple (by first | rfl | decide +kernel) (pa_cons (pe_fld (pv 0) rfl) pa_nil)) pa_nil))))))))))), ?_⟩
    try dsimp only [cxOf, Cx.nox]
    have st0 : STT K := ⟨T.cl_Store, T.no_Store__files, T.no_Store__temps, T.no_Store__attic, T.no_Store__log, T.no_Store__new_log, T.no_Store__budget, T.no_Store__done⟩
    obtain ⟨_, rfl, a, F, S, rfl, hS, hf, ht, ha, k⟩ := h
    obtain ⟨dx, fd, td, ad, ld, nd, fs, fw, tw, aq, rfl, x⟩ := id hS
    walk_at "go"
    refine ⟨fd, dct fw, S.fl.map (·.1), rfl, .inl x.f1, dct_keys x.f2, by rw [List.length_map]; exact hf, fun ys p hpy hsy hp => ?_⟩
    have yl : ys.length < 64 := by rw [hpy.length_eq, List.length_map]; exact hf
    have sp := same_new (o := .lst (ys.map V.str)) hp
    refine ⟨p, rfl, ⟨_, SqL.of upd_same⟩, fun D hD => ?_⟩
    have hD0 : H D = none := sp.free hD
    refine lc_rel (walk_list (K := K) (xs := ys.map V.str)) hD (by rw [List.length_map]; omega) (fun H1 s1 => s1.seq (SqL.of upd_same)) (fun i v H1 => ∃ y, ys[i]? = some y ∧ Dp K H1 v (durF S y)) (fun i v H1 H2 h s => ?_) (fun i y H1 H2 C E acc hi s1 e1 hy hC => ?_) (fun H1 us s1 e1 l1 hr => ?_)
    · obtain ⟨y, h1, h2⟩ := h
      exact ⟨y, h1, dp_same s h2⟩
    · obtain ⟨rfl, hx⟩ := hy
      rw [List.getElem?_map] at hx
      obtain ⟨y, hq, rfl⟩ := Option.map_eq_some_iff.mp hx
      have my : y ∈ S.fl.map (·.1) := hpy.mem_iff.mp (List.mem_of_getElem? hq)
      obtain ⟨r, hr, _⟩ := lk_mem my
      rcases val_dct y x.f2 with ⟨h1, h2⟩ | ⟨q, r2, h1, h2, ⟨l, g1, g2⟩, h4⟩
      · rw [hr] at h2; cases h2
      rw [hr] at h2
      cases h2
      have s01 := sp.trans s1
      have x2 := x.same s01
      have g1 := s01 _ _ (hid_some g1).2
      have g2 := s01 _ _ (hid_some g2).2
      walk_at "go"
      refine ⟨fd, .ref q, rfl, by rw [← h1]; exact DGet.k (k := Sum.inr y) x2.f1, ?_⟩
      walk_at "go"
      refine e_ixT (SqT.of g1) rfl ?_
      walk_at "go"
      refine ⟨l, _, rfl, .inl ⟨SqL.of g2, fun l2 hl2 => ?_⟩⟩
      have s2 := same_new (o := .tup (r.1.map V.int)) hl2
      have x3 := x2.same s2
      walk_at "go"
      refine ⟨fd, .ref q, rfl, by rw [← h1]; exact DGet.k (k := Sum.inr y) x3.f1, ?_⟩
      walk_at "go"
      refine e_ixT (SqT.of (s2 _ _ g1)) rfl ?_
      walk_at "go"
      rename_i t ht3
      have s3 := same_new (o := .tup [.str y, .ref l2, .int r.2]) ht3
      refine hC _ _ (s2.trans s3) ⟨y, hq, ?_⟩
      have hN : (upd (hid [D] H2) l2 (.tup (r.1.map V.int))) t = none := by rw [← hid_new e1 hl2]; exact hid_none ht3
      rw [hid_new (s2 _ _ e1) ht3, hid_new e1 hl2]
      unfold durF
      rw [hr]
      exact .tup (SqT.of upd_same) (.cons (.str _) (.cons (dp_ti (SqT.of ((same_new hN) _ _ upd_same))) (.cons (.int _) .nil)))
    rw [List.length_map] at l1
    have dF : DpAll K H1 us (ys.map (durF S)) := dpa_mk (by rw [List.length_map]; exact l1) fun i v d h1 h2 => by
      obtain ⟨y, e2, e3⟩ := hr i v h1
      rw [List.getElem?_map, e2] at h2
      cases h2
      exact dp_same hid_sub e3
    walk_at "go"
    refine ⟨D, us, rfl, .inl ⟨SqL.of e1, fun tF htF => ?_⟩⟩
    have sF := same_new (o := .tup us) htF
    have s1F := (sp.trans s1).trans sF
    have xF := x.same s1F
    walk_at "go"
    refine ⟨td, dct tw, S.tp.map (·.1), rfl, .inl xF.t1, dct_keys (R := fun (q : Addr) (r : List Int) => H q = some (.lst (r.map V.int))) x.t2, by rw [List.length_map]; exact ht, fun zs p2 hpz hsz hp2 => ?_⟩
    have zl : zs.length < 64 := by rw [hpz.length_eq, List.length_map]; exact ht
    have sp2 := same_new (o := .lst (zs.map V.str)) hp2
    refine ⟨p2, rfl, ⟨_, SqL.of upd_same⟩, fun D2 hD2 => ?_⟩
    refine lc_rel (walk_list (K := K) (xs := zs.map V.str)) hD2 (by rw [List.length_map]; omega) (fun H1 s1 => s1.seq (SqL.of upd_same)) (fun i v H1 => ∃ y, zs[i]? = some y ∧ Dp K H1 v (durT S y)) (fun i v H1 H2 h s => ?_) (fun i y H1 H2 C E acc hi s1 e1 hy hC => ?_) (fun H2 us2 s2 e2 l2 hr2 => ?_)
    · obtain ⟨y, h1, h2⟩ := h
      exact ⟨y, h1, dp_same s h2⟩
    · obtain ⟨rfl, hx⟩ := hy
      rw [List.getElem?_map] at hx
      obtain ⟨y, hq, rfl⟩ := Option.map_eq_some_iff.mp hx
      have my : y ∈ S.tp.map (·.1) := hpz.mem_iff.mp (List.mem_of_getElem? hq)
      obtain ⟨r, hr, _⟩ := lk_mem my
      have s01 := (s1F.trans sp2).trans s1
      have x2 := x.same s01
      rcases val_dct (R := fun (q : Addr) (r : List Int) => H2 q = some (.lst (r.map V.int))) y x2.t2 with ⟨h1, h2⟩ | ⟨q, r2, h1, h2, g2, h4⟩
      · rw [hr] at h2; cases h2
      rw [hr] at h2
      cases h2
      walk_at "go"
      refine ⟨td, .ref q, rfl, by rw [← h1]; exact DGet.k (k := Sum.inr y) x2.t1, ?_⟩
      walk_at "go"
      refine ⟨q, _, rfl, .inl ⟨SqL.of g2, fun l2 hl2 => ?_⟩⟩
      have s2 := same_new (o := .tup (r.map V.int)) hl2
      walk_at "go"
      rename_i t ht3
      refine hC _ _ (s2.trans (same_new ht3)) ⟨y, hq, ?_⟩
      have hN : (upd (hid [D2] H2) l2 (.tup (r.map V.int))) t = none := by rw [← hid_new e1 hl2]; exact hid_none ht3
      rw [hid_new (s2 _ _ e1) ht3, hid_new e1 hl2]
      unfold durT
      rw [hr]
      exact .tup (SqT.of upd_same) (.cons (.str _) (.cons (dp_ti (SqT.of ((same_new hN) _ _ upd_same))) .nil))
    rw [List.length_map] at l2
    have dT : DpAll K H2 us2 (zs.map (durT S)) := dpa_mk (by rw [List.length_map]; exact l2) fun i v d h1 h2 => by
      obtain ⟨y, e2, e3⟩ := hr2 i v h1
      rw [List.getElem?_map, e2] at h2
      cases h2
      exact dp_same hid_sub e3
    walk_at "go"
    refine ⟨D2, us2, rfl, .inl ⟨SqL.of e2, fun tT htT => ?_⟩⟩
    have sT := same_new (o := .tup us2) htT
    have s12 := (sp2.trans s2).trans sT
    have s2T := s1F.trans s12
    have xT := x.same s2T
    walk_at "go"
    refine ⟨ad, rfl, ⟨_, SqL.of xT.a1⟩, fun D3 hD3 => ?_⟩
    have la := paired_len x.a2
    refine lc_rel (walk_list (K := K) (xs := aq.map V.ref)) hD3 (by rw [List.length_map]; omega) (fun H1 s1 => s1.seq (SqL.of xT.a1)) (fun i v H1 => ∃ r, S.at_[i]? = some r ∧ Dp K H1 v (durA r)) (fun i v H1 H2 h s => ?_) (fun i y H1 H2 C E acc hi s1 e1 hy hC => ?_) (fun H3 us3 s3 e3 l3 hr3 => ?_)
    · obtain ⟨y, h1, h2⟩ := h
      exact ⟨y, h1, dp_same s h2⟩
    · obtain ⟨rfl, hx⟩ := hy
      rw [List.getElem?_map] at hx
      obtain ⟨q, hq, rfl⟩ := Option.map_eq_some_iff.mp hx
      obtain ⟨r, hr, v, l, t1, t2, t3⟩ := paired_get xT.a2 i q hq
      have t1 := s1 _ _ (hid_some t1).2
      have t3 := s1 _ _ (hid_some t3).2
      walk_at "go"
      refine ⟨l, _, rfl, .inl ⟨SqL.of t3, fun l2 hl2 => ?_⟩⟩
      have s2 := same_new (o := .tup (r.2.2.map V.int)) hl2
      walk_at "go"
      rename_i t ht3
      refine hC _ _ (s2.trans (same_new ht3)) ⟨r, hr, ?_⟩
      have hN : (upd (hid [D3] H2) l2 (.tup (r.2.2.map V.int))) t = none := by rw [← hid_new e1 hl2]; exact hid_none ht3
      rw [hid_new (s2 _ _ e1) ht3, hid_new e1 hl2]
      have hv := ((t2.same hid_sub).same (same_hidN hD3 s1)).same ((same_new (o := .tup (r.2.2.map V.int)) (hid_none hl2)).trans (same_new (o := .tup [.str r.1, .ref v, .ref l2]) hN))
      exact .tup (SqT.of upd_same) (.cons (.str _) (.cons (dp_vec hv) (.cons (dp_ti (SqT.of ((same_new hN) _ _ upd_same))) .nil)))
    rw [List.length_map] at l3
    have dA : DpAll K H3 us3 (S.at_.map durA) := dpa_mk (by rw [List.length_map, l3, la]) fun i v d h1 h2 => by
      obtain ⟨y, e2, e3⟩ := hr3 i v h1
      rw [List.getElem?_map, e2] at h2
      cases h2
      exact dp_same hid_sub e3
    walk_at "go"
    refine ⟨D3, us3, rfl, .inl ⟨SqL.of e3, fun tA htA => ?_⟩⟩
    have sA := same_new (o := .tup us3) htA
    have s3A := s3.trans sA
    have xA := xT.same s3A
    walk_at "go"
    refine ⟨ld, [], rfl, .inl ⟨SqL.of (hid_some xA.g1).2, fun tL htL => ?_⟩⟩
    have sL := same_new (o := .tup []) htL
    have xL := xA.same sL
    walk_at "go"
    refine ⟨nd, [], rfl, .inl ⟨SqL.of (hid_some xL.g2).2, fun tN htN => ?_⟩⟩
    have sN := same_new (o := .tup []) htN
    walk_at "go"
    rename_i t ht3
    have sR := same_new (o := .tup [.ref tF, .ref tT, .ref tA, .ref tL, .ref tN]) ht3
    have sLR := sN.trans sR
    have sAR := sL.trans sLR
    have sTR := s3A.trans sAR
    have sFR := s12.trans sTR
    refine k t _ (s1F.trans sFR) ⟨ys, zs, hpy, hsy, hpz, hsz, ?_⟩
    refine .tup (SqT.of upd_same) (.cons (.tup (SqT.of (sFR _ _ upd_same)) (dpa_same (sF.trans sFR) dF)) (.cons (.tup (SqT.of (sTR _ _ upd_same)) (dpa_same (sT.trans sTR) dT)) (.cons (.tup (SqT.of (sAR _ _ upd_same)) (dpa_same (sA.trans sAR) dA)) (.cons (.tup (SqT.of (sLR _ _ upd_same)) .nil) (.cons (.tup (SqT.of (sR _ _ upd_same)) .nil) .nil)))))
theorem ok_law_draws (T : Txt K mg)   {f : Addr} {fd : FuncData} (F : FnP K "_law_draws" s_law_draws f fd) : FnOk P w K mg base CX0 1 f fd ["script"] (sp_law_draws K) := by
  refine F.ok sc_law_draws (fun vs H Q E h => ?_) (fun cdv A outer s H vs Q E hr h => ?_)
  · obtain ⟨_, rfl, _⟩ := h
    rfl
  · have S := sc_law_draws
    refine ⟨_, PSs.nox (pss_one (ps_ret (pe_lst (pa_cons (pe_callTy call_list_of (by rfl) T.f_list (by first | rfl | decide +kernel) (pa_cons (pv 0) pa_nil)) (pa_cons pe_int (pa_cons pe_int (pa_cons pe_int pa_nil))))))), ?_⟩
    try dsimp only [cxOf, Cx.nox]
    obtain ⟨_, rfl, sa, ns, rfl, hS, hl, k⟩ := h
    walk_at "go"
    intro l hl2
    walk_at "go"
    rename_i p hp
    have s1 := same_new (o := .lst (ns.map V.int)) hl2
    have s2 := same_new (o := .lst [V.ref l, V.int 0, V.int 0, V.int 1]) hp
    have np : l ≠ p := fun e => by
      rw [← e, upd_same] at hp
      cases hp
    exact k p l _ (s1.free hp) (s1.trans s2) ⟨⟨0, 0, 1, by decide, by decide, by decide, upd_same⟩, by rw [upd_ne np]; exact upd_same, np, hl⟩
theorem ok_law_draw (T : Txt K mg)   {f : Addr} {fd : FuncData} (F : FnP K "_law_draw" s_law_draw f fd) : FnOk P w K mg base CX0 1 f fd ["draws", "limit"] (sp_law_draw K) := by
  refine F.ok sc_law_draw (fun vs H Q E h => ?_) (fun cdv A outer s H vs Q E hr h => ?_)
  · obtain ⟨_, _, rfl, _⟩ := h
    rfl
  · have S := sc_law_draw
    refine ⟨_, PSs.nox (C8.pss_cut (ps_if (pw_and (pt_cmpR op_eq (pe_ix ix_list (pv 0) pe_int (fun _ _ => rfl)) pe_int (nomark _)) (pw_and1 (pt_cmpR op_lt (pe_ix ix_list (pv 0) pe_int (fun _ _ => rfl)) (pe_callB call_len_seq (by rfl) T.f_len (by first | rfl | decide +kernel) (pa_cons (pe_ix ix_list (pv 0) pe_int (fun _ _ => rfl)) pa_nil)) (nomark _)))).pt
    (pss_cons (ps_set (i := 2) S.nd rfl (by first | exact .inl rfl | exact .inr rfl) (pe_callB call_abs (by rfl) T.f_abs (by first | rfl | decide +kernel) (pa_cons (pe_callTy call_int1 (by rfl) T.f_int (by first | rfl | decide +kernel) (pa_cons (pe_ix ix_list (pe_ix ix_list (pv 0) pe_int (fun _ _ => rfl)) (pe_ix ix_list (pv 0) pe_int (fun _ _ => rfl)) (fun _ _ => rfl)) pa_nil)) pa_nil)))
      (pss_cons (ps_asg (pe_op op_add (pe_ix ix_list (pv 0) pe_int (fun _ _ => rfl)) pe_int) (pg_sub (pv 0) pe_int set_list))
      (C8.pss_cut (ps_if (pt_cmpR op_ge (pv 2) (pe_op op_pow pe_int pe_int) (nomark _))
      (pss_one (ps_asg (pv 2) (pg_sub (pv 0) pe_int set_list)))
      pss_nil)
      (pss_one (ps_asg (pe_op op_mod (pe_callTy call_int1 (by rfl) T.f_int (by first | rfl | decide +kernel) (pa_cons (pe_op op_add (pe_op op_add (pe_op op_mul (pe_ix ix_list (pv 0) pe_int (fun _ _ => rfl)) pe_int) (pv 2)) pe_int) pa_nil)) pe_int) (pg_sub (pv 0) pe_int set_list))))))
    pss_nil)
    (pss_cons (ps_if (pt_cmpR op_gt (pe_ix ix_list (pv 0) pe_int (fun _ _ => rfl)) pe_int (nomark _))
    (pss_cons (ps_set (i := 3) S.nd rfl (by first | exact .inl rfl | exact .inr rfl) (pe_op op_mod (pe_callTy call_int1 (by rfl) T.f_int (by first | rfl | decide +kernel) (pa_cons (pe_ix ix_list (pv 0) pe_int (fun _ _ => rfl)) pa_nil)) (pv 1)))
      (pss_cons (ps_asg (pe_op op_fdivW (pe_ix ix_list (pv 0) pe_int (fun _ _ => rfl)) (pv 1)) (pg_sub (pv 0) pe_int set_list))
      (pss_one (ps_ret (pv 3)))))
    pss_nil)
    (pss_cons (ps_asg (pe_op op_mod (pe_callTy call_int1 (by rfl) T.f_int (by first | rfl | decide +kernel) (pa_cons (pe_op op_add (pe_op op_mul (pe_ix ix_list (pv 0) pe_int (fun _ _ => rfl)) pe_int) pe_int) pa_nil)) pe_int) (pg_sub (pv 0) pe_int set_list))
    (pss_one (ps_ret (pe_op op_mod (pe_callTy call_int1 (by rfl) T.f_int (by first | rfl | decide +kernel) (pa_cons (pe_op op_fdivW (pe_ix ix_list (pv 0) pe_int (fun _ _ => rfl)) pe_int) pa_nil)) (pv 1))))))), ?_⟩
    try dsimp only [cxOf, Cx.nox]
    obtain ⟨_, _, rfl, st, sc, ns, n, rfl, rfl, d, hn0, hn1, k⟩ := h
    obtain ⟨ia, ib, ic, ha0, hb0, hc0, hs⟩ := d.s
    have h1 : ∀ (x y z : Int), 0 ≤ x → 0 ≤ y → 0 ≤ z → z < 2147483647 → Kp st H (upd H st (.lst [.ref sc, .int x, .int y, .int z])) ∧ Dw K st sc ns (upd H st (.lst [.ref sc, .int x, .int y, .int z])) := fun x y z hx hy hz hz2 =>
      have k1 : Kp st H (upd H st (.lst [.ref sc, .int x, .int y, .int z])) := Kp.put (Kp.refl st H)
      ⟨k1, d.kp k1 ⟨x, y, z, hx, hy, ⟨hz, hz2⟩, upd_same⟩⟩
    have hS : SqL K H sc (ns.map V.int) := SqL.of d.l
    have md : ∀ x : Int, 0 ≤ x % 2147483647 ∧ x % 2147483647 < 2147483647 := fun x => ⟨Int.emod_nonneg _ (by decide), Int.emod_lt_of_pos _ (by decide)⟩
    have md2 : ∀ x : Int, 0 ≤ x % 2147483629 ∧ x % 2147483629 < 2147483629 := fun x => ⟨Int.emod_nonneg _ (by decide), Int.emod_lt_of_pos _ (by decide)⟩
    refine e_cut (Mid := fun σ' H' => ∃ (v2 : Option V), σ' = [some (.ref st), some (.int n), v2, none] ∧ Kp st H H' ∧ Dw K st sc ns H') ?_ ?_
    · walk_at "go"
      refine e_ixL (SqL.of hs) rfl ?_
      walk_at "go"
      refine i_d (fun e1 => ?_) (fun e1 => ?_)
      · walk_at "go"
        refine e_ixL (SqL.of hs) rfl ?_
        walk_at "go"
        refine e_ixL (SqL.of hs) rfl ?_
        walk_at "go"
        refine i_d (fun e2 => ?_) (fun e2 => ?_)
        · obtain ⟨j, hj⟩ : ∃ j : Nat, ia = (j : Int) := ⟨ia.toNat, by omega⟩
          have hlt : j < ns.length := by rw [List.length_map] at e2; omega
          have hat : atI (ns.map V.int) ia = some (.int ns[j]) := at_of (j := j) (by omega) (by rw [List.getElem?_map, List.getElem?_eq_getElem hlt]; rfl)
          generalize ns[j] = x at hat
          walk_at "go"
          refine e_ixL (SqL.of hs) rfl ?_
          walk_at "go"
          refine e_ixL (SqL.of hs) rfl ?_
          walk_at "go"
          refine e_ixL hS hat ?_
          walk_at "go"
          have hcell : ∃ c : Int, 0 ≤ c ∧ c = (if x < 0 then -x else x) := ⟨_, by split <;> omega, rfl⟩
          obtain ⟨c, hc, ec⟩ := hcell
          rw [← ec]
          refine e_ixL (SqL.of hs) rfl ?_
          walk_at "go"
          refine e_setL hs rfl ?_
          refine e_cut (Mid := fun σ' H' => ∃ b : Int, 0 ≤ b ∧ σ' = [some (.ref st), some (.int n), some (.int c), none] ∧ H' = upd H st (.lst [.ref sc, .int (ia + 1), .int b, .int ic])) ?_ ?_
          · walk_at "go"
            refine i_d (fun e3 => ?_) (fun e3 => ?_)
            · walk_at "go"
              refine e_setL upd_same rfl ?_
              rw [upd_upd]
              exact ⟨c, hc, rfl, rfl⟩
            · walk_at "go"
              exact ⟨ib, hb0, rfl, rfl⟩
          · rintro σ' H' ⟨b, hb, rfl, rfl⟩
            walk_at "go"
            refine e_ixL (SqL.of upd_same) rfl ?_
            walk_at "go"
            refine e_setL upd_same rfl ?_
            rw [upd_upd]
            have hm := md (ic * 48271 + c + 13)
            obtain ⟨k1, d1⟩ := h1 (ia + 1) b _ (by omega) hb hm.1 hm.2
            exact ⟨_, rfl, k1, d1⟩
        · walk_at "go"
          exact ⟨_, rfl, Kp.refl _ _, d⟩
      · walk_at "go"
        exact ⟨_, rfl, Kp.refl _ _, d⟩
    · rintro σ' H' ⟨v2, rfl, k1, d1⟩
      obtain ⟨ja, jb, jc, hja, hjb, hjc, hs1⟩ := d1.s
      walk_at "go"
      refine e_ixL (SqL.of hs1) rfl ?_
      walk_at "go"
      refine i_d (fun e1 => ?_) (fun e1 => ?_)
      · walk_at "go"
        refine e_ixL (SqL.of hs1) rfl ?_
        walk_at "go"
        refine e_ixL (SqL.of hs1) rfl ?_
        walk_at "go"
        refine e_setL hs1 rfl ?_
        have hj2 : 0 ≤ jb / n := Int.ediv_nonneg hjb (by omega)
        have k2 : Kp st H (upd H' st (.lst [.ref sc, .int ja, .int (jb / n), .int jc])) := k1.put
        walk_at "go"
        exact k _ _ (Int.emod_nonneg _ (by omega)) (Int.emod_lt_of_pos _ hn0) k2 (d.kp k2 ⟨ja, jb / n, jc, hja, hj2, hjc, upd_same⟩)
      · walk_at "go"
        refine e_ixL (SqL.of hs1) rfl ?_
        walk_at "go"
        refine e_setL hs1 rfl ?_
        have hm := md2 (jc * 69621 + 7)
        have k2 : Kp st H (upd H' st (.lst [.ref sc, .int ja, .int jb, .int ((jc * 69621 + 7) % 2147483629)])) := k1.put
        walk_at "go"
        refine e_ixL (SqL.of upd_same) rfl ?_
        walk_at "go"
        exact k _ _ (Int.emod_nonneg _ (by omega)) (Int.emod_lt_of_pos _ hn0) k2 (d.kp k2 ⟨ja, jb, _, hja, hjb, ⟨hm.1, by omega⟩, upd_same⟩)
theorem ok_law_content (T : Txt K mg)  (c_law_draw : Cal P w K mg base 1 "_law_draw" (sp_law_draw K)) {f : Addr} {fd : FuncData} (F : FnP K "_law_content" s_law_content f fd) : FnOk P w K mg base CX0 2 f fd ["draws"] (sp_law_content K) := by
  refine F.ok sc_law_content (fun vs H Q E h => ?_) (fun cdv A outer s H vs Q E hr h => ?_)
  · obtain ⟨_, rfl, _⟩ := h
    rfl
  · have S := sc_law_content
    refine ⟨_, PSs.nox (pss_cons (ps_set (i := 1) S.nd rfl (by first | exact .inl rfl | exact .inr rfl) (pe_lst (pa_cons (pe_lst (pa_cons pe_int (pa_cons pe_int (pa_cons pe_int (pa_cons pe_int pa_nil))))) (pa_cons (pe_lst (pa_cons pe_int (pa_cons pe_int (pa_cons pe_int (pa_cons pe_int pa_nil))))) (pa_cons (pe_lst (pa_cons pe_int (pa_cons pe_int (pa_cons pe_int (pa_cons pe_int pa_nil))))) (pa_cons (pe_lst (pa_cons pe_int pa_nil)) (pa_cons (pe_lst (pa_cons pe_int (pa_cons pe_int pa_nil))) (pa_cons (pe_lst (pa_cons pe_int (pa_cons pe_int (pa_cons pe_int pa_nil)))) pa_nil))))))))
    (pss_cons (ps_set (i := 2) S.nd rfl (by first | exact .inl rfl | exact .inr rfl) (pe_lst pa_nil))
    (pss_cons (ps_for PassesOwn.never rfl (pi_range1 (by rfl) T.f_range (pa_cons (pe_c c_law_draw hr (by decide) (by rfl) (pa_cons (pv 0) (pa_cons pe_int pa_nil))) pa_nil)) (pg_name (i := 3) S.nd rfl (by first | exact .inl rfl | exact .inr rfl))
    (pss_one (ps_set (i := 2) S.nd rfl (by first | exact .inl rfl | exact .inr rfl) (pe_op op_cat (pv 2) (pe_ix ix_list (pv 1) (pe_c c_law_draw hr (by decide) (by rfl) (pa_cons (pv 0) (pa_cons pe_int pa_nil))) (fun _ _ => rfl))))))
    (pss_one (ps_ret (pv 2)))))), ?_⟩
    try dsimp only [cxOf, Cx.nox]
    obtain ⟨_, rfl, st, sc, ns, rfl, d, k⟩ := h
    walk_at "go"
    rename_i p1 h1 p2 h2 p3 h3 p4 h4 p5 h5 p6 h6 pw hw c0 hc0
    have s1 := same_new (o := .lst [.int 1, .int 2, .int 3, .int 4]) h1
    have s2 := same_new (o := .lst [.int 0, .int 0, .int 0, .int 0]) h2
    have s3 := same_new (o := .lst [.int 9, .int 9, .int 9, .int 9]) h3
    have s4 := same_new (o := .lst [.int 5]) h4
    have s5 := same_new (o := .lst [.int 9, .int 9]) h5
    have s6 := same_new (o := .lst [.int 1, .int 2, .int 3]) h6
    have sw := same_new (o := .lst [.ref p1, .ref p2, .ref p3, .ref p4, .ref p5, .ref p6]) hw
    have s0 := same_new (o := .lst []) hc0
    have t2 := s1.trans s2
    have t3 := t2.trans s3
    have t4 := t3.trans s4
    have t5 := t4.trans s5
    have t6 := t5.trans s6
    have tw := t6.trans sw
    have m1 := d.free h1
    have m2 := d.free (s1.free h2)
    have m3 := d.free (t2.free h3)
    have m4 := d.free (t3.free h4)
    have m5 := d.free (t4.free h5)
    have m6 := d.free (t5.free h6)
    have mw := d.free (t6.free hw)
    have c0n := tw.free hc0
    have mc := d.free c0n
    have dc := d.same (tw.trans s0)
    have kc : Kp st H _ := Kp.of (tw.trans s0)
    have ec := upd_same (H := upd (upd (upd (upd (upd (upd (upd H p1 (.lst [.int 1, .int 2, .int 3, .int 4])) p2 (.lst [.int 0, .int 0, .int 0, .int 0])) p3 (.lst [.int 9, .int 9, .int 9, .int 9])) p4 (.lst [.int 5])) p5 (.lst [.int 9, .int 9])) p6 (.lst [.int 1, .int 2, .int 3])) pw (.lst [.ref p1, .ref p2, .ref p3, .ref p4, .ref p5, .ref p6])) (a := c0) (o := .lst [])
    have ew := s0 _ _ (upd_same (a := pw) (o := .lst [.ref p1, .ref p2, .ref p3, .ref p4, .ref p5, .ref p6]))
    have f6 := s0 _ _ (sw _ _ (upd_same (a := p6) (o := .lst [.int 1, .int 2, .int 3])))
    have f5 := s0 _ _ (sw _ _ (s6 _ _ (upd_same (a := p5) (o := .lst [.int 9, .int 9]))))
    have f4 := s0 _ _ (sw _ _ (s6 _ _ (s5 _ _ (upd_same (a := p4) (o := .lst [.int 5])))))
    have f3 := s0 _ _ (sw _ _ (s6 _ _ (s5 _ _ (s4 _ _ (upd_same (a := p3) (o := .lst [.int 9, .int 9, .int 9, .int 9]))))))
    have f2 := s0 _ _ (sw _ _ (s6 _ _ (s5 _ _ (s4 _ _ (s3 _ _ (upd_same (a := p2) (o := .lst [.int 0, .int 0, .int 0, .int 0])))))))
    have f1 := s0 _ _ (sw _ _ (s6 _ _ (s5 _ _ (s4 _ _ (s3 _ _ (s2 _ _ (upd_same (H := H) (a := p1) (o := .lst [.int 1, .int 2, .int 3, .int 4]))))))))
    clear s1 s2 s3 s4 s5 s6 sw s0 t2 t3 t4 t5 t6 tw h2 h3 h4 h5 h6 hw hc0
    generalize upd (upd (upd (upd (upd (upd (upd (upd H p1 (.lst [.int 1, .int 2, .int 3, .int 4])) p2 (.lst [.int 0, .int 0, .int 0, .int 0])) p3 (.lst [.int 9, .int 9, .int 9, .int 9])) p4 (.lst [.int 5])) p5 (.lst [.int 9, .int 9])) p6 (.lst [.int 1, .int 2, .int 3])) pw (.lst [.ref p1, .ref p2, .ref p3, .ref p4, .ref p5, .ref p6])) c0 (.lst []) = Hb at dc kc ec ew f1 f2 f3 f4 f5 f6 ⊢
    have W : ∀ i : Int, 0 ≤ i → i < 6 → ∃ (q : Addr) (xs : List Int), atI [V.ref p1, V.ref p2, V.ref p3, V.ref p4, V.ref p5, V.ref p6] i = some (.ref q) ∧ q ≠ st ∧ Hb q = some (.lst (xs.map V.int)) ∧ isB xs ∧ xs.length ≤ 4 := fun i i0 i6 => by
      have h6 : i = 0 ∨ i = 1 ∨ i = 2 ∨ i = 3 ∨ i = 4 ∨ i = 5 := by omega
      rcases h6 with rfl | rfl | rfl | rfl | rfl | rfl
      · exact ⟨p1, [1, 2, 3, 4], rfl, m1, f1, by unfold isB; simp, by decide⟩
      · exact ⟨p2, [0, 0, 0, 0], rfl, m2, f2, by unfold isB; simp, by decide⟩
      · exact ⟨p3, [9, 9, 9, 9], rfl, m3, f3, by unfold isB; simp, by decide⟩
      · exact ⟨p4, [5], rfl, m4, f4, by unfold isB; simp, by decide⟩
      · exact ⟨p5, [9, 9], rfl, m5, f5, by unfold isB; simp, by decide⟩
      · exact ⟨p6, [1, 2, 3], rfl, m6, f6, by unfold isB; simp, by decide⟩
    refine ⟨_, _, rfl, st, sc, ns, 5, rfl, rfl, dc, by decide, by decide, fun m H2 a2 b2 k2 d2 => ?_⟩
    walk_at "go"
    refine for_rng (fun i σ H3 => ∃ q v3, σ = [some (.ref st), some (.ref pw), some (.ref q), v3] ∧ Kp st Hb H3 ∧ Dw K st sc ns H3 ∧ q ≠ st ∧ H q = none ∧ ∃ xs : List Int, H3 q = some (.lst (xs.map V.int)) ∧ isB xs ∧ xs.length ≤ 4 * i) ⟨c0, _, rfl, k2, d2, mc, c0n, [], k2 _ _ mc ec, fun b h => (by cases h), Nat.le_refl _⟩ (fun i σ H3 hi q => ?_) (fun σ H3 q => ?_)
    · obtain ⟨q, v3, rfl, k3, d3, nq, hq, xs, e3, b3, l3⟩ := q
      walk_at "go"
      refine ⟨_, _, rfl, st, sc, ns, 6, rfl, rfl, d3, by decide, by decide, fun w H4 a4 b4 k4 d4 => ?_⟩
      obtain ⟨qw, ws, hat, nqw, ewq, hbw, hlw⟩ := W w a4 b4
      walk_at "go"
      refine e_ixL (SqL.of (k4 _ _ mw (k3 _ _ mw ew))) hat ?_
      walk_at "go"
      refine e_cat (k4 _ _ nq e3) (k4 _ _ nqw (k3 _ _ nqw ewq)) (by rw [List.length_map, List.length_map]; omega) fun p7 hp7 => ?_
      have k34 := k3.trans k4
      have n7 := (kc.trans k34).free d4.some hp7
      walk_at "go"
      refine ⟨p7, _, rfl, k34.trans (Kp.new hp7), d4.same (same_new hp7), d4.free hp7, n7, xs ++ ws, by rw [upd_same, List.map_append], fun b hb => ?_, by rw [List.length_append]; omega⟩
      rcases List.mem_append.mp hb with h | h
      · exact b3 b h
      · exact hbw b h
    · obtain ⟨q, v3, rfl, k3, d3, nq, hq, xs, e3, b3, l3⟩ := q
      walk_at "go"
      exact k q xs H3 hq (kc.trans k3) d3 e3 b3 (by omega)
theorem ok_law_pieces (T : Txt K mg)   {f : Addr} {fd : FuncData} (F : FnP K "_law_pieces" s_law_pieces f fd) : FnOk P w K mg base CX0 1 f fd ["content"] (sp_law_pieces K) := by
  refine F.ok sc_law_pieces (fun vs H Q E h => ?_) (fun cdv A outer s H vs Q E hr h => ?_)
  · obtain ⟨_, rfl, _⟩ := h
    rfl
  · have S := sc_law_pieces
    refine ⟨_, PSs.nox (pss_one (ps_ret (pe_lc (own := [("at", 1)]) (g := gName 1) (tt := tYes) rfl S.nd (pi_range3 (by rfl) T.f_range (pa_cons pe_int (pa_cons (pe_callB call_len_seq (by rfl) T.f_len (by first | rfl | decide +kernel) (pa_cons (pv 0) pa_nil)) (pa_cons pe_int pa_nil)))) (blkOk_by (N := N_law_pieces) (sc := defScope s_law_pieces) (by decide +kernel)) (fun _ _ _ _ _ => (pg_name (i := 1) S.nd rfl (by first | exact .inl rfl | exact .inr rfl))) (fun _ _ _ _ _ => pts_nil) (fun _ _ _ _ _ => (pe_callTy (tupOK K) (by rfl) T.f_tuple (by first | rfl | decide +kernel) (pa_cons (pe_slice (slL K) (pv 0) (po_some (pv 1)) (po_some (pe_op op_add (pv 1) pe_int))) pa_nil)))))), ?_⟩
    try dsimp only [cxOf, Cx.nox]
    obtain ⟨_, rfl, p, xs, rfl, hS, hn, k⟩ := h
    walk_at "go"
    refine ⟨_, _, _, _, rfl, range4 (by omega) (by rw [List.length_map]; omega), ?_⟩
    intro D hD
    have e0 : (((xs.map V.int).length : Nat) : Int).toNat = xs.length := by rw [List.length_map]; omega
    refine lc_rel walk_rangeC hD (by rw [e0]; omega) (fun _ _ => trivial) (fun i v H1 => ∃ q, v = .ref q ∧ SqT K H1 q (((xs.drop (4 * i)).take 4).map V.int)) (fun i v H1 H2 h s => ?_) (fun i y H1 H2 C E acc hi s1 e1 hy hC => ?_) (fun H1 us s1 e1 l1 hr => ?_)
    · obtain ⟨q, h1, h2⟩ := h
      exact ⟨q, h1, same_tup s h2⟩
    · obtain ⟨rfl, rfl⟩ := hy
      walk_at "go"
      refine e_slL (s1.seq hS) fun r hr => ?_
      rw [cut_chunk]
      have s2 := same_new (o := .lst (((xs.drop (4 * i)).take 4).map V.int)) hr
      walk_at "go"
      refine ⟨r, _, rfl, .inl ⟨SqL.of upd_same, fun t ht => ?_⟩⟩
      refine hC _ _ (s2.trans (same_new ht)) ⟨t, rfl, SqT.of ?_⟩
      rw [hid_at fun m => by rw [List.mem_singleton.mp m, s2 _ _ e1] at ht; cases ht]
      exact upd_same
    obtain ⟨ps, rfl⟩ := all_refs us fun u m => by
      obtain ⟨i, hi⟩ := List.getElem?_of_mem m
      obtain ⟨q, e, _⟩ := hr i u hi
      exact ⟨q, e⟩
    rw [List.length_map, e0] at l1
    refine k D ps H1 hD s1 e1 (prd_mk (by rw [chunks_len]; exact l1) fun i q c h1 h2 => ?_)
    obtain ⟨q2, e2, e4⟩ := hr i (.ref q) (by rw [List.getElem?_map, h1]; rfl)
    cases e2
    have hi := (List.getElem?_eq_some_iff.mp h1).1
    rw [chunks_get xs i (by omega)] at h2
    cases h2
    exact same_tup hid_sub e4
theorem ok_law_number (T : Txt K mg)   {f : Addr} {fd : FuncData} (F : FnP K "_law_number" s_law_number f fd) : FnOk P w K mg base CX0 1 f fd ["piece"] (sp_law_number K) := by
  refine F.ok sc_law_number (fun vs H Q E h => ?_) (fun cdv A outer s H vs Q E hr h => ?_)
  · obtain ⟨_, rfl, _⟩ := h
    rfl
  · have S := sc_law_number
    refine ⟨_, PSs.nox (pss_cons (ps_set (i := 1) S.nd rfl (by first | exact .inl rfl | exact .inr rfl) pe_int)
    (pss_cons (ps_for PassesOwn.never rfl (pi_tup (pv 0)) (pg_name (i := 2) S.nd rfl (by first | exact .inl rfl | exact .inr rfl))
    (pss_one (ps_set (i := 1) S.nd rfl (by first | exact .inl rfl | exact .inr rfl) (pe_op op_add (pe_op op_mul (pv 1) pe_int) (pv 2)))))
    (pss_one (ps_ret (pv 1))))), ?_⟩
    try dsimp only [cxOf, Cx.nox]
    obtain ⟨_, rfl, p, c, rfl, hS, k⟩ := h
    walk_at "go"
    refine for_intsT (ns := c) (fun pre σ H1 => (∃ v2, σ = [some (.ref p), some (.int (bnum pre)), v2]) ∧ H1 = H) ⟨⟨_, rfl⟩, rfl⟩ (fun pre σ H1 q => by rw [q.2]; exact hS) (fun pre x post σ H1 e q => ?_) (fun σ H1 q => ?_)
    · obtain ⟨⟨v2, rfl⟩, rfl⟩ := q
      walk_at "go"
      refine ⟨⟨some (.int x), ?_⟩, rfl⟩
      have e2 : bnum (pre ++ [x]) = bnum pre * 256 + x := by
        unfold bnum
        rw [List.foldl_append]
        rfl
      rw [e2]
      rfl
    · obtain ⟨⟨v2, rfl⟩, rfl⟩ := q
      walk_at "go"
      exact k
theorem ok_law_missing (T : Txt K mg)  (m_Store_names : C8.Met P w K mg base 1 (He.ga K "Store") "names" (sp_Store_names K) []) (c_law_pieces : Cal P w K mg base 1 "_law_pieces" (sp_law_pieces K)) (m_Store_read : C8.Met P w K mg base 1 (He.ga K "Store") "read" (sp_Store_read K) []) (m_Store_attic : C8.Met P w K mg base 1 (He.ga K "Store") "attic" (sp_Store_attic K) []) (m_Store_temp : C8.Met P w K mg base 1 (He.ga K "Store") "temp" (sp_Store_temp K) []) (c_law_number : Cal P w K mg base 1 "_law_number" (sp_law_number K)) {f : Addr} {fd : FuncData} (F : FnP K "_law_missing" s_law_missing f fd) : FnOk P w K mg base CX0 2 f fd ["store", "name", "content"] (sp_law_missing K) := by
  refine F.ok sc_law_missing (fun vs H Q E h => ?_) (fun cdv A outer s H vs Q E hr h => ?_)
  · obtain ⟨_, _, _, rfl, _⟩ := h
    rfl
  · have S := sc_law_missing
    refine ⟨_, PSs.nox (pss_cons (ps_set (i := 3) S.nd rfl (by first | exact .inl rfl | exact .inr rfl) (pe_lst pa_nil))
    (pss_cons (ps_for PassesOwn.never rfl (pi_list (C8.pe_mt0 m_Store_names hr (by decide) (pv 0))) (pg_name (i := 4) S.nd rfl (by first | exact .inl rfl | exact .inr rfl))
    (pss_one (ps_set (i := 3) S.nd rfl (by first | exact .inl rfl | exact .inr rfl) (pe_op op_cat (pv 3) (pe_c c_law_pieces hr (by decide) (by rfl) (pa_cons (pe_ix ix_tup (C8.pe_mt m_Store_read hr (by decide) (pv 0) (pa_cons (pv 4) pa_nil)) pe_int (fun _ _ => rfl)) pa_nil))))))
    (pss_cons (ps_for PassesOwn.never rfl (pi_list (C8.pe_mt0 m_Store_attic hr (by decide) (pv 0))) (pg_name (i := 5) S.nd rfl (by first | exact .inl rfl | exact .inr rfl))
    (pss_one (ps_set (i := 3) S.nd rfl (by first | exact .inl rfl | exact .inr rfl) (pe_op op_cat (pv 3) (pe_c c_law_pieces hr (by decide) (by rfl) (pa_cons (pe_ix ix_tup (pv 5) pe_int (fun _ _ => rfl)) pa_nil))))))
    (pss_cons (ps_set (i := 6) S.nd rfl (by first | exact .inl rfl | exact .inr rfl) (C8.pe_mt m_Store_temp hr (by decide) (pv 0) (pa_cons (pv 1) pa_nil)))
    (pss_cons (ps_set (i := 7) S.nd rfl (by first | exact .inl rfl | exact .inr rfl) pe_int)
    (C8.pss_cut (ps_if (pt_cmpR op_notN (pv 6) pe_non (nomark _))
    (pss_cons (ps_set (i := 8) S.nd rfl (by first | exact .inl rfl | exact .inr rfl) (pe_c c_law_pieces hr (by decide) (by rfl) (pa_cons (pv 2) pa_nil)))
      (pss_cons (ps_for PassesOwn.never rfl (pi_range1 (by rfl) T.f_range (pa_cons (pe_callB call_len_seq (by rfl) T.f_len (by first | rfl | decide +kernel) (pa_cons (pv 8) pa_nil)) pa_nil)) (pg_name (i := 9) S.nd rfl (by first | exact .inl rfl | exact .inr rfl))
      (pss_one (ps_if (pw_and (pt_cmpR (op_eqP hr.units) (pe_slice sl_list (pv 6) (po_some (pe_op op_mul pe_int (pv 9))) (po_some (pe_op op_add (pe_op op_mul pe_int (pv 9)) (pe_callB call_len_seq (by rfl) T.f_len (by first | rfl | decide +kernel) (pa_cons (pe_ix ix_list (pv 8) (pv 9) (fun _ _ => rfl)) pa_nil))))) (pe_callTy call_list_of (by rfl) T.f_list (by first | rfl | decide +kernel) (pa_cons (pe_ix ix_list (pv 8) (pv 9) (fun _ _ => rfl)) pa_nil)) (nomark _)) (pw_and1 (pt_cmpR op_eq (pv 7) (pv 9) (nomark _)))).pt
        (pss_one (ps_set (i := 7) S.nd rfl (by first | exact .inl rfl | exact .inr rfl) (pe_op op_add (pv 9) pe_int)))
        pss_nil)))
      (pss_one (ps_set (i := 3) S.nd rfl (by first | exact .inl rfl | exact .inr rfl) (pe_op op_cat (pv 3) (pe_slice sl_list (pv 8) po_none (po_some (pv 7))))))))
    pss_nil)
    (pss_one (ps_ret (pe_lc (own := [("piece", 10)]) (g := gName 10) rfl S.nd (pi_list (pe_slice sl_list (pe_c c_law_pieces hr (by decide) (by rfl) (pa_cons (pv 2) pa_nil)) (po_some (pv 7)) po_none)) (blkOk_by (N := N_law_missing) (sc := defScope s_law_missing) (by decide +kernel)) (fun _ _ _ _ _ => (pg_name (i := 10) S.nd rfl (by first | exact .inl rfl | exact .inr rfl))) (fun _ _ _ _ _ => (pts_one (pt_cmpR (niDK K (un65 hr)) (pv 10) (pv 3) (by first | rfl | with_unfolding_all rfl)))) (fun _ _ _ _ _ => (pe_c c_law_number hr (by decide) (by rfl) (pa_cons (pv 10) pa_nil)))))))))))), ?_⟩
    try dsimp only [cxOf, Cx.nox]
    have st0 : STT K := ⟨T.cl_Store, T.no_Store__files, T.no_Store__temps, T.no_Store__attic, T.no_Store__log, T.no_Store__new_log, T.no_Store__budget, T.no_Store__done⟩
    obtain ⟨_, _, _, rfl, a, p, F, S, nm, ct, rfl, rfl, rfl, hS, hp, hb, hn, hB, hm, k⟩ := h
    walk_at "go"
    rename_i n0 hn0
    have s0 := same_new (o := .lst []) hn0
    have hS0 := hS.same s0
    walk_at "go"
    refine ⟨_, rfl, a, F, S, rfl, hS0, hm.f, fun pn H1 ys hpn s1 e1 hpy hsy => ?_⟩
    have yl : ys.length < 64 := by rw [hpy.length_eq, List.length_map]; exact hm.f
    have s01 := s0.trans s1
    walk_at "go"
    refine for_list (K := K) (xs := ys.map V.str) (fun i σ H2 => ∃ q v4, σ = [some (.ref a), some (.str nm), some (.ref p), some (.ref q), v4, none, none, none, none, none, none] ∧ Same H1 H2 ∧ ∃ ps cs, H2 q = some (.lst (ps.map V.ref)) ∧ Pcs K H2 ps cs ∧ cs.length ≤ 300 * i ∧ ∀ c, c ∈ cs ↔ ∃ y ∈ ys.take i, ∃ r, lk y S.fl = some r ∧ c ∈ chunks r.1) ⟨n0, _, rfl, Same.refl _, [], [], s1 _ _ upd_same, .nil, Nat.le_refl _, by simp⟩ (fun i σ H2 _ q => by
      obtain ⟨_, _, _, s2, _⟩ := q
      exact SqL.of (s2 _ _ e1)) (fun i x σ H2 hx q => ?_) (fun σ H2 q => ?_)
    · obtain ⟨q, v4, rfl, s2, ps, cs, e2, q2, l2, m2⟩ := q
      rw [List.getElem?_map] at hx
      obtain ⟨y, hy, rfl⟩ := Option.map_eq_some_iff.mp hx
      have hi := (List.getElem?_eq_some_iff.mp hy).1
      obtain ⟨rr, hrr, mr⟩ := lk_mem (hpy.mem_iff.mp (List.mem_of_getElem? hy))
      have hS2 := hS.same (s01.trans s2)
      have lf := hm.fl _ mr
      have lf2 : rr.1.length ≤ 1000 := lf
      walk_at "go"
      refine ⟨_, _, rfl, a, F, S, y, rr, rfl, rfl, hS2, hrr, fun t l H3 s3 e3 e4 => ?_⟩
      walk_at "go"
      refine e_ixT (SqT.of e3) rfl ?_
      walk_at "go"
      refine ⟨_, rfl, l, rr.1, rfl, SqL.of e4, lf, fun q5 ps5 H5 hq5 s5 e5 p5 => ?_⟩
      have l5 := paired_len p5
      have l6 := paired_len q2
      rw [chunks_len] at l5
      walk_at "go"
      refine e_cat (s5 _ _ (s3 _ _ e2)) e5 (by rw [List.length_map, List.length_map]; omega) fun q6 hq6 => ?_
      have s6 := same_new (o := .lst (ps.map V.ref ++ ps5.map V.ref)) hq6
      walk_at "go"
      refine ⟨q6, _, rfl, ((s2.trans s3).trans s5).trans s6, ps ++ ps5, cs ++ chunks rr.1, by rw [upd_same, List.map_append], prd_app (pcs_same q2 ((s3.trans s5).trans s6)) (pcs_same p5 s6), by rw [List.length_append, chunks_len]; omega, fun c => ?_⟩
      rw [List.mem_append, m2, List.take_add_one, hy]
      constructor
      · rintro (⟨y2, h1, h2⟩ | h)
        · exact ⟨y2, List.mem_append_left _ h1, h2⟩
        · exact ⟨y, List.mem_append_right _ (by simp), rr, hrr, h⟩
      · rintro ⟨y2, h1, r2, h2, h3⟩
        rcases List.mem_append.mp h1 with h1 | h1
        · exact .inl ⟨y2, h1, r2, h2, h3⟩
        · have : y2 = y := by simpa using h1
          rw [this, hrr] at h2
          cases h2
          exact .inr h3
    obtain ⟨q, v4, rfl, s2, ps, cs, e2, q2, l2, m2⟩ := q
    rw [List.length_map] at l2 m2
    rw [List.take_length] at m2
    have s02 := s01.trans s2
    have hS2 := hS.same s02
    walk_at "go"
    refine ⟨_, rfl, a, F, S, rfl, hS2, Nat.le_trans hm.a (by decide), fun pa qa H3 hpa s3 e3 hAt => ?_⟩
    have la := paired_len hAt
    have ha := hm.a
    walk_at "go"
    refine for_list (K := K) (xs := qa.map V.ref) (fun i σ H4 => ∃ q v5, σ = [some (.ref a), some (.str nm), some (.ref p), some (.ref q), v4, v5, none, none, none, none, none] ∧ Same H3 H4 ∧ ∃ ps cs, H4 q = some (.lst (ps.map V.ref)) ∧ Pcs K H4 ps cs ∧ cs.length ≤ 20000 + 300 * i ∧ ∀ c, c ∈ cs ↔ (∃ y ∈ ys, ∃ r, lk y S.fl = some r ∧ c ∈ chunks r.1) ∨ ∃ r ∈ S.at_.take i, c ∈ chunks r.2.2) ⟨q, _, rfl, Same.refl _, ps, cs, s3 _ _ e2, pcs_same q2 s3, by omega, by simpa using m2⟩ (fun i σ H4 _ q => by
      obtain ⟨_, _, _, s4, _⟩ := q
      exact SqL.of (s4 _ _ e3)) (fun i x σ H4 hx q => ?_) (fun σ H4 q => ?_)
    · obtain ⟨q, v5, rfl, s4, ps, cs, e4, q4, l4, m4⟩ := q
      rw [List.getElem?_map] at hx
      obtain ⟨qr, hqr, rfl⟩ := Option.map_eq_some_iff.mp hx
      have hi := (List.getElem?_eq_some_iff.mp hqr).1
      obtain ⟨rr, hrr, vv, l, t1, t2, t3⟩ := paired_get hAt i qr hqr
      have lf := hm.al _ (List.mem_of_getElem? hrr)
      have t1 := s4 _ _ t1
      have t3 := s4 _ _ t3
      walk_at "go"
      refine e_ixT (SqT.of t1) rfl ?_
      walk_at "go"
      refine ⟨_, rfl, l, rr.2.2, rfl, SqL.of t3, lf, fun q5 ps5 H5 hq5 s5 e5 p5 => ?_⟩
      have l5 := paired_len p5
      have l6 := paired_len q4
      rw [chunks_len] at l5
      walk_at "go"
      refine e_cat (s5 _ _ e4) e5 (by rw [List.length_map, List.length_map]; omega) fun q6 hq6 => ?_
      have s6 := same_new (o := .lst (ps.map V.ref ++ ps5.map V.ref)) hq6
      walk_at "go"
      refine ⟨q6, _, rfl, (s4.trans s5).trans s6, ps ++ ps5, cs ++ chunks rr.2.2, by rw [upd_same, List.map_append], prd_app (pcs_same q4 (s5.trans s6)) (pcs_same p5 s6), by rw [List.length_append, chunks_len]; omega, fun c => ?_⟩
      rw [List.mem_append, m4, List.take_add_one, hrr, or_assoc]
      refine or_congr Iff.rfl ?_
      constructor
      · rintro (⟨y2, h1, h2⟩ | h)
        · exact ⟨y2, List.mem_append_left _ h1, h2⟩
        · exact ⟨rr, List.mem_append_right _ (by simp), h⟩
      · rintro ⟨y2, h1, h3⟩
        rcases List.mem_append.mp h1 with h1 | h1
        · exact .inl ⟨y2, h1, h3⟩
        · have : y2 = rr := by simpa using h1
          rw [this] at h3
          exact .inr h3
    clear m2 q2 e2 l2
    obtain ⟨q, v5, rfl, s4, ps, cs, e4, q4, l4, m4⟩ := q
    rw [List.length_map, la] at l4 m4
    rw [List.take_length] at m4
    have s04 := (s02.trans s3).trans s4
    have hS4 := hS.same s04
    walk_at "go"
    refine e_temp hS4 fun v6 H5 s5 hv6 => ?_
    have s05 := s04.trans s5
    have hp5 := s05.seq hp
    have hcp := chunks_piece ct hb
    have hcl : (chunks ct).length ≤ 4 := by rw [chunks_len]; omega
    have e45 := s5 _ _ e4
    have q45 := pcs_same q4 s5
    walk_at "go"
    refine e_cut (Mid := fun σ' H' => ∃ q v8 v9, σ' = [some (.ref a), some (.str nm), some (.ref p), some (.ref q), v4, v5, some v6, some (.int (keptS S nm (nums ct) : Nat)), v8, v9, none] ∧ Same H5 H' ∧ ∃ ps cs, H' q = some (.lst (ps.map V.ref)) ∧ Pcs K H' ps cs ∧ ∀ c, c ∈ cs ↔ ((∃ y ∈ ys, ∃ r, lk y S.fl = some r ∧ c ∈ chunks r.1) ∨ ∃ r ∈ S.at_, c ∈ chunks r.2.2) ∨ c ∈ (chunks ct).take (keptS S nm (nums ct))) ?_ ?_
    · rcases hv6 with ⟨rfl, hl⟩ | ⟨lt, bs, rfl, hl, elt⟩
      · have ek : keptS S nm (nums ct) = 0 := by unfold keptS; rw [hl]
        rw [ek]
        walk_at "go"
        refine ⟨rfl, _, rfl, i_nd (fun n => absurd rfl n) fun _ => ?_⟩
        walk_at "go"
        exact ⟨q, _, _, rfl, Same.refl _, ps, cs, e45, q45, by simpa using m4⟩
      · have ek : keptS S nm (nums ct) = keptN ((chunks ct).map bnum) bs := by unfold keptS; rw [hl]; rfl
        rw [ek]
        have hkl := kept_le ((chunks ct).map bnum) bs
        rw [List.length_map] at hkl
        walk_at "go"
        refine ⟨rfl, _, rfl, i_nd (fun _ => ?_) fun z => nomatch z⟩
        walk_at "go"
        refine ⟨_, rfl, p, ct, rfl, hp5, by omega, fun q8 ps8 H6 hq8 s6 e6 p8 => ?_⟩
        have lp8 := paired_len p8
        walk_at "go"
        refine ⟨by omega, by rw [List.length_map]; omega, ?_⟩
        refine for_rng (fun i σ H7 => (∃ v9, σ = [some (.ref a), some (.str nm), some (.ref p), some (.ref q), v4, v5, some (.ref lt), some (.int ((min (keptN ((chunks ct).map bnum) bs) i : Nat) : Int)), some (.ref q8), v9, none]) ∧ Same H6 H7) ⟨⟨_, by rw [Nat.min_zero]; rfl⟩, Same.refl _⟩ (fun i σ H7 hi z => ?_) (fun σ H7 z => ?_)
        · obtain ⟨⟨v9, rfl⟩, s7⟩ := z
          have hi2 : i < ps8.length := by rw [List.length_map] at hi; omega
          have hps := List.getElem?_eq_getElem hi2
          generalize ps8[i] = pi at hps
          obtain ⟨c, hc, tc⟩ := paired_get p8 i pi hps
          have t7 := same_tup s7 tc
          have e67 := s7 _ _ e6
          have elt7 := s7 _ _ (s6 _ _ elt)
          have hat : atI (ps8.map V.ref) (0 + (i : Int)) = some (.ref pi) := at_of (j := i) (by omega) (by rw [List.getElem?_map, hps]; rfl)
          walk_at "go"
          refine e_ixL (SqL.of e67) hat ?_
          walk_at "go"
          refine e_slL (SqL.of elt7) fun r hr => ?_
          rw [List.length_map, show (4 * (0 + (i : Int))) = ((4 * i : Nat) : Int) from by omega, cut_mid]
          have s8 := same_new (o := .lst (((bs.drop (4 * i)).take c.length).map V.int)) hr
          have t8 := same_tup s8 t7
          have e68 := s8 _ _ e67
          have er := upd_same (H := H7) (a := r) (o := .lst (((bs.drop (4 * i)).take c.length).map V.int))
          generalize upd H7 r (.lst (((bs.drop (4 * i)).take c.length).map V.int)) = H8 at s8 t8 e68 er ⊢
          walk_at "go"
          refine e_ixL (SqL.of e68) hat ?_
          walk_at "go"
          intro l9 hl9
          have s9 := same_new (o := .lst (c.map V.int)) hl9
          have hcl2 : i < (chunks ct).length := by omega
          have knx := fun h => kept_next (bs := bs) hcp hc (chunks_pre ct i hcl2) h
          walk_at "go"
          refine e_eqPL (SqL.of (s9 _ _ er)) (SqL.of upd_same) ?_
          walk_at "go"
          have stay : ¬ i + 1 ≤ keptN ((chunks ct).map bnum) bs → min (keptN ((chunks ct).map bnum) bs) (i + 1) = min (keptN ((chunks ct).map bnum) bs) i := fun h => by omega
          generalize keptN ((chunks ct).map bnum) bs = kk at knx stay hkl
          refine i_d (fun y => ?_) (fun n => ?_)
          · walk_at "go"
            refine i_d (fun y2 => ?_) (fun n2 => ?_)
            · have h1 : i ≤ kk := by omega
              have h2 := (knx h1).mp y
              walk_at "go"
              refine ⟨⟨some (.int (0 + (i : Int))), ?_⟩, (s7.trans s8).trans s9⟩
              rw [Nat.min_eq_right h2, show (0 + (i : Int)) + 1 = ((i + 1 : Nat) : Int) from by omega]
              rfl
            · walk_at "go"
              refine ⟨⟨some (.int (0 + (i : Int))), ?_⟩, (s7.trans s8).trans s9⟩
              rw [stay (by omega)]
              rfl
          · have h2 : ¬ i + 1 ≤ kk := fun h => n ((knx (by omega)).mpr h)
            walk_at "go"
            refine ⟨⟨some (.int (0 + (i : Int))), ?_⟩, (s7.trans s8).trans s9⟩
            rw [stay h2]
            rfl
        · obtain ⟨⟨v9, rfl⟩, s7⟩ := z
          rw [List.length_map, Int.toNat_natCast, lp8, Nat.min_eq_left hkl]
          have e67 := s7 _ _ e6
          have s57 := s6.trans s7
          walk_at "go"
          refine e_slL (SqL.of e67) fun r hr => ?_
          rw [cut_toV, ← List.map_take]
          have s8 := same_new (o := .lst ((ps8.take (keptN ((chunks ct).map bnum) bs)).map V.ref)) hr
          walk_at "go"
          have lps := paired_len q4
          refine e_cat (s8 _ _ (s57 _ _ e45)) upd_same (by rw [List.length_map, List.length_map, List.length_take]; omega) fun q9 hq9 => ?_
          have s9 := same_new (o := .lst (ps.map V.ref ++ (ps8.take (keptN ((chunks ct).map bnum) bs)).map V.ref)) hq9
          walk_at "go"
          refine ⟨q9, _, _, rfl, (s57.trans s8).trans s9, ps ++ ps8.take _, cs ++ (chunks ct).take _, by rw [upd_same, List.map_append], prd_app (pcs_same q45 ((s57.trans s8).trans s9)) (prd_take _ (pcs_same p8 ((s7.trans s8).trans s9))), fun c => ?_⟩
          rw [List.mem_append, m4]
    rintro σ' H6 ⟨q6, v8, v9, rfl, s6, ps6, cs6, e6, p6, m6⟩
    clear m4 q4 e4 e45 q45 l4
    have hp6 := s6.seq hp5
    walk_at "go"
    refine ⟨_, rfl, p, ct, rfl, hp6, by omega, fun q8 ps8 H7 hq8 s7 e7 p8 => ?_⟩
    walk_at "go"
    refine e_slL (SqL.of e7) fun r hr => ?_
    rw [cut_fromV, ← List.map_drop]
    have s8 := same_new (o := .lst ((ps8.drop (keptS S nm (nums ct))).map V.ref)) hr
    have p8 := prd_drop (keptS S nm (nums ct)) (pcs_same p8 s8)
    have e68 := s8 _ _ (s7 _ _ e6)
    have p68 := pcs_same p6 (s7.trans s8)
    have er := upd_same (H := H7) (a := r) (o := .lst ((ps8.drop (keptS S nm (nums ct))).map V.ref))
    have s08 := ((s05.trans s6).trans s7).trans s8
    generalize upd H7 r (.lst ((ps8.drop (keptS S nm (nums ct))).map V.ref)) = H8 at s8 p8 e68 p68 er s08 ⊢
    generalize ps8.drop (keptS S nm (nums ct)) = psd at p8 er
    walk_at "go"
    intro D hD
    have lpd := paired_len p8
    have hpd : ∀ c ∈ (chunks ct).drop (keptS S nm (nums ct)), Piece c := fun c m => hcp c (List.mem_of_mem_drop m)
    have lcd : ((chunks ct).drop (keptS S nm (nums ct))).length ≤ 4 := by rw [List.length_drop]; omega
    refine lc_it (walk_list (K := K) (xs := psd.map V.ref)) (fun i H9 => Same H8 H9 ∧ ∃ ms : List Int, H9 D = some (.lst (ms.map V.int)) ∧ ms.length ≤ i ∧ ∀ x, x ∈ ms ↔ ∃ c ∈ ((chunks ct).drop (keptS S nm (nums ct))).take i, c ∉ cs6 ∧ x = bnum c) ⟨same_new hD, [], upd_same, Nat.le_refl _, by simp⟩ (fun i H9 _ z => SqL.of (z.1 _ _ er)) (fun i x H9 H10 hi z hy => ?_) (fun H9 z => ?_)
    · obtain ⟨s9, ms, e9, l9, m9⟩ := z
      obtain ⟨rfl, hx⟩ := hy
      rw [List.length_map] at hi
      rw [List.getElem?_map] at hx
      obtain ⟨pc, hpc, rfl⟩ := Option.map_eq_some_iff.mp hx
      obtain ⟨c, hc, tc⟩ := paired_get p8 i pc hpc
      have tc9 := same_tup s9 tc
      have hstep : ∀ x, (∃ d ∈ ((chunks ct).drop (keptS S nm (nums ct))).take (i + 1), d ∉ cs6 ∧ x = bnum d) ↔ (∃ d ∈ ((chunks ct).drop (keptS S nm (nums ct))).take i, d ∉ cs6 ∧ x = bnum d) ∨ (c ∉ cs6 ∧ x = bnum c) := fun x => by
        rw [List.take_add_one, hc]
        constructor
        · rintro ⟨d, hd, h⟩
          rcases List.mem_append.mp hd with hd | hd
          · exact .inl ⟨d, hd, h⟩
          · have : d = c := by simpa using hd
            rw [this] at h
            exact .inr h
        · rintro (⟨d, hd, h⟩ | h)
          · exact ⟨d, List.mem_append_left _ hd, h⟩
          · exact ⟨c, List.mem_append_right _ (by simp), h⟩
      walk_at "go"
      refine e_ninPc tc9 (SqL.of (s9 _ _ e68)) (pcs_same p68 s9) ?_
      walk_at "go"
      refine i_nd (fun n => ?_) (fun y => ?_)
      · walk_at "go"
        refine ⟨_, rfl, pc, c, rfl, tc9, ?_⟩
        refine ⟨_, e9, ?_, Same.mut s9 hD, ms ++ [bnum c], by rw [upd_same, List.map_append]; rfl, by rw [List.length_append, List.length_singleton]; omega, fun x => ?_⟩
        · rw [List.length_map]
          exact Nat.lt_of_le_of_lt (by omega : _ ≤ 4) (by decide)
        · rw [List.mem_append, List.mem_singleton, m9, hstep]
          exact or_congr Iff.rfl ⟨fun h => ⟨n, h⟩, fun h => h.2⟩
      · refine ⟨s9, ms, e9, by omega, fun x => ?_⟩
        rw [m9, hstep]
        exact ⟨.inl, fun h => h.elim id fun h => absurd y h.1⟩
    · obtain ⟨s9, ms, e9, l9, m9⟩ := z
      rw [List.length_map, lpd] at l9 m9
      rw [List.take_length] at m9
      refine k D ms H9 (s08.trans s9) (s08.free hD) e9 (by omega) fun x => ?_
      rw [m9]
      unfold Mis
      have ed : (nums ct).drop (keptS S nm (nums ct)) = ((chunks ct).drop (keptS S nm (nums ct))).map bnum := by rw [List.map_drop]; rfl
      have et : (nums ct).take (keptS S nm (nums ct)) = ((chunks ct).take (keptS S nm (nums ct))).map bnum := by rw [List.map_take]; rfl
      rw [ed, et]
      have key : ∀ c, Piece c → (c ∈ cs6 ↔ (bnum c ∈ ((chunks ct).take (keptS S nm (nums ct))).map bnum ∨ (∃ r ∈ S.fl, bnum c ∈ nums r.2.1) ∨ ∃ r ∈ S.at_, bnum c ∈ nums r.2.2)) := fun c pc => by
        rw [m6, num_mem pc fun d m => hcp d (List.mem_of_mem_take m), or_comm]
        refine or_congr Iff.rfl (or_congr ?_ ?_)
        · constructor
          · rintro ⟨y, _, r, h1, h2⟩
            have hy : y ∈ S.fl.map (·.1) := Decidable.byContradiction fun n => by rw [lk_none n] at h1; cases h1
            obtain ⟨r2, e2, mr⟩ := lk_mem hy
            rw [h1] at e2
            cases e2
            exact ⟨_, mr, (num_mem pc (chunks_piece _ (hB.f _ mr))).mpr h2⟩
          · rintro ⟨r, hr, h⟩
            exact ⟨r.1, hpy.mem_iff.mpr (List.mem_map.mpr ⟨r, hr, rfl⟩), r.2, lk_of hS.names r hr, (num_mem pc (chunks_piece _ (hB.f _ hr))).mp h⟩
        · constructor
          · rintro ⟨r, hr, h⟩
            exact ⟨r, hr, (num_mem pc (chunks_piece _ (hB.a _ hr))).mpr h⟩
          · rintro ⟨r, hr, h⟩
            exact ⟨r, hr, (num_mem pc (chunks_piece _ (hB.a _ hr))).mp h⟩
      constructor
      · rintro ⟨c, h1, h2, rfl⟩
        exact ⟨List.mem_map.mpr ⟨c, h1, rfl⟩, fun h => h2 ((key c (hpd c h1)).mpr h)⟩
      · rintro ⟨h1, h2⟩
        obtain ⟨c, hc, rfl⟩ := List.mem_map.mp h1
        exact ⟨c, hc, fun h => h2 ((key c (hpd c hc)).mp h), rfl⟩
theorem ok_law (T : Txt K mg) (c_Store : C8.Mak P w K mg base 1 "Store" (He.ga K "Store") (sp_Store___init__ K) [])  (c_Entry : C8.Mak P w K mg base 1 "Entry" (He.ga K "Entry") (sp_Entry___init__ K) [])  (c_law_draws : Cal P w K mg base 1 "_law_draws" (sp_law_draws K)) (c_law_draw : Cal P w K mg base 1 "_law_draw" (sp_law_draw K)) (m_Store_write : C8.Met P w K mg base 2 (He.ga K "Store") "write" (sp_Store_write K) []) (c_law_content : Cal P w K mg base 2 "_law_content" (sp_law_content K)) (m_Store_append_temp : C8.Met P w K mg base 2 (He.ga K "Store") "append_temp" (sp_Store_append_temp K) []) (m_Store_attic_put : C8.Met P w K mg base 2 (He.ga K "Store") "attic_put" (sp_Store_attic_put K) []) (m_Store_durable : C8.Met P w K mg base 1 (He.ga K "Store") "durable" (sp_Store_durable K) []) (c_split : Cal P w K mg base 2 "split" (sp_split K)) (c_law_missing : Cal P w K mg base 2 "_law_missing" (sp_law_missing K)) (c_must_come : Cal P w K mg base 7 "must_come" (sp_must_come K)) {f : Addr} {fd : FuncData} (F : FnP K "law" s_law f fd) : FnOk P w K mg base CX0 8 f fd ["script"] (sp_law K) := by
  refine F.ok sc_law (fun vs H Q E h => ?_) (fun cdv A outer s H vs Q E hr h => ?_)
  · obtain ⟨_, rfl, _⟩ := h
    rfl
  · have S := sc_law
    refine ⟨_, PSs.nox (pss_cons (ps_set (i := 1) S.nd rfl (by first | exact .inl rfl | exact .inr rfl) (pe_c c_law_draws hr (by decide) (by rfl) (pa_cons (pv 0) pa_nil)))
    (pss_cons (ps_set (i := 2) S.nd rfl (by first | exact .inl rfl | exact .inr rfl) (C8.pe_mk c_Store hr (by decide) (by rfl) (pa_cons pe_dnewK (pa_cons (pe_lst pa_nil) pa_nil))))
    (pss_cons (ps_set (i := 3) S.nd rfl (by first | exact .inl rfl | exact .inr rfl) (pe_lst (pa_cons pe_str (pa_cons pe_str (pa_cons pe_str (pa_cons pe_str pa_nil))))))
    (pss_cons (ps_for PassesOwn.never rfl (pi_range1 (by rfl) T.f_range (pa_cons (pe_c c_law_draw hr (by decide) (by rfl) (pa_cons (pv 1) (pa_cons pe_int pa_nil))) pa_nil)) (pg_name (i := 4) S.nd rfl (by first | exact .inl rfl | exact .inr rfl))
    (pss_one (ps_expr (C8.pe_mt m_Store_write hr (by decide) (pv 2) (pa_cons (pe_ix ix_list (pv 3) (pe_c c_law_draw hr (by decide) (by rfl) (pa_cons (pv 1) (pa_cons pe_int pa_nil))) (fun _ _ => rfl)) (pa_cons (pe_c c_law_content hr (by decide) (by rfl) (pa_cons (pv 1) pa_nil)) (pa_cons pe_int pa_nil)))))))
    (pss_cons (ps_for PassesOwn.never rfl (pi_range1 (by rfl) T.f_range (pa_cons (pe_c c_law_draw hr (by decide) (by rfl) (pa_cons (pv 1) (pa_cons pe_int pa_nil))) pa_nil)) (pg_name (i := 4) S.nd rfl (by first | exact .inl rfl | exact .inr rfl))
    (pss_one (ps_expr (C8.pe_mt m_Store_append_temp hr (by decide) (pv 2) (pa_cons (pe_ix ix_list (pv 3) (pe_c c_law_draw hr (by decide) (by rfl) (pa_cons (pv 1) (pa_cons pe_int pa_nil))) (fun _ _ => rfl)) (pa_cons (pe_c c_law_content hr (by decide) (by rfl) (pa_cons (pv 1) pa_nil)) pa_nil))))))
    (pss_cons (ps_for PassesOwn.never rfl (pi_range1 (by rfl) T.f_range (pa_cons (pe_c c_law_draw hr (by decide) (by rfl) (pa_cons (pv 1) (pa_cons pe_int pa_nil))) pa_nil)) (pg_name (i := 4) S.nd rfl (by first | exact .inl rfl | exact .inr rfl))
    (pss_one (ps_expr (C8.pe_mt m_Store_attic_put hr (by decide) (pv 2) (pa_cons (pe_ix ix_list (pv 3) (pe_c c_law_draw hr (by decide) (by rfl) (pa_cons (pv 1) (pa_cons pe_int pa_nil))) (fun _ _ => rfl)) (pa_cons (pe_tup (pa_cons (pe_tup (pa_cons pe_int (pa_cons (pe_op op_add (pv 4) pe_int) pa_nil))) pa_nil)) (pa_cons (pe_c c_law_content hr (by decide) (by rfl) (pa_cons (pv 1) pa_nil)) pa_nil)))))))
    (pss_cons (ps_set (i := 5) S.nd rfl (by first | exact .inl rfl | exact .inr rfl) (C8.pe_mt0 m_Store_durable hr (by decide) (pv 2)))
    (pss_cons (ps_set (i := 6) S.nd rfl (by first | exact .inl rfl | exact .inr rfl) (pe_lst pa_nil))
    (pss_cons (ps_set (i := 7) S.nd rfl (by first | exact .inl rfl | exact .inr rfl) (pe_lst pa_nil))
    (pss_cons (ps_for PassesOwn.never rfl (pi_range1 (by rfl) T.f_range (pa_cons (pe_op op_add pe_int (pe_c c_law_draw hr (by decide) (by rfl) (pa_cons (pv 1) (pa_cons pe_int pa_nil)))) pa_nil)) (pg_name (i := 4) S.nd rfl (by first | exact .inl rfl | exact .inr rfl))
    (pss_cons (ps_set (i := 8) S.nd rfl (by first | exact .inl rfl | exact .inr rfl) (pe_c c_law_content hr (by decide) (by rfl) (pa_cons (pv 1) pa_nil)))
      (pss_cons (ps_set (i := 9) S.nd rfl (by first | exact .inl rfl | exact .inr rfl) (pe_ix ix_list (pv 3) (pe_c c_law_draw hr (by decide) (by rfl) (pa_cons (pv 1) (pa_cons pe_int pa_nil))) (fun _ _ => rfl)))
      (pss_cons (ps_expr (pe_bm PySem.F.plainAttrs_list PySem.F.slot_list_append PySem.F.type_list_append mt_append (pv 7) (pa_cons (C8.pe_mk c_Entry hr (by decide) (by rfl) (pa_cons (pv 9) (pa_cons (pe_tup (pa_cons (pe_tup (pa_cons pe_int (pa_cons (pe_op op_add (pv 4) pe_int) pa_nil))) pa_nil)) (pa_cons pe_int (pa_cons (pe_tup (pa_cons pe_int (pa_cons (pe_op op_add (pv 4) pe_int) pa_nil))) (pa_cons pe_bl (pa_cons pe_int (pa_cons (pe_c c_split hr (by decide) (by rfl) (pa_cons (pv 8) pa_nil)) pa_nil)))))))) pa_nil)))
      (pss_one (ps_set (i := 6) S.nd rfl (by first | exact .inl rfl | exact .inr rfl) (pe_op op_cat (pv 6) (pe_c c_law_missing hr (by decide) (by rfl) (pa_cons (pv 2) (pa_cons (pv 9) (pa_cons (pv 8) pa_nil)))))))))))
    (pss_cons (ps_set (i := 10) S.nd rfl (by first | exact .inl rfl | exact .inr rfl) (pe_c c_must_come hr (by decide) (by rfl) (pa_cons (pv 2) (pa_cons (pv 7) pa_nil))))
    (pss_one (ps_ret (pe_and (pe_cmpR (op_eqP hr.units) (pv 10) (pe_callB (call_sortedDI rfl) (by rfl) T.f_sorted (by first | rfl | decide +kernel) (pa_cons (pe_callTy (call_dictP rfl) (by rfl) T.f_dict (by first | rfl | decide +kernel) (pa_cons (pe_lc (own := [("block", 11)]) (g := gName 11) (tt := tYes) rfl S.nd (pi_list (pv 6)) (blkOk_by (N := N_law) (sc := defScope s_law) (by decide +kernel)) (fun _ _ _ _ _ => (pg_name (i := 11) S.nd rfl (by first | exact .inl rfl | exact .inr rfl))) (fun _ _ _ _ _ => pts_nil) (fun _ _ _ _ _ => (pe_tup (pa_cons (pv 11) (pa_cons pe_bl pa_nil))))) pa_nil)) pa_nil)) (nomark _)) (pe_and (pe_cmpR (op_eqP hr.units) (C8.pe_mt0 m_Store_durable hr (by decide) (pv 2)) (pv 5) (nomark _)) (pe_one (pe_cmpR (op_eqP hr.units) (pe_c c_must_come hr (by decide) (by rfl) (pa_cons (pv 2) (pa_cons (pe_lst pa_nil) pa_nil))) (pe_lst pa_nil) (nomark _)))))))))))))))))), ?_⟩
    try dsimp only [cxOf, Cx.nox]
    have st0 : STT K := ⟨T.cl_Store, T.no_Store__files, T.no_Store__temps, T.no_Store__attic, T.no_Store__log, T.no_Store__new_log, T.no_Store__budget, T.no_Store__done⟩
    have t : ET K := ⟨T.cl_Entry, T.no_Entry_name, T.no_Entry_vector, T.no_Entry_height, T.no_Entry_maker, T.no_Entry_deleted, T.no_Entry_time, T.no_Entry_blocks⟩
    obtain ⟨_, rfl, sa, ns, rfl, hL, hn, k⟩ := h
    walk_at "go"
    refine ⟨_, rfl, sa, ns, rfl, hL, hn, fun st sc Hb hst sb dB => ?_⟩
    walk_at "go"
    refine e_dnewK fun fd hfd => ?_
    have s1 := same_new (o := .dK []) hfd
    walk_at "go"
    rename_i lg hlg
    have s2 := same_new (o := .lst []) hlg
    intro a dxs ha hdxs nda
    have s12 := s1.trans s2
    have sG : Same Hb _ := s12.trans (Same.mut (o := .ins (cSto K) dxs []) (same_new (o := .own a) hdxs) ha)
    have eFd := (Same.mut (o := .ins (cSto K) dxs []) (same_new (o := .own a) hdxs) ha) _ _ (s2 _ _ (upd_same (H := Hb) (a := fd) (o := .dK [])))
    have eLg := (Same.mut (o := .ins (cSto K) dxs []) (same_new (o := .own a) hdxs) ha) _ _ (upd_same (a := lg) (o := .lst []))
    have hab := s12.free ha
    have dG := dB.same sG
    have alG : Al [st] _ := fun b m => by
      obtain ⟨_, _, _, _, _, _, h⟩ := dG.s
      rw [List.mem_singleton.mp m]; exact ⟨_, h⟩
    refine ⟨_, _, _, rfl, a, fd, lg, dxs, [], [], [st], rfl, rfl, rfl, upd_same, eFd, .nil, by simp, by decide, SqL.of eLg, alG, fun F H3 hk hF hS => ⟨rfl, ?_⟩⟩
    have f3 : Fr [a] _ H3 := fun b o n e => hk b (fun z => n (List.mem_singleton.mpr z)) o e
    obtain ⟨k3, d3⟩ := dwFr dB (Kp.of sG) dG f3 (fun x m => by rw [List.mem_singleton.mp m]; exact hab)
    have hFb : ∀ b ∈ F, Hb b = none := fun b m => (hF b m).elim (fun z => by rw [z]; exact hab) fun z => sG.free z
    clear alG eFd eLg hk hF f3 dG sG s12 s1 s2 hlg hfd ha hdxs
    walk_at "go"
    rename_i nl hnl
    have s4 := same_new (o := .lst nm4V) hnl
    have hS4 : Sto K (hid [st, nl] (upd H3 nl (.lst nm4V))) F a ⟨[], [], [], 0⟩ := hS.same fun y o h => by
      obtain ⟨n, h⟩ := hid_some h
      have n2 : y ≠ nl := ne_of_none h hnl
      have n1 : y ≠ st := fun z => n (by rw [z]; simp)
      rw [hid_at (by simp [n1, n2]), upd_ne n2]
      exact h
    have v0 : Nv K st sc ns nl a Hb (upd H3 nl (.lst nm4V)) F ⟨[], [], [], 0⟩ 0 0 0 := ⟨k3.trans (Kp.of s4), d3.same s4, upd_same, hS4, hFb, Nat.le_refl _, (fun r h => (by cases h)), Nat.le_refl _, (fun r h => (by cases h)), Nat.le_refl _, (fun r h => (by cases h))⟩
    generalize upd H3 nl (.lst nm4V) = H4 at v0 ⊢
    clear hS4 s4 hnl hS d3 k3 hFb
    walk_at "go"
    refine ⟨_, _, rfl, st, sc, ns, 5, rfl, rfl, v0.d, by decide, by decide, fun m1 H5 a5 b5 k5 d5 => ?_⟩
    have v5 := v0.kp k5 d5
    walk_at "go"
    refine for_rng (fun i σ H6 => (∃ v4, σ = [some (.ref sa), some (.ref st), some (.ref a), some (.ref nl), v4, none, none, none, none, none, none, none]) ∧ ∃ F S, Nv K st sc ns nl a Hb H6 F S i 0 0) ⟨⟨_, rfl⟩, F, _, v5⟩ (fun i σ H6 hi q => ?_) (fun σ H6 q => ?_)
    · obtain ⟨⟨v4, rfl⟩, F, S, v⟩ := q
      have hSto := v.s.sub
      walk_at "go"
      refine ⟨_, _, rfl, st, sc, ns, 4, rfl, rfl, v.d, by decide, by decide, fun w H7 a7 b7 k7 d7 => ?_⟩
      have v7 := v.kp k7 d7
      obtain ⟨z, hz⟩ := nm4_at w a7 b7
      refine e_ixL (SqL.of v7.n) hz ?_
      walk_at "go"
      refine ⟨_, rfl, st, sc, ns, rfl, v7.d, fun c ct H8 hc k8 d8 e8 b8 l8 => ?_⟩
      have v8 := v7.kp k8 d8
      walk_at "go"
      refine ⟨_, _, _, _, rfl, a, c, F, [st, nl], S, z, ct, 7, rfl, rfl, rfl, rfl, v8.lists, v8.s, SqL.of e8, by have := v8.fl; omega, fun fl2 H9 f9 s9 l9 m9 => ?_⟩
      refine ⟨⟨_, rfl⟩, F, _, v8.fr dB f9 s9 (fun b m => .inl m) (by have := v8.fl; show fl2.length ≤ i + 1; omega) (fun r hr => ?_) v8.tl v8.tb v8.al v8.ab⟩
      rcases m9 r hr with h | rfl
      · exact v8.fb r h
      · exact ⟨b8, l8⟩
    obtain ⟨⟨v4, rfl⟩, F, S, v⟩ := q
    walk_at "go"
    refine ⟨_, _, rfl, st, sc, ns, 3, rfl, rfl, v.d, by decide, by decide, fun m2 H7 a7 b7 k7 d7 => ?_⟩
    have v7 := v.kp k7 d7
    walk_at "go"
    refine for_rng (fun i σ H6 => (∃ v4, σ = [some (.ref sa), some (.ref st), some (.ref a), some (.ref nl), v4, none, none, none, none, none, none, none]) ∧ ∃ F S, Nv K st sc ns nl a Hb H6 F S m1.toNat (16 * i) 0) ⟨⟨_, rfl⟩, F, S, v7⟩ (fun i σ H6 hi q => ?_) (fun σ H6 q => ?_)
    · clear v v7 k7 d7
      obtain ⟨⟨v4, rfl⟩, F, S, v⟩ := q
      have hSto := v.s.sub
      walk_at "go"
      refine ⟨_, _, rfl, st, sc, ns, 4, rfl, rfl, v.d, by decide, by decide, fun w H7 a7 b7 k7 d7 => ?_⟩
      have v7 := v.kp k7 d7
      obtain ⟨z, hz⟩ := nm4_at w a7 b7
      refine e_ixL (SqL.of v7.n) hz ?_
      walk_at "go"
      refine ⟨_, rfl, st, sc, ns, rfl, v7.d, fun c ct H8 hc k8 d8 e8 b8 l8 => ?_⟩
      have v8 := v7.kp k8 d8
      have nc : c ∉ F := v7.s.new hc
      walk_at "go"
      refine ⟨_, _, _, rfl, a, c, F, [st, nl], S, z, ct, rfl, rfl, rfl, v8.lists, v8.s, e8, nc, by omega, by have := v8.tl; omega, fun r hr => by have := v8.tb r hr; omega, fun F9 H9 f9 n9 s9 => ?_⟩
      obtain ⟨g1, g2⟩ := app_len z ct S.tp (16 * i) (16 * i) v8.tl v8.tb
      exact ⟨⟨_, rfl⟩, F9, _, v8.fr dB f9 s9 n9 v8.fl v8.fb (by show (ct.foldl (ap1 z) S.tp).length ≤ 16 * (i + 1); omega) (fun r hr => by have := g2 r hr; omega) v8.al v8.ab⟩
    clear v v7 k7 d7
    obtain ⟨⟨v4, rfl⟩, F, S, v⟩ := q
    walk_at "go"
    refine ⟨_, _, rfl, st, sc, ns, 3, rfl, rfl, v.d, by decide, by decide, fun m3 H8 a8 b8 k8 d8 => ?_⟩
    have v8 := v.kp k8 d8
    walk_at "go"
    refine for_rng (fun i σ H6 => (∃ v4, σ = [some (.ref sa), some (.ref st), some (.ref a), some (.ref nl), v4, none, none, none, none, none, none, none]) ∧ ∃ F S, Nv K st sc ns nl a Hb H6 F S m1.toNat (16 * m2.toNat) i) ⟨⟨_, rfl⟩, F, S, v8⟩ (fun i σ H6 hi q => ?_) (fun σ H6 q => ?_)
    · clear v v8 k8 d8
      obtain ⟨⟨v4, rfl⟩, F, S, v⟩ := q
      have hSto := v.s.sub
      walk_at "go"
      refine ⟨_, _, rfl, st, sc, ns, 4, rfl, rfl, v.d, by decide, by decide, fun w H7 a7 b7 k7 d7 => ?_⟩
      have v7 := v.kp k7 d7
      obtain ⟨z, hz⟩ := nm4_at w a7 b7
      refine e_ixL (SqL.of v7.n) hz ?_
      walk_at "go"
      rename_i u1 hu1 u2 hu2
      have t1 := same_new (o := .tup [.int 1, .int (0 + (i : Int) + 1)]) hu1
      have t2 := same_new (o := .tup [.ref u1]) hu2
      have v9 := v7.same (t1.trans t2)
      have vc : Vec K _ u2 [(1, 0 + (i : Int) + 1)] := ⟨[u1], SqT.of upd_same, .cons (SqT.of (t2 _ _ upd_same)) .nil⟩
      refine ⟨_, rfl, st, sc, ns, rfl, v9.d, fun c ct H8 hc k8 d8 e8 b8 l8 => ?_⟩
      have v8 := v9.kp k8 d8
      have vc2 := vec_fr vc (kp_frD (D := [st, nl]) k8 (by simp)) v9.lists.nt
      walk_at "go"
      refine ⟨_, _, _, _, rfl, a, u2, c, F, [st, nl], S, z, _, ct, rfl, rfl, rfl, rfl, v8.lists, v8.s, vc2, SqL.of e8, by have := v8.al; omega, fun H9 f9 s9 => ?_⟩
      refine ⟨⟨_, rfl⟩, F, _, v8.fr dB f9 s9 (fun b m => .inl m) v8.fl v8.fb v8.tl v8.tb (by show (S.at_ ++ [_]).length ≤ i + 1; rw [List.length_append, List.length_singleton]; have := v8.al; omega) (fun r hr => ?_)⟩
      have hr : r ∈ S.at_ ++ [(z, ([(1, 0 + (i : Int) + 1)], ct))] := hr
      rcases List.mem_append.mp hr with h | h
      · exact v8.ab r h
      · rw [List.mem_singleton.mp h]
        exact ⟨b8, l8⟩
    clear v v8 k8 d8
    obtain ⟨⟨v4, rfl⟩, F, S, v⟩ := q
    have v : Nv K st sc ns nl a Hb H6 F S 4 40 3 := ⟨v.k, v.d, v.n, v.s, v.f, by have := v.fl; omega, v.fb, by have := v.tl; omega, fun r h => by have := v.tb r h; omega, by have := v.al; omega, v.ab⟩
    have hSto := v.s.sub
    walk_at "go"
    refine ⟨_, rfl, a, F, S, rfl, hSto, by have := v.fl; omega, by have := v.tl; omega, by have := v.al; omega, fun r1 H7 s7 hD1 => ?_⟩
    have v7 := v.same s7
    clear hSto v
    walk_at "go"
    rename_i q0 hq0 el hel
    have s8 := same_new (o := .lst []) hq0
    have s9 := same_new (o := .lst []) hel
    have v9 := v7.same (s8.trans s9)
    have hnl := v7.ne
    have elst : el ≠ st := v7.d.free (s8.free hel)
    have elnl : nl ≠ el := fun z => by rw [← z, s8 _ _ v7.n] at hel; cases hel
    have elb : Hb el = none := v7.k.free v7.d.some (s8.free hel)
    have q0st : q0 ≠ st := v7.d.free hq0
    have q0el : q0 ≠ el := fun z => by rw [← z, upd_same] at hel; cases hel
    have L0 : Lv K st sc ns nl a el r1 Hb (upd (upd H7 q0 (.lst [])) el (.lst [])) F S [] := by
      have hs : Same (hid [st, nl] H7) (hid [st, nl, el] (upd (upd H7 q0 (.lst [])) el (.lst []))) := fun y o h => by
        obtain ⟨n, h⟩ := hid_some h
        have n3 : y ≠ el := ne_of_none (s8 _ _ h) hel
        rw [hid_at (by
          intro m
          rcases List.mem_cons.mp m with z | m
          · exact n (by rw [z]; simp)
          rcases List.mem_cons.mp m with z | m
          · exact n (by rw [z]; simp)
          · exact n3 (List.mem_singleton.mp m))]
        exact s9 _ _ (s8 _ _ h)
      exact ⟨v9.k, v9.d, v9.n, v7.s.same hs, (hD1.hide v7.lists.nt).same hs, upd_same, fun p m => by cases m⟩
    have eq0 := s9 _ _ (upd_same (H := H7) (a := q0) (o := .lst []))
    generalize upd (upd H7 q0 (.lst [])) el (.lst []) = H10 at L0 eq0 ⊢
    clear v9 s8 s9 hel
    refine ⟨_, _, rfl, st, sc, ns, 3, rfl, rfl, L0.d, by decide, by decide, fun m4 H11 a11 b11 k11 d11 => ?_⟩
    have L1 := L0.kp hnl elst k11 d11
    have eq1 := k11 _ _ q0st eq0
    walk_at "go"
    refine for_rng (fun i σ H12 => (∃ q v4 v8 v9, σ = [some (.ref sa), some (.ref st), some (.ref a), some (.ref nl), v4, some (.ref r1), some (.ref q), some (.ref el), v8, v9, none, none] ∧ ∃ es dues, Lv K st sc ns nl a el r1 Hb H12 F S es ∧ es.length ≤ i ∧ q ≠ st ∧ q ≠ el ∧ H12 q = some (.lst (dues.map V.int)) ∧ dues.length ≤ 4 * i ∧ ∀ x, x ∈ dues ↔ ∃ p ∈ es, Mis S p.2.nm p.2.bl x)) ⟨q0, _, _, _, rfl, [], [], L1, Nat.le_refl _, q0st, q0el, eq1, Nat.le_refl _, by simp⟩ (fun i σ H12 hi z => ?_) (fun σ H12 z => ?_)
    · clear L0 L1 eq0 eq1 k11 d11 q0st q0el hq0
      obtain ⟨q, v4, v8, v9, rfl, es, dues, L, l1, qst, qel, eq, l2, m2⟩ := z
      walk_at "go"
      refine ⟨_, rfl, st, sc, ns, rfl, L.d, fun c ct H13 hc k13 d13 e13 b13 l13 => ?_⟩
      have L3 := L.kp hnl elst k13 d13
      have eq3 := k13 _ _ qst eq
      have cst := L.d.free hc
      have cel : c ≠ el := fun z => by rw [z, L.e] at hc; cases hc
      walk_at "go"
      refine ⟨_, _, rfl, st, sc, ns, 4, rfl, rfl, d13, by decide, by decide, fun w H14 a14 b14 k14 d14 => ?_⟩
      have L4 := L3.kp hnl elst k14 d14
      have eq4 := k14 _ _ qst eq3
      have e14 := k14 _ _ cst e13
      obtain ⟨z, hz⟩ := nm4_at w a14 b14
      refine e_ixL (SqL.of L4.n) hz ?_
      have eel := L4.e
      walk_at "go"
      rename_i u1 hu1 u2 hu2 u3 hu3
      have t1 := same_new (o := .tup [.int 2, .int (0 + (i : Int) + 1)]) hu1
      have t2 := same_new (o := .tup [.ref u1]) hu2
      have t3 := same_new (o := .tup [.int 2, .int (0 + (i : Int) + 1)]) hu3
      have t13 := (t1.trans t2).trans t3
      refine ⟨_, rfl, c, ct, rfl, SqL.of (t13 _ _ e14), by omega, fun bq H15 hbq s15 e15 => ?_⟩
      walk_at "go"
      refine e_mkE fun ea H16 dx hea s16 hi16 => ?_
      have t15 := s15.trans s16
      have tt := t13.trans t15
      have hE : Ent K H16 false ea ⟨z, fun k => if k = 1 then 0 + (i : Int) + 1 else 0, 1, (2, 0 + (i : Int) + 1), false, 5, nums ct⟩ := ent_made (p := false) (dx := dx) (v := u2) (m := u3) (b := bq) ⟨z, fun k => if k = 1 then 0 + (i : Int) + 1 else 0, 1, (2, 0 + (i : Int) + 1), false, 5, nums ct⟩ hi16 ⟨by
        rw [made_one (by decide) (by omega)]
        exact ⟨[u1], SqT.of (t15 _ _ (t3 _ _ upd_same)), .cons (SqT.of (t15 _ _ (t3 _ _ (t2 _ _ upd_same)))) .nil⟩, fun z => nomatch z⟩ (SqT.of (t15 _ _ upd_same)) (SqT.of (s16 _ _ e15))
      have L6 := L4.same hnl elst tt
      have e6 := L6.e
      have sm := v7.smal b13 l13
      have ln : (nums ct).length ≤ 4 := by rw [nums_len]; omega
      have L7 := L6.add dB elnl elst elb hE sm ln
      have eq7 : upd H16 el (.lst ((es.map fun p => V.ref p.1) ++ [.ref ea])) q = _ := (upd_ne qel).trans (tt _ _ eq4)
      have ec7 : upd H16 el (.lst ((es.map fun p => V.ref p.1) ++ [.ref ea])) c = _ := (upd_ne cel).trans (tt _ _ e14)
      walk_at "go"
      refine ⟨el, _, _, rfl, rfl, e6, by rw [List.length_map]; exact Nat.lt_of_le_of_lt (by omega : _ ≤ 100) (by decide), ?_⟩
      generalize upd H16 el (.lst ((es.map fun p => V.ref p.1) ++ [.ref ea])) = H17 at L7 eq7 ec7 ⊢
      walk_at "go"
      refine ⟨_, _, _, rfl, a, c, F, S, z, ct, rfl, rfl, rfl, L7.s.sub, SqL.of ec7, b13, l13, v7.bytes, sm, fun r ms H18 s18 hr e18 l18 m18 => ?_⟩
      refine e_cat (s18 _ _ eq7) e18 (by rw [List.length_map, List.length_map]; omega) fun q9 hq9 => ?_
      have s19 := same_new (o := .lst (dues.map V.int ++ ms.map V.int)) hq9
      have L9 := L7.same hnl elst (s18.trans s19)
      have q9n := s18.free hq9
      walk_at "go"
      refine ⟨q9, _, _, _, rfl, es ++ [(ea, _)], dues ++ ms, L9, by rw [List.length_append, List.length_singleton]; omega, L7.d.free q9n, fun z => (by rw [z, L7.e] at q9n; cases q9n), by rw [upd_same, List.map_append], by rw [List.length_append]; omega, fun x => ?_⟩
      rw [List.mem_append, m2, m18]
      constructor
      · rintro (⟨p, hp, h⟩ | h)
        · exact ⟨p, List.mem_append_left _ hp, h⟩
        · exact ⟨_, List.mem_append_right _ (List.mem_singleton.mpr rfl), h⟩
      · rintro ⟨p, hp, h⟩
        rcases List.mem_append.mp hp with hp | hp
        · exact .inl ⟨p, hp, h⟩
        · rw [List.mem_singleton.mp hp] at h
          exact .inr h
    clear L0 L1 eq0 eq1 k11 d11 q0st q0el hq0
    obtain ⟨q, v4, v8, v9, rfl, es, dues, L, l1, qst, qel, eq, l2, m2⟩ := z
    walk_at "go"
    refine ⟨_, _, rfl, a, el, F, S, es, rfl, rfl, L.s.sub, SqL.of L.e, fun p m => ⟨(L.x p m).1.same hid_sub, (L.x p m).2⟩, by omega, fun r out H13 s13 hr e13 hp1 hm1 => ?_⟩
    have eq3 := s13 _ _ eq
    walk_at "go"
    intro D hD
    refine lc_rel (walk_list (K := K) (xs := dues.map V.int)) hD (by rw [List.length_map]; omega) (fun H1 s1 => s1.seq (SqL.of eq3)) (fun i v H1 => ∃ t b, v = .ref t ∧ dues[i]? = some b ∧ SqT K H1 t [.int b, .bl true]) (fun i v H1 H2 h s => ?_) (fun i y H1 H2 C E acc hi s1 e1 hy hC => ?_) (fun H14 us s14 e14 l14 hr14 => ?_)
    · obtain ⟨t, b, h1, h2, h3⟩ := h
      exact ⟨t, b, h1, h2, same_tup s h3⟩
    · obtain ⟨rfl, hx⟩ := hy
      rw [List.getElem?_map] at hx
      obtain ⟨b, hb, rfl⟩ := Option.map_eq_some_iff.mp hx
      walk_at "go"
      rename_i t ht
      refine hC _ _ (same_new ht) ⟨t, b, rfl, hb, SqT.of ?_⟩
      rw [hid_at fun m => by rw [List.mem_singleton.mp m, e1] at ht; cases ht]
      exact upd_same
    obtain ⟨ps, rfl⟩ := all_refs us fun u m => by
      obtain ⟨i, hi⟩ := List.getElem?_of_mem m
      obtain ⟨q, _, e, _⟩ := hr14 i u hi
      exact ⟨q, e⟩
    rw [List.length_map, List.length_map] at l14
    have pp : Paired (fun p (kv : Key × V) => SqT K H14 p [kV kv.1, kv.2]) ps (dues.map fun x => ((Sum.inl x : Key), V.bl true)) := prd_mk (by rw [List.length_map]; exact l14) fun i q c h1 h2 => by
      obtain ⟨t, b, e2, e3, e4⟩ := hr14 i (.ref q) (by rw [List.getElem?_map, h1]; rfl)
      cases e2
      rw [List.getElem?_map, e3] at h2
      cases h2
      exact same_tup hid_sub e4
    walk_at "go"
    refine ⟨D, ps, _, rfl, SqL.of e14, pp, fun dd hdd => ?_⟩
    obtain ⟨ks2, g1, g2, g3, g4⟩ := merge_keys dues [] [] rfl List.nodup_nil
    have s15 := same_new (o := .dK (mergeK [] (dues.map fun x => ((Sum.inl x : Key), V.bl true)))) hdd
    walk_at "go"
    refine ⟨dd, _, ks2, rfl, .inl upd_same, g1, by rw [List.length_nil] at g4; omega, fun ys p hpy hpw hp => ?_⟩
    have eo : out = ys := sorted_two hp1 hpw g2 hpy fun x => by rw [hm1, ← m2, g3]; simp
    subst eo
    have s16 := same_new (o := .lst (out.map V.int)) hp
    have s36 := (s14.trans s15).trans s16
    have s26 := s13.trans s36
    have hS6 := L.s.sub.same s26
    walk_at "go"
    refine e_eqPL (SqL.of (s36 _ _ e13)) (SqL.of upd_same) ?_
    walk_at "go"
    refine i_self ?_
    walk_at "go"
    refine ⟨_, rfl, a, F, S, rfl, hS6, by have := v7.fl; omega, by have := v7.tl; omega, by have := v7.al; omega, fun r7 H17 s17 hD7 => ?_⟩
    have hS7 := hS6.same s17
    walk_at "go"
    refine e_eqDur hD7 (((L.u.same hid_sub).same s26).same s17) ?_
    walk_at "go"
    rename_i l2 hl2
    have s18 := same_new (o := .lst []) hl2
    refine ⟨_, _, rfl, a, l2, F, S, [], rfl, rfl, hS7.same s18, SqL.of upd_same, (fun p m => by cases m), by decide, fun r8 out2 H19 s19 hr8 e19 hp2 hm2 => ?_⟩
    have eo2 : out2 = [] := List.eq_nil_iff_forall_not_mem.mpr fun x m => by
      obtain ⟨p, hp, _⟩ := (hm2 x).mp m
      cases hp
    subst eo2
    walk_at "go"
    rename_i l3 hl3
    refine e_eqPL (xs := []) (ys := []) (SqL.of ((same_new hl3) _ _ e19)) (SqL.of upd_same) ?_
    exact k _
end
set_option maxHeartbeats 0
def d_block_number : He.DefD := ⟨("block_number", none), "block_number", "block_number", defArgs s_block_number, defBody s_block_number, defScope s_block_number, [], []⟩
def d_block_size : He.DefD := ⟨("block_size", none), "block_size", "block_size", defArgs s_block_size, defBody s_block_size, defScope s_block_size, [], []⟩
def d_block_bytes : He.DefD := ⟨("block_bytes", none), "block_bytes", "block_bytes", defArgs s_block_bytes, defBody s_block_bytes, defScope s_block_bytes, [], []⟩
def d_split : He.DefD := ⟨("split", none), "split", "split", defArgs s_split, defBody s_split, defScope s_split, [], []⟩
def d_near_places : He.DefD := ⟨("near_places", none), "near_places", "near_places", defArgs s_near_places, defBody s_near_places, defScope s_near_places, [], []⟩
def d_near_rows : He.DefD := ⟨("_near_rows", none), "_near_rows", "_near_rows", defArgs s_near_rows, defBody s_near_rows, defScope s_near_rows, [], []⟩
def d_kept_blocks : He.DefD := ⟨("kept_blocks", none), "kept_blocks", "kept_blocks", defArgs s_kept_blocks, defBody s_kept_blocks, defScope s_kept_blocks, [], []⟩
def d_missing : He.DefD := ⟨("missing", none), "missing", "missing", defArgs s_missing, defBody s_missing, defScope s_missing, [], []⟩
def d_must_come : He.DefD := ⟨("must_come", none), "must_come", "must_come", defArgs s_must_come, defBody s_must_come, defScope s_must_come, [], []⟩
def d_Entry___init__ : He.DefD := ⟨("Entry", some "__init__"), "__init__", "Entry.__init__", defArgs s_Entry___init__, defBody s_Entry___init__, defScope s_Entry___init__, [], []⟩
def d_Store___init__ : He.DefD := ⟨("Store", some "__init__"), "__init__", "Store.__init__", defArgs s_Store___init__, defBody s_Store___init__, defScope s_Store___init__, [], []⟩
def d_Store__count_write : He.DefD := ⟨("Store", some "_count_write"), "_count_write", "Store._count_write", defArgs s_Store__count_write, defBody s_Store__count_write, defScope s_Store__count_write, [], []⟩
def d_Store_names : He.DefD := ⟨("Store", some "names"), "names", "Store.names", defArgs s_Store_names, defBody s_Store_names, defScope s_Store_names, [], []⟩
def d_Store_read : He.DefD := ⟨("Store", some "read"), "read", "Store.read", defArgs s_Store_read, defBody s_Store_read, defScope s_Store_read, [], []⟩
def d_Store_write : He.DefD := ⟨("Store", some "write"), "write", "Store.write", defArgs s_Store_write, defBody s_Store_write, defScope s_Store_write, [], []⟩
def d_Store_temp : He.DefD := ⟨("Store", some "temp"), "temp", "Store.temp", defArgs s_Store_temp, defBody s_Store_temp, defScope s_Store_temp, [], []⟩
def d_Store_append_temp : He.DefD := ⟨("Store", some "append_temp"), "append_temp", "Store.append_temp", defArgs s_Store_append_temp, defBody s_Store_append_temp, defScope s_Store_append_temp, [], []⟩
def d_Store_attic : He.DefD := ⟨("Store", some "attic"), "attic", "Store.attic", defArgs s_Store_attic, defBody s_Store_attic, defScope s_Store_attic, [], []⟩
def d_Store_attic_put : He.DefD := ⟨("Store", some "attic_put"), "attic_put", "Store.attic_put", defArgs s_Store_attic_put, defBody s_Store_attic_put, defScope s_Store_attic_put, [], []⟩
def d_Store_durable : He.DefD := ⟨("Store", some "durable"), "durable", "Store.durable", defArgs s_Store_durable, defBody s_Store_durable, defScope s_Store_durable, [], []⟩
def d_law_draws : He.DefD := ⟨("_law_draws", none), "_law_draws", "_law_draws", defArgs s_law_draws, defBody s_law_draws, defScope s_law_draws, [], []⟩
def d_law_draw : He.DefD := ⟨("_law_draw", none), "_law_draw", "_law_draw", defArgs s_law_draw, defBody s_law_draw, defScope s_law_draw, [], []⟩
def d_law_content : He.DefD := ⟨("_law_content", none), "_law_content", "_law_content", defArgs s_law_content, defBody s_law_content, defScope s_law_content, [], []⟩
def d_law_pieces : He.DefD := ⟨("_law_pieces", none), "_law_pieces", "_law_pieces", defArgs s_law_pieces, defBody s_law_pieces, defScope s_law_pieces, [], []⟩
def d_law_number : He.DefD := ⟨("_law_number", none), "_law_number", "_law_number", defArgs s_law_number, defBody s_law_number, defScope s_law_number, [], []⟩
def d_law_missing : He.DefD := ⟨("_law_missing", none), "_law_missing", "_law_missing", defArgs s_law_missing, defBody s_law_missing, defScope s_law_missing, [], []⟩
def d_law : He.DefD := ⟨("law", none), "law", "law", defArgs s_law, defBody s_law, defScope s_law, [], []⟩
def fn : List He.DefD := [d_block_number, d_block_size, d_block_bytes, d_split, d_near_places, d_near_rows, d_kept_blocks, d_missing, d_must_come, d_Entry___init__, d_Store___init__, d_Store__count_write, d_Store_names, d_Store_read, d_Store_write, d_Store_temp, d_Store_append_temp, d_Store_attic, d_Store_attic_put, d_Store_durable, d_law_draws, d_law_draw, d_law_content, d_law_pieces, d_law_number, d_law_missing, d_law]
def fa : List He.Fa := [.glo "block_number", .glo "block_size", .glo "block_bytes", .glo "split", .glo "near_places", .glo "_near_rows", .glo "kept_blocks", .glo "missing", .glo "must_come", .glo "_law_draws", .glo "_law_draw", .glo "_law_content", .glo "_law_pieces", .glo "_law_number", .glo "_law_missing", .glo "law", .glo "Entry", .glo "Store", .free "abs", .free "dict", .free "enumerate", .free "int", .free "len", .free "list", .free "range", .free "reversed", .free "set", .free "sorted", .free "tuple", .int "BLOCK" 4, .meth "Store" "_count_write", .meth "Store" "names", .meth "Store" "read", .meth "Store" "write", .meth "Store" "temp", .meth "Store" "append_temp", .meth "Store" "attic", .meth "Store" "attic_put", .meth "Store" "durable", .cls "Entry", .noat "Entry" "name", .noat "Entry" "vector", .noat "Entry" "height", .noat "Entry" "maker", .noat "Entry" "deleted", .noat "Entry" "time", .noat "Entry" "blocks", .mkr "Entry", .cls "Store", .noat "Store" "_files", .noat "Store" "_temps", .noat "Store" "_attic", .noat "Store" "_log", .noat "Store" "_new_log", .noat "Store" "_budget", .noat "Store" "_done", .mkr "Store"]
abbrev R : PySem.W.OpenRow := PySem.W.OpenLaw.row PySem.Challenge.rw_folderkin_k80_blocks_that_must_come
abbrev hk : PySem.W.Hook := He.hookD 4 fa fn
def ob (s : PySem.W.SharedT) : He.AlD := He.obsDG 4 fa fn (HandSHeadRun.getT s)
theorem ob_eq (s : PySem.W.SharedT) : ob s = hk.obs s.abs := He.obsDG_eq (HandSHeadRun.getT_eq s)
theorem run (w : World) : HandSHeadRun.RunEq R (PySem.W.view R.prog [29]) hk ob 10000 ["_wall", "FolderkinError", "PowerCut", "InvalidBlock", "BLOCK", "block_number", "block_size", "block_bytes", "split", "near_places", "_near_rows", "kept_blocks", "missing", "must_come", "Entry", "Store", "_law_draws", "_law_draw", "_law_content", "_law_pieces", "_law_number", "_law_missing"] w := by
  intro os
  kernel_rfl
theorem facts {P : Program} {w : World} {K : PySem.W.Frag} {h : Heap} {mg : Str → Option Value} {f : Addr} (X : K.In h) (G : h.Ns mainGlobals mg) (hfa : mg ("law" : Str) = some (.ref f)) (cc : He.SaysD fa fn K) :
    ∃ fd : FuncData, (∀ (s : Shared) (v : Value), BindsTo s fd ⟨[v], []⟩ [("script", v)]) ∧ ∀ base : Heap, K.In base → base.Ns mainGlobals mg → FnOk P w K mg base CX0 8 f fd ["script"] (sp_law K) := by
  have c : He.SaysD fa fn K := cc
  have k_BLOCK : ∃ u, mg "BLOCK" = some u ∧ RelV (.int 4) u := by
    obtain ⟨t, e⟩ := He.int_ok X G (c.fact 29 (f := .int "BLOCK" 4) rfl)
    exact ⟨_, e, t, rfl⟩
  have T : Txt K mg := ⟨He.free_ok X G (c.fact 18 (f := .free "abs") rfl), He.free_ok X G (c.fact 19 (f := .free "dict") rfl), He.free_ok X G (c.fact 20 (f := .free "enumerate") rfl), He.free_ok X G (c.fact 21 (f := .free "int") rfl), He.free_ok X G (c.fact 22 (f := .free "len") rfl), He.free_ok X G (c.fact 23 (f := .free "list") rfl), He.free_ok X G (c.fact 24 (f := .free "range") rfl), He.free_ok X G (c.fact 25 (f := .free "reversed") rfl), He.free_ok X G (c.fact 26 (f := .free "set") rfl), He.free_ok X G (c.fact 27 (f := .free "sorted") rfl), He.free_ok X G (c.fact 28 (f := .free "tuple") rfl), k_BLOCK, He.cls_ok (c.fact 39 (f := .cls "Entry") rfl), He.glo_ok X G (c.fact 16 (f := .glo "Entry") rfl), He.noat_ok (c.fact 40 (f := .noat "Entry" "name") rfl), He.noat_ok (c.fact 41 (f := .noat "Entry" "vector") rfl), He.noat_ok (c.fact 42 (f := .noat "Entry" "height") rfl), He.noat_ok (c.fact 43 (f := .noat "Entry" "maker") rfl), He.noat_ok (c.fact 44 (f := .noat "Entry" "deleted") rfl), He.noat_ok (c.fact 45 (f := .noat "Entry" "time") rfl), He.noat_ok (c.fact 46 (f := .noat "Entry" "blocks") rfl), He.cls_ok (c.fact 48 (f := .cls "Store") rfl), He.glo_ok X G (c.fact 17 (f := .glo "Store") rfl), He.noat_ok (c.fact 49 (f := .noat "Store" "_files") rfl), He.noat_ok (c.fact 50 (f := .noat "Store" "_temps") rfl), He.noat_ok (c.fact 51 (f := .noat "Store" "_attic") rfl), He.noat_ok (c.fact 52 (f := .noat "Store" "_log") rfl), He.noat_ok (c.fact 53 (f := .noat "Store" "_new_log") rfl), He.noat_ok (c.fact 54 (f := .noat "Store" "_budget") rfl), He.noat_ok (c.fact 55 (f := .noat "Store" "_done") rfl)⟩
  obtain ⟨fd_block_number, F_block_number⟩ := c.def_ 0 (d := d_block_number) rfl
  have c_block_number : ∀ base : Heap, Cal P w K mg base 1 "block_number" (sp_block_number K) := fun base => ⟨_, _, ["data"], ok_block_number T  F_block_number, He.glo_ok X G (c.fact 0 (f := .glo "block_number") rfl), F_block_number.kp, FunD.bindsN F_block_number fun _ _ _ _ _ _ us hl => match us, hl with | [_], _ => rfl⟩
  obtain ⟨fd_block_size, F_block_size⟩ := c.def_ 1 (d := d_block_size) rfl
  have c_block_size : ∀ base : Heap, Cal P w K mg base 1 "block_size" (sp_block_size K) := fun base => ⟨_, _, ["number"], ok_block_size T  F_block_size, He.glo_ok X G (c.fact 1 (f := .glo "block_size") rfl), F_block_size.kp, FunD.bindsN F_block_size fun _ _ _ _ _ _ us hl => match us, hl with | [_], _ => rfl⟩
  obtain ⟨fd_Entry___init__, F_Entry___init__⟩ := c.def_ 9 (d := d_Entry___init__) rfl
  have M_Entry := He.mkr_ok (c.fact 47 (f := .mkr "Entry") rfl)
  have c_Entry : ∀ base : Heap, C8.Mak P w K mg base 1 "Entry" (He.ga K "Entry") (sp_Entry___init__ K) [] := fun base => ⟨_, _, _, [], M_Entry, ok_Entry___init__ T  F_Entry___init__, He.glo_ok X G (c.fact 16 (f := .glo "Entry") rfl), FunD.bindsN F_Entry___init__ fun _ _ _ _ _ _ us hl => match us, hl with | [_, _, _, _, _, _, _, _], _ => rfl, .nil⟩
  obtain ⟨fd_Store___init__, F_Store___init__⟩ := c.def_ 10 (d := d_Store___init__) rfl
  have M_Store := He.mkr_ok (c.fact 56 (f := .mkr "Store") rfl)
  have c_Store : ∀ base : Heap, C8.Mak P w K mg base 1 "Store" (He.ga K "Store") (sp_Store___init__ K) [] := fun base => ⟨_, _, _, [], M_Store, ok_Store___init__ T  F_Store___init__, He.glo_ok X G (c.fact 17 (f := .glo "Store") rfl), FunD.bindsN F_Store___init__ fun _ _ _ _ _ _ us hl => match us, hl with | [_, _, _], _ => rfl, .nil⟩
  obtain ⟨fd_Store__count_write, F_Store__count_write⟩ := c.def_ 11 (d := d_Store__count_write) rfl
  have m_Store__count_write : ∀ base : Heap, C8.Met P w K mg base 1 (He.ga K "Store") "_count_write" (sp_Store__count_write K) [] := fun base => ⟨_, _, ["self"], [], He.cls_ok (c.fact 48 (f := .cls "Store") rfl), He.meth_ok (c.fact 30 (f := .meth "Store" "_count_write") rfl), ok_Store__count_write T  F_Store__count_write, FunD.bindsN F_Store__count_write fun _ _ _ _ _ _ us hl => match us, hl with | [_], _ => rfl, .nil⟩
  obtain ⟨fd_Store_names, F_Store_names⟩ := c.def_ 12 (d := d_Store_names) rfl
  have m_Store_names : ∀ base : Heap, C8.Met P w K mg base 1 (He.ga K "Store") "names" (sp_Store_names K) [] := fun base => ⟨_, _, ["self"], [], He.cls_ok (c.fact 48 (f := .cls "Store") rfl), He.meth_ok (c.fact 31 (f := .meth "Store" "names") rfl), ok_Store_names T  F_Store_names, FunD.bindsN F_Store_names fun _ _ _ _ _ _ us hl => match us, hl with | [_], _ => rfl, .nil⟩
  obtain ⟨fd_Store_read, F_Store_read⟩ := c.def_ 13 (d := d_Store_read) rfl
  have m_Store_read : ∀ base : Heap, C8.Met P w K mg base 1 (He.ga K "Store") "read" (sp_Store_read K) [] := fun base => ⟨_, _, ["self", "name"], [], He.cls_ok (c.fact 48 (f := .cls "Store") rfl), He.meth_ok (c.fact 32 (f := .meth "Store" "read") rfl), ok_Store_read T  F_Store_read, FunD.bindsN F_Store_read fun _ _ _ _ _ _ us hl => match us, hl with | [_, _], _ => rfl, .nil⟩
  obtain ⟨fd_Store_temp, F_Store_temp⟩ := c.def_ 15 (d := d_Store_temp) rfl
  have m_Store_temp : ∀ base : Heap, C8.Met P w K mg base 1 (He.ga K "Store") "temp" (sp_Store_temp K) [] := fun base => ⟨_, _, ["self", "name"], [], He.cls_ok (c.fact 48 (f := .cls "Store") rfl), He.meth_ok (c.fact 34 (f := .meth "Store" "temp") rfl), ok_Store_temp T  F_Store_temp, FunD.bindsN F_Store_temp fun _ _ _ _ _ _ us hl => match us, hl with | [_, _], _ => rfl, .nil⟩
  obtain ⟨fd_Store_attic, F_Store_attic⟩ := c.def_ 17 (d := d_Store_attic) rfl
  have m_Store_attic : ∀ base : Heap, C8.Met P w K mg base 1 (He.ga K "Store") "attic" (sp_Store_attic K) [] := fun base => ⟨_, _, ["self"], [], He.cls_ok (c.fact 48 (f := .cls "Store") rfl), He.meth_ok (c.fact 36 (f := .meth "Store" "attic") rfl), ok_Store_attic T  F_Store_attic, FunD.bindsN F_Store_attic fun _ _ _ _ _ _ us hl => match us, hl with | [_], _ => rfl, .nil⟩
  obtain ⟨fd_Store_durable, F_Store_durable⟩ := c.def_ 19 (d := d_Store_durable) rfl
  have m_Store_durable : ∀ base : Heap, C8.Met P w K mg base 1 (He.ga K "Store") "durable" (sp_Store_durable K) [] := fun base => ⟨_, _, ["self"], [], He.cls_ok (c.fact 48 (f := .cls "Store") rfl), He.meth_ok (c.fact 38 (f := .meth "Store" "durable") rfl), ok_Store_durable T  F_Store_durable, FunD.bindsN F_Store_durable fun _ _ _ _ _ _ us hl => match us, hl with | [_], _ => rfl, .nil⟩
  obtain ⟨fd_law_draws, F_law_draws⟩ := c.def_ 20 (d := d_law_draws) rfl
  have c_law_draws : ∀ base : Heap, Cal P w K mg base 1 "_law_draws" (sp_law_draws K) := fun base => ⟨_, _, ["script"], ok_law_draws T  F_law_draws, He.glo_ok X G (c.fact 9 (f := .glo "_law_draws") rfl), F_law_draws.kp, FunD.bindsN F_law_draws fun _ _ _ _ _ _ us hl => match us, hl with | [_], _ => rfl⟩
  obtain ⟨fd_law_draw, F_law_draw⟩ := c.def_ 21 (d := d_law_draw) rfl
  have c_law_draw : ∀ base : Heap, Cal P w K mg base 1 "_law_draw" (sp_law_draw K) := fun base => ⟨_, _, ["draws", "limit"], ok_law_draw T  F_law_draw, He.glo_ok X G (c.fact 10 (f := .glo "_law_draw") rfl), F_law_draw.kp, FunD.bindsN F_law_draw fun _ _ _ _ _ _ us hl => match us, hl with | [_, _], _ => rfl⟩
  obtain ⟨fd_law_pieces, F_law_pieces⟩ := c.def_ 23 (d := d_law_pieces) rfl
  have c_law_pieces : ∀ base : Heap, Cal P w K mg base 1 "_law_pieces" (sp_law_pieces K) := fun base => ⟨_, _, ["content"], ok_law_pieces T  F_law_pieces, He.glo_ok X G (c.fact 12 (f := .glo "_law_pieces") rfl), F_law_pieces.kp, FunD.bindsN F_law_pieces fun _ _ _ _ _ _ us hl => match us, hl with | [_], _ => rfl⟩
  obtain ⟨fd_law_number, F_law_number⟩ := c.def_ 24 (d := d_law_number) rfl
  have c_law_number : ∀ base : Heap, Cal P w K mg base 1 "_law_number" (sp_law_number K) := fun base => ⟨_, _, ["piece"], ok_law_number T  F_law_number, He.glo_ok X G (c.fact 13 (f := .glo "_law_number") rfl), F_law_number.kp, FunD.bindsN F_law_number fun _ _ _ _ _ _ us hl => match us, hl with | [_], _ => rfl⟩
  obtain ⟨fd_block_bytes, F_block_bytes⟩ := c.def_ 2 (d := d_block_bytes) rfl
  have c_block_bytes : ∀ base : Heap, Cal P w K mg base 2 "block_bytes" (sp_block_bytes K) := fun base => ⟨_, _, ["number"], ok_block_bytes T (c_block_size base) F_block_bytes, He.glo_ok X G (c.fact 2 (f := .glo "block_bytes") rfl), F_block_bytes.kp, FunD.bindsN F_block_bytes fun _ _ _ _ _ _ us hl => match us, hl with | [_], _ => rfl⟩
  obtain ⟨fd_split, F_split⟩ := c.def_ 3 (d := d_split) rfl
  have c_split : ∀ base : Heap, Cal P w K mg base 2 "split" (sp_split K) := fun base => ⟨_, _, ["content"], ok_split T (c_block_number base) F_split, He.glo_ok X G (c.fact 3 (f := .glo "split") rfl), F_split.kp, FunD.bindsN F_split fun _ _ _ _ _ _ us hl => match us, hl with | [_], _ => rfl⟩
  obtain ⟨fd_Store_write, F_Store_write⟩ := c.def_ 14 (d := d_Store_write) rfl
  have m_Store_write : ∀ base : Heap, C8.Met P w K mg base 2 (He.ga K "Store") "write" (sp_Store_write K) [] := fun base => ⟨_, _, ["self", "name", "content", "time"], [], He.cls_ok (c.fact 48 (f := .cls "Store") rfl), He.meth_ok (c.fact 33 (f := .meth "Store" "write") rfl), ok_Store_write T (m_Store__count_write base) F_Store_write, FunD.bindsN F_Store_write fun _ _ _ _ _ _ us hl => match us, hl with | [_, _, _, _], _ => rfl, .nil⟩
  obtain ⟨fd_Store_append_temp, F_Store_append_temp⟩ := c.def_ 16 (d := d_Store_append_temp) rfl
  have m_Store_append_temp : ∀ base : Heap, C8.Met P w K mg base 2 (He.ga K "Store") "append_temp" (sp_Store_append_temp K) [] := fun base => ⟨_, _, ["self", "name", "data"], [], He.cls_ok (c.fact 48 (f := .cls "Store") rfl), He.meth_ok (c.fact 35 (f := .meth "Store" "append_temp") rfl), ok_Store_append_temp T (m_Store__count_write base) F_Store_append_temp, FunD.bindsN F_Store_append_temp fun _ _ _ _ _ _ us hl => match us, hl with | [_, _, _], _ => rfl, .nil⟩
  obtain ⟨fd_Store_attic_put, F_Store_attic_put⟩ := c.def_ 18 (d := d_Store_attic_put) rfl
  have m_Store_attic_put : ∀ base : Heap, C8.Met P w K mg base 2 (He.ga K "Store") "attic_put" (sp_Store_attic_put K) [] := fun base => ⟨_, _, ["self", "name", "vector", "content"], [], He.cls_ok (c.fact 48 (f := .cls "Store") rfl), He.meth_ok (c.fact 37 (f := .meth "Store" "attic_put") rfl), ok_Store_attic_put T (m_Store__count_write base) F_Store_attic_put, FunD.bindsN F_Store_attic_put fun _ _ _ _ _ _ us hl => match us, hl with | [_, _, _, _], _ => rfl, .nil⟩
  obtain ⟨fd_law_content, F_law_content⟩ := c.def_ 22 (d := d_law_content) rfl
  have c_law_content : ∀ base : Heap, Cal P w K mg base 2 "_law_content" (sp_law_content K) := fun base => ⟨_, _, ["draws"], ok_law_content T (c_law_draw base) F_law_content, He.glo_ok X G (c.fact 11 (f := .glo "_law_content") rfl), F_law_content.kp, FunD.bindsN F_law_content fun _ _ _ _ _ _ us hl => match us, hl with | [_], _ => rfl⟩
  obtain ⟨fd_law_missing, F_law_missing⟩ := c.def_ 25 (d := d_law_missing) rfl
  have c_law_missing : ∀ base : Heap, Cal P w K mg base 2 "_law_missing" (sp_law_missing K) := fun base => ⟨_, _, ["store", "name", "content"], ok_law_missing T (m_Store_names base) (c_law_pieces base) (m_Store_read base) (m_Store_attic base) (m_Store_temp base) (c_law_number base) F_law_missing, He.glo_ok X G (c.fact 14 (f := .glo "_law_missing") rfl), F_law_missing.kp, FunD.bindsN F_law_missing fun _ _ _ _ _ _ us hl => match us, hl with | [_, _, _], _ => rfl⟩
  obtain ⟨fd_kept_blocks, F_kept_blocks⟩ := c.def_ 6 (d := d_kept_blocks) rfl
  have c_kept_blocks : ∀ base : Heap, Cal P w K mg base 3 "kept_blocks" (sp_kept_blocks K) := fun base => ⟨_, _, ["store", "entry"], ok_kept_blocks T (m_Store_temp base) (c_block_bytes base) F_kept_blocks, He.glo_ok X G (c.fact 6 (f := .glo "kept_blocks") rfl), F_kept_blocks.kp, FunD.bindsN F_kept_blocks fun _ _ _ _ _ _ us hl => match us, hl with | [_, _], _ => rfl⟩
  obtain ⟨fd_near_rows, F_near_rows⟩ := c.def_ 5 (d := d_near_rows) rfl
  have c_near_rows : ∀ base : Heap, Cal P w K mg base 4 "_near_rows" (sp_near_rows K) := fun base => ⟨_, _, ["store", "entry"], ok_near_rows T (c_kept_blocks base) (m_Store_names base) (c_split base) (m_Store_read base) (m_Store_attic base) F_near_rows, He.glo_ok X G (c.fact 5 (f := .glo "_near_rows") rfl), F_near_rows.kp, FunD.bindsN F_near_rows fun _ _ _ _ _ _ us hl => match us, hl with | [_, _], _ => rfl⟩
  obtain ⟨fd_near_places, F_near_places⟩ := c.def_ 4 (d := d_near_places) rfl
  have c_near_places : ∀ base : Heap, Cal P w K mg base 5 "near_places" (sp_near_places K) := fun base => ⟨_, _, ["store", "entry"], ok_near_places T (c_near_rows base) F_near_places, He.glo_ok X G (c.fact 4 (f := .glo "near_places") rfl), F_near_places.kp, FunD.bindsN F_near_places fun _ _ _ _ _ _ us hl => match us, hl with | [_, _], _ => rfl⟩
  obtain ⟨fd_missing, F_missing⟩ := c.def_ 7 (d := d_missing) rfl
  have c_missing : ∀ base : Heap, Cal P w K mg base 6 "missing" (sp_missing K) := fun base => ⟨_, _, ["store", "entry"], ok_missing T (c_near_places base) (c_kept_blocks base) F_missing, He.glo_ok X G (c.fact 7 (f := .glo "missing") rfl), F_missing.kp, FunD.bindsN F_missing fun _ _ _ _ _ _ us hl => match us, hl with | [_, _], _ => rfl⟩
  obtain ⟨fd_must_come, F_must_come⟩ := c.def_ 8 (d := d_must_come) rfl
  have c_must_come : ∀ base : Heap, Cal P w K mg base 7 "must_come" (sp_must_come K) := fun base => ⟨_, _, ["store", "entries"], ok_must_come T (c_missing base) F_must_come, He.glo_ok X G (c.fact 8 (f := .glo "must_come") rfl), F_must_come.kp, FunD.bindsN F_must_come fun _ _ _ _ _ _ us hl => match us, hl with | [_, _], _ => rfl⟩
  obtain ⟨fd_law, F_law⟩ := c.def_ 26 (d := d_law) rfl
  have e := hfa.symm.trans (He.glo_ok X G (c.fact 15 (f := .glo "law") rfl))
  cases e
  have b := FunD.bindsA (ps := ["script"]) F_law fun _ _ _ _ _ _ us hl => match us, hl with | [_], _ => rfl
  exact ⟨fd_law, fun s v => b s [v] rfl, fun base _ _ => ok_law T (c_Store base) (c_Entry base) (c_law_draws base) (c_law_draw base) (m_Store_write base) (c_law_content base) (m_Store_append_temp base) (m_Store_attic_put base) (m_Store_durable base) (c_split base) (c_law_missing base) (c_must_come base) F_law⟩
end Vk80
set_option maxHeartbeats 0
open PySem PySem.W PySem.Calls PyProof.Rows
theorem PySem.Challenge.cw_folderkin_k80_blocks_that_must_come_holds : PySem.Challenge.rw_folderkin_k80_blocks_that_must_come.Holds := by
  w_on; o_law
  refine HandSHeadRun.head_any (r := OpenLaw.row PySem.Challenge.rw_folderkin_k80_blocks_that_must_come) (q := view (OpenLaw.row PySem.Challenge.rw_folderkin_k80_blocks_that_must_come).prog [29]) (H := Vk80.hk) (ob := Vk80.ob) (M := 10000) (loose := ["_wall", "FolderkinError", "PowerCut", "InvalidBlock", "BLOCK", "block_number", "block_size", "block_bytes", "split", "near_places", "_near_rows", "kept_blocks", "missing", "must_come", "Entry", "Store", "_law_draws", "_law_draw", "_law_content", "_law_pieces", "_law_number", "_law_missing"]) (d := HandSHeadRun.topDef (OpenLaw.row PySem.Challenge.rw_folderkin_k80_blocks_that_must_come).prog 29) (kwd := []) Vk80.ob_eq
    (by kernel_rfl) (fun s => by kernel_rfl) Vk80.run (by kernel_rfl) (by kernel_rfl) (by kernel_rfl) (by rfl) (by first | assumption | decide +kernel) (by decide +kernel) ⟨rfl, rfl, rfl, rfl, rfl, by decide +kernel⟩ ?hw ?hc
  case hw => w_witness2
  case hc =>
    refine L2.walk_ofE (l := PySem.Challenge.rw_folderkin_k80_blocks_that_must_come) (n := 63) (k := 8) (x := "script") (CX := L2.CX0) rfl (by decide) (by kernel_rfl) ⟨rfl, by decide, by decide⟩ ?F (fun _ _ _ _ z => z)
    intro w mg fa h Y G hmg0
    obtain ⟨K, KX, c⟩ := Y
    have hmg : mg ("law" : PySem.Str) = some (.ref fa) := by
      have e : (HandSHeadRun.topDef (OpenLaw.row PySem.Challenge.rw_folderkin_k80_blocks_that_must_come).prog 29).name = ("law" : PySem.Str) := by kernel_rfl
      rw [← e]
      exact hmg0
    obtain ⟨fd, hb, hF⟩ := Vk80.facts (P := (PySem.Challenge.rw_folderkin_k80_blocks_that_must_come).prog) (w := w) KX G hmg c
    exact ⟨K, fd, Vk80.sp_law K, KX, hb, fun H a ns hl _ hS => ⟨_, rfl, a, ns, rfl, hS, hl, fun _ => rfl⟩, hF⟩
