import PyProof.Rows.All
import Wide.All
import OpenK.AllK
import Wide.FinOn
import HandS.Walk
import KE.KDictWalk
import HandS.Deep
import KE.KDictCopyH
import HandS.ForMost
import HandS.IsInst
import HandS.Conv
import HandS.Wide
import HandS.Codes
import HandS.ExcIs
import PyProof.Rows.SortShellAny
import HandS.WordsList
import HandS.ExcOwn
import HandS.Exc
import HandS.FStr
import HandS.Small
import HandS.TryMany
import HandS.TryOnly
import HandS.WordsExc
import KE.GoesEnum
import KE.DatumOrd
import HandS.TupAny
import HandS.SetTxt0
import HandS.Set
import HandS.Comp
import HandS.SetFor
import HandS.Strs
import KE.GoesSet
import HandS.DictComp
import KE.SortData
import HandS.TupMul
import KE.KTupSum
import KE.KIndexOf
import HandS.StrMore
import HandS.More
import HandS.SortKw
import KE.KSortKeyAny
import HandS.Rev
import HandS.Style
import KE.DataEq
import HandS.Sort
import HandS.Property
import HandS.NoneIn
import HandS.HotCalls
import KE.DatumMoreOrd
import HandS.FStrTup
import HandS.DictTup
import HandS.TupLen
import HandS.TupLe
import KE.SortKeyHeap
import HandS.EndTab
import HandS.Lambda
import PySem.Challenge.RW_textshards_k46_automata_of_words
set_option Elab.async false
set_option linter.all false
set_option maxRecDepth 100000
set_option maxHeartbeats 4000000
namespace Sh
open PySem PySem.Spec PyProof.Rows L2
/-- enumerate(text): at each turn a new pair of the place and the sign -/
def ItS (x : Str) : It :=
  ⟨fun i _ => i < x.cps.size, fun i H v H' => ∃ T c, v = .ref T ∧ H T = none ∧ x.cps[i]? = some c ∧ H' = upd H T (.tup [.int (i : Nat), .str ⟨#[c]⟩]), fun i _ => x.cps.size ≤ i⟩
theorem turn_enumS {P : Program} {w : World} {K : PySem.W.Frag} {elts : List Expr} {kk : Nat} {tpos : Pos} (x : Str) (t : Tok) (e it : Addr) :
    Turn P w K (.Tuple elts kk tpos) (ItS x) [e, it] e (fun i h => i ≤ x.cps.size ∧ (∃ old, IsEnum h e it ((i : Nat) : Int) old) ∧ h.IsStrIter it (strIterType x) x t i ∧ e ≠ it) where
  mem := by simp
  obj := fun i h st b hb => by
    obtain ⟨_, ⟨old, he⟩, ⟨o, ho, hc, hd⟩, _⟩ := st
    have e' : b = e ∨ b = it := by simpa using hb
    rcases e' with z | z
    · rw [z]; exact ⟨_, he, fun v q => nomatch q⟩
    · rw [z]; exact ⟨o, ho, fun v q => by rw [hd] at q; cases q⟩
  keep := fun i h h' st k => by
    obtain ⟨hi, ⟨old, he⟩, ⟨o, ho, r⟩, hne⟩ := st
    exact ⟨hi, ⟨old, k e (by simp) _ he⟩, ⟨o, k it (by simp) o ho, r⟩, hne⟩
  item := by
    intro X hP hw hK hc i pins s σ H E I hf st hg
    subst hP hw hK
    obtain ⟨_, ⟨old, he⟩, hit, hne⟩ := st
    have hel : e < s.heap.objs.size := Heap.lt_size he
    have hil : it < s.heap.objs.size := by obtain ⟨_, q, _⟩ := hit; exact Heap.lt_size q
    refine wpAny_pyNext_enum_itemC (D := Draws.text (A := X.A.in1) (I.ok.hd hc) it x t) he hit hg hne (by simpa using hne) fun u h' tk hu ho hit' hT hsz hk => ?_
    obtain ⟨c, ut, hcx, rfl⟩ := hu
    refine ⟨_, rfl, wpAny_letOwnedTupleGo_enum (s := { s with heap := h', toks := tk + 1 }) ho fun h'' he' sb => ?_⟩
    have hT2 : h''.get? s.heap.objs.size = some { cls := .type "tuple", data := .seq #[.int i tk, .str ⟨#[c]⟩ ut] } := (sb.2 _ (Nat.ne_of_gt hel)).trans hT
    have new : ObjOk X.prog X.w (upd H s.heap.objs.size (.tup [.int (i : Nat), .str ⟨#[c]⟩])) h'' s.heap.objs.size (.tup [.int (i : Nat), .str ⟨#[c]⟩]) :=
      ⟨by show 2 ≤ sizeLine; decide, [.int i tk, .str ⟨#[c]⟩ ut], .cons ⟨_, rfl⟩ (.cons ⟨_, rfl⟩ .nil), ⟨_, hT2, rfl, _, rfl⟩⟩
    have I1 : Inv X pins σ (upd H s.heap.objs.size (.tup [.int (i : Nat), .str ⟨#[c]⟩])) { s with heap := h'', toks := tk + 1 } :=
      I.turnedNew (ch := [e, it]) (fun b ob hb q => (sb.2 b (fun z => hb (by simp [z]))).trans (hk b ob (fun z => hb (by simp [z])) (fun z => hb (by simp [z])) q)) hf (Nat.le_refl _) new
    refine ⟨.ref s.heap.objs.size, _, I1, rfl, ⟨_, c, rfl, I.hok.fresh (Nat.le_refl _), hcx, rfl⟩, ⟨hg, ⟨.str ⟨#[c]⟩ ut, ?_⟩, ?_, hne⟩, fun b hb => ?_⟩
    · have e1 : ((i + 1 : Nat) : Int) = (i : Int) + 1 := by omega
      rw [e1]; exact he'
    · obtain ⟨oi, q1, q2⟩ := hit'
      exact ⟨oi, (sb.2 it (Ne.symm hne)).trans q1, q2⟩
    · have hb' : b < s.heap.objs.size := by
        have e' : b = e ∨ b = it := by simpa using hb
        rcases e' with z | z
        · rw [z]; exact hel
        · rw [z]; exact hil
      rw [upd_ne (Nat.ne_of_lt hb')]
      exact (hf b hb).1
  done := by
    intro X hP hw hK hc i pins s σ H E I hf st hg
    subst hP hw hK
    obtain ⟨hi, ⟨old, he⟩, hit, hne⟩ := st
    have hi' : i = x.cps.size := Nat.le_antisymm hi hg
    subst hi'
    obtain ⟨f0, f1, f2, f3, f4, f5⟩ := hf it (by simp)
    exact wpAny_pyNext_enum_endD (D := Draws.text (A := X.A.in1) (I.ok.hd hc) it x t) he hit fun h' hx =>
      ⟨rfl, I.turned (t' := s.toks) (fun b o hb q => hx b o hb q) f0 f1 f3 f4 f5⟩
  self := fun A i s Q E st h => let ⟨_, ⟨_, he⟩, _⟩ := st; wpAny_pyIter_enum he h
def iEnumS (ta : TA) : TI := fun σ H R => ta σ H fun vs H1 => ∃ x, vs = [.str x] ∧ R (ItS x) H1
theorem pi_enumS {X : Cx} {e : Expr} {ta : TA} {p pos tpos : Pos} {elts : List Expr} {kk : Nat} (hg : Gl X "enumerate") (hm : X.mg "enumerate" = none) (ha : PA X [e] ta) (hs : starEach [e] X.env = [(false, eval e X.env)] := by rfl) :
    PI X (.Tuple elts kk tpos) (.Call (.Name "enumerate" p) [e] [] pos) (iEnumS ta) := by
  refine ⟨fun pins s σ H R I h => ?_⟩
  refine Call_ (ld_blt I hg hm boot_enumerate (PyProof.Rows.callWith_type1 (thn (ha.run pos pins s σ H _ I h) fun us s1 ⟨vs, H1, I1, r1, q1⟩ => ?_) hs rfl))
  obtain ⟨x, ex, q⟩ := q1
  subst ex
  cases r1 with
  | cons r rr =>
    cases rr
    obtain ⟨t, rfl⟩ := r
    refine call_enumerate_str fun h' he hit hsz hk => wpAny_pyIter_enum he ?_
    have I2 : Inv X pins σ H1 { s1 with heap := h' } := I1.kept (t' := s1.toks) hk
    refine ⟨s1.heap.objs.size + 1, [s1.heap.objs.size + 1, s1.heap.objs.size], _, _, H1, rfl, I2, turn_enumS x t (s1.heap.objs.size + 1) s1.heap.objs.size, ⟨Nat.zero_le _, ⟨.none, he⟩, hit, Nat.succ_ne_self _⟩, fun b hb => ?_, q⟩
    have e' : b = s1.heap.objs.size + 1 ∨ b = s1.heap.objs.size := by simpa using hb
    have hle : s1.heap.objs.size ≤ b := by
      rcases e' with z | z
      · rw [z]; exact Nat.le_add_right _ _
      · rw [z]; exact Nat.le_refl _
    exact I1.fpOk hle (I1.hok.fresh hle)
end Sh

namespace Sh
open PySem PySem.Spec PyProof.Rows L2

/-! ### texts as lists of codes -/
def S (l : List Nat) : Str := ⟨l.toArray⟩
theorem S_len (l : List Nat) : (S l).length = l.length := by simp [S, Str.length]
theorem S_list (l : List Nat) : (S l).cps.toList = l := by simp [S]
theorem S_of (z : Str) : z = S z.cps.toList := by cases z; simp [S]
theorem S_inj {a b : List Nat} (h : S a = S b) : a = b := by
  have := congrArg (fun z : Str => z.cps.toList) h
  simpa [S_list] using this
theorem S_one (c : Nat) : (⟨#[c]⟩ : Str) = S [c] := rfl
theorem S_app (a b : List Nat) : S a ++ S b = S (a ++ b) := by
  show (⟨a.toArray ++ b.toArray⟩ : Str) = ⟨(a ++ b).toArray⟩
  simp
theorem dS (a b : List Nat) : decide (V.str (S a) = V.str (S b)) = decide (a = b) := by
  by_cases h : a = b
  · subst h; simp
  · rw [decide_eq_false h, decide_eq_false]
    intro e
    exact h (S_inj (V.str.inj e))
theorem dI (a b : Int) : decide (V.int a = V.int b) = decide (a = b) := by
  by_cases h : a = b
  · subst h; simp
  · rw [decide_eq_false h, decide_eq_false]
    intro e
    exact h (V.int.inj e)
theorem dB (a b : Bool) : decide (V.bl a = V.bl b) = decide (a = b) := by
  by_cases h : a = b
  · subst h; simp
  · rw [decide_eq_false h, decide_eq_false]
    intro e
    exact h (V.bl.inj e)
/-- a slice of a list, by Python's rule -/
def cutL {α : Type} (l : List α) (lo hi : Option Int) : List α := (l.drop (HT.sIx l.length 0 lo)).take (HT.sIx l.length l.length hi - HT.sIx l.length 0 lo)
theorem cutS_S (l : List Nat) (lo hi : Option Int) : cutS (S l) lo hi = S (cutL l lo hi) := by
  unfold cutS cutL
  rw [S_list, S_len]
  rfl
theorem sIx_nn {n d : Nat} {i : Int} (h : 0 ≤ i) : HT.sIx n d (some i) = min i.toNat n := by
  obtain ⟨k, rfl⟩ := Int.eq_ofNat_of_zero_le h
  exact HT.sIx_nat n d k
theorem cutL_to {α : Type} (l : List α) {j : Int} (h : 0 ≤ j) : cutL l none (some j) = l.take j.toNat := by
  unfold cutL
  rw [HT.sIx_none, sIx_nn h, List.drop_zero, Nat.sub_zero]
  by_cases hj : j.toNat ≤ l.length
  · rw [Nat.min_eq_left hj]
  · rw [Nat.min_eq_right (by omega), List.take_of_length_le (Nat.le_refl _), List.take_of_length_le (by omega)]
theorem cutL_from {α : Type} (l : List α) {i : Int} (h : 0 ≤ i) : cutL l (some i) none = l.drop i.toNat := by
  unfold cutL
  rw [HT.sIx_none, sIx_nn h]
  by_cases hj : i.toNat ≤ l.length
  · rw [Nat.min_eq_left hj, List.take_of_length_le (by rw [List.length_drop]; omega)]
  · rw [Nat.min_eq_right (by omega), List.drop_of_length_le (Nat.le_refl _), List.drop_of_length_le (by omega)]
    simp
theorem cutL_mid {α : Type} (l : List α) {i j : Int} (h : 0 ≤ i) (h2 : 0 ≤ j) : cutL l (some i) (some j) = (l.drop i.toNat).take (j.toNat - i.toNat) := by
  unfold cutL
  rw [sIx_nn h, sIx_nn h2]
  by_cases hi : i.toNat ≤ l.length
  · rw [Nat.min_eq_left hi]
    by_cases hj : j.toNat ≤ l.length
    · rw [Nat.min_eq_left hj]
    · rw [Nat.min_eq_right (by omega), List.take_of_length_le (by rw [List.length_drop]; omega), List.take_of_length_le (by rw [List.length_drop]; omega)]
  · rw [Nat.min_eq_right (show l.length ≤ i.toNat by omega), List.drop_of_length_le (Nat.le_refl _), List.drop_of_length_le (show l.length ≤ i.toNat by omega)]
    simp
theorem cutL_len {α : Type} (l : List α) (lo hi : Option Int) : (cutL l lo hi).length ≤ l.length := by
  unfold cutL
  rw [List.length_take, List.length_drop]
  omega
theorem cutL_sub {α : Type} {l : List α} {lo hi : Option Int} {x : α} (h : x ∈ cutL l lo hi) : x ∈ l :=
  List.mem_of_mem_drop (List.mem_of_mem_take h)
theorem cutV_L (xs : List V) (lo hi : Option Int) : cutV xs lo hi = cutL xs lo hi := rfl
theorem cutL_map {α β : Type} (f : α → β) (xs : List α) (lo hi : Option Int) : cutL (xs.map f) lo hi = (cutL xs lo hi).map f := by
  unfold cutL
  rw [List.length_map, List.map_take, List.map_drop]

/-! ### named readings, in steps -/
def kB (Q : Bool → Hp → Prop) : VK := fun x H => ∃ k, x = .bl k ∧ Q k H
def kIf (b : Bool) (A B : Prop) : Prop := if b = true then A else B
section
variable {K : PySem.W.Frag} {σ σ' : L2.St} {H H1 : Hp} {Q : VK} {Qb : Bool → Hp → Prop} {v x y : V} {ta tb tc te : TE} {t u c : TT} {D : Ends} {tu tw : TS} {i : Nat} {r : R2}
theorem v_var (h : σ[i]? = some (some v)) (q : Q v H) : tVar i σ H Q := ⟨v, h, q⟩
theorem v_c (q : Q v H) : tC v σ H Q := q
theorem v_op (q : ta σ H fun x H1 => tb σ H1 fun y H2 => r x y H2 Q) : tOp r ta tb σ H Q := q
theorem v_un {r : V → Hp → VK → Prop} (q : ta σ H fun x H1 => r x H1 Q) : tUn r ta σ H Q := q
theorem v_test (q : te σ H (kB Qb)) : tTest te σ H Qb := q
theorem v_B (q : te σ H (kB Qb)) : tB te σ H Qb := q
theorem v_kB {b : Bool} (q : Qb b H) : kB Qb (.bl b) H := ⟨b, rfl, q⟩
theorem v_neg {k : Int} (q : Q (.int (-k)) H) : rU (fun i => .int (-i)) (.int k) H Q := ⟨k, rfl, q⟩
theorem v_I0 {g : Int → Int → V} {a b : Int} (q : Q (g a b) H) : rI0 g (.int a) (.int b) H Q := ⟨a, b, rfl, rfl, q⟩
theorem v_I {C : Int → Int → Prop} {g : Int → Int → V} {a b : Int} (hc : C a b) (q : Q (g a b) H) : rI C g (.int a) (.int b) H Q := ⟨a, b, rfl, rfl, hc, q⟩
theorem v_eq (h : scal x y = true) (q : Q (.bl (decide (x = y))) H) : rEq x y H Q := ⟨h, q⟩
theorem v_ne (h : scal x y = true) (q : Q (.bl (!decide (x = y))) H) : rNe x y H Q := ⟨h, q⟩
theorem v_eqS {a b : List Nat} (q : Q (.bl (decide (a = b))) H) : rEq (.str (S a)) (.str (S b)) H Q := ⟨rfl, by rw [dS]; exact q⟩
theorem v_neS {a b : List Nat} (q : Q (.bl (!decide (a = b))) H) : rNe (.str (S a)) (.str (S b)) H Q := ⟨rfl, by rw [dS]; exact q⟩
theorem v_eqI {a b : Int} (q : Q (.bl (decide (a = b))) H) : rEq (.int a) (.int b) H Q := ⟨rfl, by rw [dI]; exact q⟩
theorem v_neI {a b : Int} (q : Q (.bl (!decide (a = b))) H) : rNe (.int a) (.int b) H Q := ⟨rfl, by rw [dI]; exact q⟩
theorem v_eqB {a b : Bool} (q : Q (.bl (decide (a = b))) H) : rEq (.bl a) (.bl b) H Q := ⟨rfl, by rw [dB]; exact q⟩
theorem v_neB {a b : Bool} (q : Q (.bl (!decide (a = b))) H) : rNe (.bl a) (.bl b) H Q := ⟨rfl, by rw [dB]; exact q⟩
/-! tests joined -/
theorem v_and (q : t σ H fun c H1 => kIf c (u σ H1 Qb) (Qb false H1)) : tAnd t u σ H Qb := q
theorem v_or (q : t σ H fun c H1 => kIf c (Qb true H1) (u σ H1 Qb)) : tOr t u σ H Qb := q
theorem v_not (q : t σ H fun c H1 => Qb (!c) H1) : tNot t σ H Qb := q
def kAnd (A : Prop) (B : Prop) (x : V) : Prop := ∃ c, x = .bl c ∧ if c = true then A else B
theorem v_kAnd {A B : Prop} {b : Bool} (q : kIf b A B) : kAnd A B (.bl b) := ⟨b, rfl, q⟩
theorem v_andV (q : ta σ H fun x H1 => kAnd (tb σ H1 Q) (Q (.bl false) H1) x) : tAndV ta tb σ H Q := q
theorem v_orV (q : ta σ H fun x H1 => kAnd (Q (.bl true) H1) (tb σ H1 Q) x) : tOrV ta tb σ H Q := q
def kNot (Q : VK) : VK := fun x H => ∃ c, x = .bl c ∧ Q (.bl (!c)) H
theorem v_kNot {b : Bool} (q : Q (.bl (!b)) H) : kNot Q (.bl b) H := ⟨b, rfl, q⟩
theorem v_notV (q : ta σ H (kNot Q)) : tNotV ta σ H Q := q
theorem v_ifE (q : t σ H fun c H1 => kIf c (ta σ H1 Q) (tb σ H1 Q)) : tIf t ta tb σ H Q := q
theorem k_if {b : Bool} {A B : Prop} (h1 : b = true → A) (h2 : b = false → B) : kIf b A B := by
  unfold kIf
  cases b with
  | true => rw [if_pos rfl]; exact h1 rfl
  | false => rw [if_neg Bool.false_ne_true]; exact h2 rfl
theorem k_ifD {c : Prop} [Decidable c] {A B : Prop} (h1 : c → A) (h2 : ¬ c → B) : kIf (decide c) A B :=
  k_if (fun h => h1 (of_decide_eq_true h)) (fun h => h2 (of_decide_eq_false h))
theorem k_ifN {c : Prop} [Decidable c] {A B : Prop} (h1 : ¬ c → A) (h2 : c → B) : kIf (!decide c) A B :=
  k_if (fun h => h1 (by intro hc; rw [decide_eq_true hc] at h; exact absurd h (by decide))) (fun h => h2 (by
    by_cases hc : c
    · exact hc
    · rw [decide_eq_false hc] at h; exact absurd h (by decide)))
theorem k_ifT {A B : Prop} (h : A) : kIf true A B := k_if (fun _ => h) (fun e => absurd e (by decide))
theorem k_ifF {A B : Prop} (h : B) : kIf false A B := k_if (fun e => absurd e (by decide)) (fun _ => h)
/-! calls, displays, slices -/
theorem v_cb {r : List V → Hp → VK → Prop} {t : TA} (q : t σ H fun vs H1 => r vs H1 Q) : tCB r t σ H Q := q
theorem v_nil {Q : List V → Hp → Prop} (q : Q [] H) : tNil σ H Q := q
theorem v_cons {Q : List V → Hp → Prop} {tr : TA} (q : ta σ H fun x H1 => tr σ H1 fun xs H2 => Q (x :: xs) H2) : tCons ta tr σ H Q := q
theorem v_call {sp : Sp} {dvs : List V} {E : XK} {t : TA} (q : t σ H fun vs H1 => sp (vs ++ dvs) H1 Q E) : tCall sp dvs E t σ H Q := q
theorem v_bm {T : String} {r : V → List V → Hp → VK → Prop} {t : TA} (q : ta σ H fun x H1 => tyV K T x H1 ∧ t σ H1 fun xs H2 => r x xs H2 Q) : tBM K T r ta t σ H Q := q
theorem v_bm0 {T : String} {r : V → List V → Hp → VK → Prop} (q : ta σ H fun x H1 => tyV K T x H1 ∧ r x [] H1 Q) : tBM0 K T r ta σ H Q := q
theorem v_tup {t : TA} (q : t σ H fun xs H1 => xs.length ≤ sizeLine ∧ ∀ p, H1 p = none → Q (.ref p) (upd H1 p (.tup xs))) : tTup t σ H Q := q
theorem v_lst {t : TA} (q : t σ H fun xs H1 => xs.length ≤ sizeLine ∧ ∀ p, H1 p = none → Q (.ref p) (upd H1 p (.lst xs))) : tLst t σ H Q := q
def kP (Q : Option Int → Hp → Prop) : VK := fun x H => ∃ i, x = .int i ∧ Q (some i) H
theorem v_kP {Q : Option Int → Hp → Prop} {a : Int} (q : Q (some a) H) : kP Q (.int a) H := ⟨a, rfl, q⟩
theorem v_part {Q : Option Int → Hp → Prop} (q : te σ H (kP Q)) : tPart te σ H Q := q
theorem v_nopart {Q : Option Int → Hp → Prop} (q : Q none H) : tNoPart σ H Q := q
theorem v_sl {r : V → Option Int → Option Int → Hp → VK → Prop} {tl th : TO} (q : te σ H fun x H1 => tl σ H1 fun l H2 => th σ H2 fun u H3 => r x l u H3 Q) : tSl r te tl th σ H Q := q
theorem v_slS {l : List Nat} {lo hi : Option Int} (hz : l.length ≤ sizeLine) (q : Q (.str (S (cutL l lo hi))) H) : rSlS (.str (S l)) lo hi H Q := ⟨S l, rfl, by rw [S_len]; exact hz, by rw [cutS_S]; exact q⟩
theorem v_ixS {l : List Nat} {k c : Nat} (hz : l.length ≤ sizeLine) (h : l[k]? = some c) {j : Int} (e : j = (k : Int)) (q : Q (.str (S [c])) H) : rIxS (.str (S l)) (.int j) H Q := by
  subst e
  exact ⟨S l, (k : Int), c, rfl, rfl, by rw [S_len]; exact hz, by rw [S_list]; exact atI_nat h, q⟩
theorem v_ixL {p : Addr} {xs : List V} {k : Nat} (hs : SqL K H p xs) (h : xs[k]? = some v) {j : Int} (e : j = (k : Int)) (q : Q v H) : rIxL K (.ref p) (.int j) H Q := by
  subst e
  exact ⟨p, xs, (k : Int), v, rfl, rfl, hs, atI_nat h, q⟩
theorem v_ixT {p : Addr} {xs : List V} {k : Nat} (hs : SqT K H p xs) (h : xs[k]? = some v) {j : Int} (e : j = (k : Int)) (q : Q v H) : rIxT K (.ref p) (.int j) H Q := by
  subst e
  exact ⟨p, xs, (k : Int), v, rfl, rfl, hs, atI_nat h, q⟩
def rCatX : R2 := fun x y H Q => ∃ i j, x = .str i ∧ y = .str j ∧ i.length + j.length ≤ sizeLine ∧ Q (.str (i ++ j)) H
theorem op_addS {X : Cx} : OpR X (binaryOp .Add) rCatX := op_add_str
theorem v_addS {a b : List Nat} (hz : a.length + b.length ≤ sizeLine) (q : Q (.str (S (a ++ b))) H) : rCatX (.str (S a)) (.str (S b)) H Q := ⟨S a, S b, rfl, rfl, by rw [S_len, S_len]; exact hz, by rw [S_app]; exact q⟩
def rLenX : List V → Hp → VK → Prop := fun xs H Q => ∃ z, xs = [.str z] ∧ z.length ≤ sizeLine ∧ Q (.int z.length) H
theorem call_lenS {X : Cx} : CallR X (.builtin "len") rLenX := call_len_str
theorem v_lenS {l : List Nat} (hz : l.length ≤ sizeLine) (q : Q (.int (l.length : Int)) H) : rLenX [.str (S l)] H Q := ⟨S l, rfl, by rw [S_len]; exact hz, by rw [S_len]; exact q⟩
def rLenQ (K : PySem.W.Frag) : List V → Hp → VK → Prop := fun xs H Q => ∃ p ys, xs = [.ref p] ∧ (SqL K H p ys ∨ SqT K H p ys) ∧ Q (.int ys.length) H
theorem call_lenQ {X : Cx} : CallR X (.builtin "len") (rLenQ X.K) := call_len_seq
theorem v_lenL {p : Addr} {xs : List V} (hs : SqL K H p xs) (q : Q (.int (xs.length : Int)) H) : rLenQ K [.ref p] H Q := ⟨p, xs, rfl, .inl hs, q⟩
theorem v_lenT {p : Addr} {xs : List V} (hs : SqT K H p xs) (q : Q (.int (xs.length : Int)) H) : rLenQ K [.ref p] H Q := ⟨p, xs, rfl, .inr hs, q⟩
def rListQ (K : PySem.W.Frag) : List V → Hp → VK → Prop := fun xs H Q => ∃ p ys, xs = [.ref p] ∧ (SqL K H p ys ∨ SqT K H p ys) ∧ ∀ l, H l = none → Q (.ref l) (upd H l (.lst ys))
theorem call_listQ {X : Cx} : CallR X (.type "list") (rListQ X.K) := call_list_of
theorem v_listL {p : Addr} {xs : List V} (hs : SqL K H p xs) (q : ∀ l, H l = none → Q (.ref l) (upd H l (.lst xs))) : rListQ K [.ref p] H Q := ⟨p, xs, rfl, .inl hs, q⟩
def rTupQ (K : PySem.W.Frag) : List V → Hp → VK → Prop := fun xs H Q => ∃ p ys, xs = [.ref p] ∧ ((SqL K H p ys ∧ ∀ l, H l = none → Q (.ref l) (upd H l (.tup ys))) ∨ (SqT K H p ys ∧ Q (.ref p) H))
theorem call_tupQ {X : Cx} : CallR X (.type "tuple") (rTupQ X.K) := call_tuple_of
theorem v_tupL {p : Addr} {xs : List V} (hs : SqL K H p xs) (q : ∀ l, H l = none → Q (.ref l) (upd H l (.tup xs))) : rTupQ K [.ref p] H Q := ⟨p, xs, rfl, .inl ⟨hs, q⟩⟩
def rIntX : List V → Hp → VK → Prop := fun xs H Q => (∃ i, xs = [.int i] ∧ Q (.int i) H) ∨ ∃ k, xs = [.bl k] ∧ Q (.int (if k then 1 else 0)) H
theorem call_intX {X : Cx} : CallR X (.type "int") rIntX := call_int1
theorem v_int {a : Int} (q : Q (.int a) H) : rIntX [.int a] H Q := .inl ⟨a, rfl, q⟩
def rAbsX : List V → Hp → VK → Prop := fun xs H Q => ∃ i, xs = [.int i] ∧ Q (.int (if i < 0 then -i else i)) H
theorem call_absX {X : Cx} : CallR X (.builtin "abs") rAbsX := call_abs
theorem v_abs {a : Int} (q : Q (.int (if a < 0 then -a else a)) H) : rAbsX [.int a] H Q := ⟨a, rfl, q⟩
def rMax2X : List V → Hp → VK → Prop := fun xs H Q => ∃ i j, xs = [.int i, .int j] ∧ Q (.int (if j > i then j else i)) H
theorem call_max2X {X : Cx} (hc : X.calm = true) : CallR X (.builtin "max") rMax2X := call_max2 hc
theorem v_max2 {a b : Int} (q : Q (.int (if b > a then b else a)) H) : rMax2X [.int a, .int b] H Q := ⟨a, b, rfl, q⟩
def rMin2X : List V → Hp → VK → Prop := fun xs H Q => ∃ i j, xs = [.int i, .int j] ∧ Q (.int (if j < i then j else i)) H
theorem call_min2X {X : Cx} (hc : X.calm = true) : CallR X (.builtin "min") rMin2X := call_min2 hc
theorem v_min2 {a b : Int} (q : Q (.int (if b < a then b else a)) H) : rMin2X [.int a, .int b] H Q := ⟨a, b, rfl, q⟩
/-! statements -/
theorem v_seq (q : tu { D with nx := tw D } σ H) : tSeq tu tw D σ H := q
theorem v_asg {g : TG} (q : te σ H fun x H1 => g x σ H1 D.nx) : tAsg te g D σ H := q
theorem v_name {Q : L2.St → Hp → Prop} (q : Q (σ.set i (some v)) H) : gName i v σ H Q := q
theorem v_ret (q : te σ H D.rt) : tRet te D σ H := q
theorem v_drop (q : te σ H fun _ H1 => D.nx σ H1) : tDrop te D σ H := q
theorem v_ifS (q : t σ H fun b H1 => kIf b (tu D σ H1) (tw D σ H1)) : tIfS t tu tw D σ H := q
theorem v_next (q : D.nx σ H) : tNext D σ H := q
theorem v_brk (q : D.bk σ H) : tBreak D σ H := q
theorem v_cont (q : D.ct σ H) : tCont D σ H := q
theorem v_aug {ti : TIp} (h : σ[i]? = some (some x)) (q : te σ H fun y H1 => ti x y H1 fun z H2 => D.nx (σ.set i (some z)) H2) : tAug i te ti D σ H := ⟨x, h, q⟩
theorem v_ipI {f : Int → Int → Int} {a b : Int} (q : Q (.int (f a b)) H) : ipI f (.int a) (.int b) H Q := ⟨a, b, rfl, rfl, q⟩
def tNm := @gName
theorem v_setL {p : Addr} {xs : List V} {k : Nat} {Q : Hp → Prop} (hs : H p = some (.lst xs)) (h : k < xs.length) {j : Int} (e : j = (k : Int)) (q : Q (upd H p (.lst (xs.set k v)))) : rSetL (.ref p) (.int j) v H Q := by
  subst e
  exact ⟨p, xs, (k : Int), k, rfl, rfl, hs, by unfold ixN; rw [if_pos (by omega), if_pos (by omega)]; simp, q⟩
theorem v_sub {to ti : TE} {t : TSet} {Q : L2.St → Hp → Prop} (q : to σ H fun o H1 => ti σ H1 fun i H2 => t o i v H2 fun H3 => Q σ H3) : gSub to ti t v σ H Q := q
theorem v_append {l : Addr} {xs : List V} (hs : H l = some (.lst xs)) (hz : xs.length < sizeLine) (q : Q .non (upd H l (.lst (xs ++ [v])))) : rAppend (.ref l) [v] H Q := ⟨l, xs, v, rfl, rfl, hs, hz, q⟩
theorem tyL {p : Addr} {xs : List V} (hs : SqL K H p xs) : tyV K "list" (.ref p) H := .inl ⟨rfl, xs, hs⟩
end
theorem same_upd {H : Hp} {p : Addr} {o : HO} (h : H p = none) : Same H (upd H p o) := fun b x e => by
  rw [upd_ne (ne_of_none e h)]
  exact e
/-- what H0 does not know may change -/
theorem same_mut {H0 H : Hp} {p : Addr} {o : HO} (s : Same H0 H) (h : H0 p = none) : Same H0 (upd H p o) := fun b x e => by
  rw [upd_ne (ne_of_none e h)]
  exact s b x e
end Sh

namespace Sh
open PySem PySem.Spec PyProof.Rows L2
/-! ### defs that are called; the text's top -/
structure C1 (P : Program) (w : World) (K : PySem.W.Frag) (mg : Str → Option Value) (base : Heap) (k : Nat) (x : Str) (sp : Sp) : Prop where
  ex : ∃ (f : Addr) (fd : FuncData) (ps : List Str), FnOk P w K mg base CX0 k f fd ps sp ∧ mg x = some (.ref f) ∧ PySem.W.keepIn K (.ref f) = true ∧ Binds K fd ps []
theorem pe_c {X : Cx} {k j : Nat} {x : Str} {sp : Sp} {p pos : Pos} {e : Expr} {es : List Expr} {t : TA} (c : C1 X.prog X.w X.K X.mg X.base k x sp) (hr : Room j X.A) (hk : k ≤ j) (hg : Gl X x) (ha : PA X (e :: es) t)
    (hdb : (x == ("__debug__" : Str)) = false := by decide) (he : starEach (e :: es) X.env = (false, eval e X.env) :: starEach es X.env := by rfl) (hpl : (backTo pos (starEach es X.env)).any (·.1) = false := by rfl) :
    PE X (.Call (.Name x p) (e :: es) [] pos) (tCall sp [] E0 t) := by
  obtain ⟨f, fd, ps, F, hm, kp, b⟩ := c.ex
  exact pe_call F (hr.mono hk) hg hm kp b .nil pass0 ha hdb he hpl
theorem pe_c0 {X : Cx} {k j : Nat} {x : Str} {sp : Sp} {p pos : Pos} (c : C1 X.prog X.w X.K X.mg X.base k x sp) (hr : Room j X.A) (hk : k ≤ j) (hg : Gl X x)
    (hdb : (x == ("__debug__" : Str)) = false := by decide) :
    PE X (.Call (.Name x p) [] [] pos) (tCall sp [] E0 tNil) := by
  obtain ⟨f, fd, ps, F, hm, kp, b⟩ := c.ex
  exact pe_call0 F (hr.mono hk) hg hm kp b .nil pass0 hdb
theorem hu64 {A : Around} {k : Nat} (hr : Room k A) : A.units + 64 < cLine := hr.units
/-! join with nothing between -/
theorem joinL_nil : ∀ ys : List (List Nat), TL.joinL [] ys = ys.flatten
  | [] => rfl
  | [p] => by simp [TL.joinL]
  | p :: q :: r => by
    show p ++ ([] ++ TL.joinL [] (q :: r)) = _
    rw [joinL_nil (q :: r)]
    simp
theorem join_nil (ys : List (List Nat)) : Txt.join (S []) (ys.map S) = S ys.flatten := (SX.join_S [] ys).trans (by rw [joinL_nil]; rfl)
def rJoinX (K : PySem.W.Frag) : V → List V → Hp → VK → Prop := fun x xs H Q => ∃ a p, ∃ ys : List Str, x = .str a ∧ xs = [.ref p] ∧ (SqL K H p (ys.map V.str) ∨ SqT K H p (ys.map V.str)) ∧
    (ys.map (·.length)).sum + ys.length * a.length ≤ 16777216 ∧ Q (.str (Txt.join a ys)) H
theorem mt_joinX {X : Cx} : MtR X "str.join" (rJoinX X.K) := mt_join
theorem v_join {K : PySem.W.Frag} {H : Hp} {Q : VK} {p : Addr} {ys : List (List Nat)} (hs : SqL K H p (ys.map fun y => V.str (S y))) (hz : (ys.map (·.length)).sum ≤ 16777216) (q : Q (.str (S ys.flatten)) H) : rJoinX K (.str (S [])) [.ref p] H Q := by
  refine ⟨S [], p, ys.map S, rfl, rfl, .inl ?_, ?_, ?_⟩
  · rw [List.map_map]; exact hs
  · rw [S_len, List.map_map]
    have : (fun x => x.length) ∘ S = fun x : List Nat => x.length := by funext x; exact S_len x
    rw [this]
    simpa using hz
  · rw [join_nil]; exact q
theorem v_m1 {σ : L2.St} {H : Hp} {Q : VK} {to te : TE} {r : V → List V → Hp → VK → Prop} (q : to σ H fun x H1 => (∃ a, x = .str a) ∧ te σ H1 fun y H2 => r x [y] H2 Q) : tM1 r to te σ H Q := q
theorem v_m0 {σ : L2.St} {H : Hp} {Q : VK} {to : TE} {r : V → List V → Hp → VK → Prop} (q : to σ H fun x H1 => (∃ a, x = .str a) ∧ r x [] H1 Q) : tM0 r to σ H Q := q

/-! ### loops in short -/
section
variable {K : PySem.W.Frag} {σ : L2.St} {H : Hp} {D : Ends} {tu tw : TS} {g : TG} {ta : TA} {te tl : TE} {tt : TT} {c : TT} {Q : VK} {R : It → Hp → Prop}
def kFor (g : TG) (tb : TS) (D : Ends) (σ : L2.St) : It → Hp → Prop := fun J H1 => ∃ W : Nat → Nat → L2.St → Hp → Prop, (∃ m, W 0 m σ H1) ∧ ∀ i m σ H, W i m σ H →
  (J.stop i H ∧ D.nx σ H) ∨ (J.go i H ∧ ∃ N : L2.St → Hp → Prop, (∀ σ' H', N σ' H' → ∃ m', m' < m ∧ W (i + 1) m' σ' H') ∧ ∀ x H', J.yld i H x H' → g x σ H' fun σ2 H2 => tb { D with nx := N, ct := N, bk := D.nx } σ2 H2)
theorem v_for {wi : TI} (q : wi σ H (kFor g tu D σ)) : tFor wi g tu D σ H := q
def kR1 (R : It → Hp → Prop) : List V → Hp → Prop := fun vs H1 => ∃ j : Int, vs = [.int j] ∧ -(2 ^ 62) ≤ j ∧ j < 2 ^ 62 ∧ R (Itr 0 j.toNat) H1
theorem v_rng1 (q : ta σ H (kR1 R)) : iRng1 ta σ H R := q
theorem v_kR1 {n : Int} (h : -(2 ^ 62) ≤ n ∧ n < 2 ^ 62) (q : R (Itr 0 n.toNat) H) : kR1 R [.int n] H := ⟨n, rfl, h.1, h.2, q⟩
def kR2 (R : It → Hp → Prop) : List V → Hp → Prop := fun vs H1 => ∃ i j : Int, vs = [.int i, .int j] ∧ (-(2 ^ 62) ≤ i ∧ i < 2 ^ 62 ∧ -(2 ^ 62) ≤ j ∧ j < 2 ^ 62) ∧ R (Itr i (j - i).toNat) H1
theorem v_rng2 (q : ta σ H (kR2 R)) : iRng2 ta σ H R := q
theorem v_kR2 {a b : Int} (h : -(2 ^ 62) ≤ a ∧ a < 2 ^ 62 ∧ -(2 ^ 62) ≤ b ∧ b < 2 ^ 62) (q : R (Itr a (b - a).toNat) H) : kR2 R [.int a, .int b] H := ⟨a, b, rfl, h, q⟩
def kL (K : PySem.W.Frag) (R : It → Hp → Prop) : VK := fun x H1 => ∃ a, x = .ref a ∧ (∃ xs, SqL K H1 a xs) ∧ R (Itl K a) H1
theorem v_iL (q : tl σ H (kL K R)) : iList K tl σ H R := q
theorem v_kL {a : Addr} {xs : List V} (h : SqL K H a xs) (q : R (Itl K a) H) : kL K R (.ref a) H := ⟨a, rfl, ⟨xs, h⟩, q⟩
def kT (K : PySem.W.Frag) (R : It → Hp → Prop) : VK := fun x H1 => ∃ a, x = .ref a ∧ (∃ xs, SqT K H1 a xs) ∧ R (Itt K a) H1
theorem v_iT (q : tl σ H (kT K R)) : iTup K tl σ H R := q
theorem v_kT {a : Addr} {xs : List V} (h : SqT K H a xs) (q : R (Itt K a) H) : kT K R (.ref a) H := ⟨a, rfl, ⟨xs, h⟩, q⟩
def kS (R : It → Hp → Prop) : VK := fun v H1 => ∃ x, v = .str x ∧ R (Its x) H1
theorem v_iS (q : tl σ H (kS R)) : iStr tl σ H R := q
theorem v_kS {z : Str} (q : R (Its z) H) : kS R (.str z) H := ⟨z, rfl, q⟩
def kES (R : It → Hp → Prop) : List V → Hp → Prop := fun vs H1 => ∃ x, vs = [.str x] ∧ R (ItS x) H1
theorem v_iES (q : ta σ H (kES R)) : iEnumS ta σ H R := q
theorem v_kES {z : Str} (q : R (ItS z) H) : kES R [.str z] H := ⟨z, rfl, q⟩
def kE (K : PySem.W.Frag) (R : It → Hp → Prop) : List V → Hp → Prop := fun vs H1 => ∃ a xs, vs = [.ref a] ∧ SqL K H1 a xs ∧ R (Ite K a) H1
theorem v_iE (q : ta σ H (kE K R)) : iEnum K ta σ H R := q
theorem v_kE {a : Addr} {xs : List V} (h : SqL K H a xs) (q : R (Ite K a) H) : kE K R [.ref a] H := ⟨a, xs, rfl, h, q⟩
theorem f_range {lo : Int} {n : Nat} (Pv : Nat → L2.St → Hp → Prop) (h0 : Pv 0 σ H)
    (hs : ∀ i σ H, i < n → Pv i σ H → g (.int (lo + i)) σ H fun σ2 H2 => tu { D with nx := Pv (i + 1), ct := Pv (i + 1), bk := D.nx } σ2 H2) (hd : ∀ σ H, Pv n σ H → D.nx σ H) : kFor g tu D σ (Itr lo n) H := for_range Pv h0 hs hd
theorem f_list {a : Addr} {xs : List V} (Pv : Nat → L2.St → Hp → Prop) (h0 : Pv 0 σ H) (hl : ∀ i σ H, i ≤ xs.length → Pv i σ H → SqL K H a xs)
    (hs : ∀ i x σ H, xs[i]? = some x → Pv i σ H → g x σ H fun σ2 H2 => tu { D with nx := Pv (i + 1), ct := Pv (i + 1), bk := D.nx } σ2 H2) (hd : ∀ σ H, Pv xs.length σ H → D.nx σ H) : kFor g tu D σ (Itl K a) H := for_list Pv h0 hl hs hd
theorem f_tup {a : Addr} {xs : List V} (Pv : Nat → L2.St → Hp → Prop) (h0 : Pv 0 σ H) (hl : ∀ i σ H, i ≤ xs.length → Pv i σ H → SqT K H a xs)
    (hs : ∀ i x σ H, xs[i]? = some x → Pv i σ H → g x σ H fun σ2 H2 => tu { D with nx := Pv (i + 1), ct := Pv (i + 1), bk := D.nx } σ2 H2) (hd : ∀ σ H, Pv xs.length σ H → D.nx σ H) : kFor g tu D σ (Itt K a) H := for_tup Pv h0 hl hs hd
theorem S_get (l : List Nat) (i : Nat) : (S l).cps[i]? = l[i]? := by
  show l.toArray[i]? = l[i]?
  simp
theorem S_size (l : List Nat) : (S l).cps.size = l.length := by
  show l.toArray.size = _
  simp
theorem f_str {l : List Nat} (Pv : Nat → L2.St → Hp → Prop) (h0 : Pv 0 σ H)
    (hs : ∀ i c σ H, l[i]? = some c → Pv i σ H → g (.str (S [c])) σ H fun σ2 H2 => tu { D with nx := Pv (i + 1), ct := Pv (i + 1), bk := D.nx } σ2 H2) (hd : ∀ σ H, Pv l.length σ H → D.nx σ H) : kFor g tu D σ (Its (S l)) H := by
  refine ⟨fun i m σ H => m = l.length - i ∧ i ≤ l.length ∧ Pv i σ H, ⟨l.length, by simp, Nat.zero_le _, h0⟩, ?_⟩
  rintro i m σ H ⟨rfl, hi, p⟩
  by_cases hlt : i < l.length
  · refine .inr ⟨show i < (S l).cps.size by rw [S_size]; exact hlt, Pv (i + 1), fun σ' H' p' => ⟨l.length - (i + 1), by omega, rfl, hlt, p'⟩, fun x H' y => ?_⟩
    obtain ⟨e, cc, h1, h2⟩ := y
    subst e
    subst h2
    rw [S_get] at h1
    exact hs i cc σ _ h1 p
  · have e : i = l.length := by omega
    subst e
    exact .inl ⟨show (S l).cps.size ≤ l.length by rw [S_size]; exact Nat.le_refl _, hd σ H p⟩
/-- for a, b in enumerate(text) -/
theorem f_enumS {l : List Nat} {gs : TGs} (Pv : Nat → L2.St → Hp → Prop) (h0 : Pv 0 σ H)
    (hs : ∀ i c T σ H, l[i]? = some c → Pv i σ H → H T = none → gs [.int (i : Int), .str (S [c])] σ (upd H T (.tup [.int (i : Int), .str (S [c])])) fun σ2 H2 => tu { D with nx := Pv (i + 1), ct := Pv (i + 1), bk := D.nx } σ2 H2)
    (hd : ∀ σ H, Pv l.length σ H → D.nx σ H) : kFor (gTup K 2 gs) tu D σ (ItS (S l)) H := by
  refine ⟨fun i m σ H => m = l.length - i ∧ i ≤ l.length ∧ Pv i σ H, ⟨l.length, by simp, Nat.zero_le _, h0⟩, ?_⟩
  rintro i m σ H ⟨rfl, hi, p⟩
  by_cases hlt : i < l.length
  · refine .inr ⟨show i < (S l).cps.size by rw [S_size]; exact hlt, Pv (i + 1), fun σ' H' p' => ⟨l.length - (i + 1), by omega, rfl, hlt, p'⟩, fun x H' y => ?_⟩
    obtain ⟨T, cc, e, hT, h1, h2⟩ := y
    subst e
    subst h2
    rw [S_get] at h1
    exact ⟨T, _, rfl, SqT.of upd_same, rfl, hs i cc T σ H h1 p hT⟩
  · have e : i = l.length := by omega
    subst e
    exact .inl ⟨show (S l).cps.size ≤ l.length by rw [S_size]; exact Nat.le_refl _, hd σ H p⟩
/-- for a, b in enumerate(a list) -/
theorem f_enum {a : Addr} {xs : List V} {gs : TGs} (Pv : Nat → L2.St → Hp → Prop) (h0 : Pv 0 σ H) (hl : ∀ i σ H, i ≤ xs.length → Pv i σ H → SqL K H a xs)
    (hs : ∀ i x T σ H, xs[i]? = some x → Pv i σ H → H T = none → gs [.int (i : Int), x] σ (upd H T (.tup [.int (i : Int), x])) fun σ2 H2 => tu { D with nx := Pv (i + 1), ct := Pv (i + 1), bk := D.nx } σ2 H2)
    (hd : ∀ σ H, Pv xs.length σ H → D.nx σ H) : kFor (gTup K 2 gs) tu D σ (Ite K a) H := by
  refine ⟨fun i m σ H => m = xs.length - i ∧ i ≤ xs.length ∧ Pv i σ H, ⟨xs.length, by simp, Nat.zero_le _, h0⟩, ?_⟩
  rintro i m σ H ⟨rfl, hi, p⟩
  have q := hl i σ H hi p
  by_cases hlt : i < xs.length
  · refine .inr ⟨⟨xs, xs[i], q, by simp [hlt]⟩, Pv (i + 1), fun σ' H' p' => ⟨xs.length - (i + 1), by omega, rfl, hlt, p'⟩, fun x H' y => ?_⟩
    obtain ⟨T, x, e, hT, h2, h1⟩ := y
    subst e
    subst h2
    exact ⟨T, _, rfl, SqT.of upd_same, rfl, hs i x T σ H (h1 xs q) p hT⟩
  · have e : i = xs.length := by omega
    subst e
    exact .inl ⟨⟨xs, q, Nat.le_refl _⟩, hd σ H p⟩
/-! comprehensions -/
def kLc (g : TG) (tt : TT) (te : TE) (vs : List Nat) (σ : L2.St) (Q : VK) : It → Hp → Prop := fun J H1 => ∀ D, H1 D = none → ∃ W : Nat → Nat → Hp → Prop, (∃ m, W 0 m (upd H1 D (.lst []))) ∧ ∀ i m H, W i m H →
  (J.stop i H ∧ Q (.ref D) H) ∨ (J.go i H ∧ ∃ Nx : Hp → Prop, (∀ H', Nx H' → ∃ m', m' < m ∧ W (i + 1) m' H') ∧ ∀ x H', J.yld i H x H' → g x (wipe σ vs) H' fun σ2 H2 => wipe σ2 vs = wipe σ vs ∧ tt σ2 H2 fun b H3 =>
    if b = true then te σ2 H3 fun y H4 => ∃ acc, H4 D = some (.lst acc) ∧ acc.length < sizeLine ∧ Nx (upd H4 D (.lst (acc ++ [y]))) else Nx H3)
theorem v_lc {wi : TI} {vs : List Nat} (q : wi σ H (kLc g tt te vs σ Q)) : tLc wi g tt te vs σ H Q := q
theorem wipe_set {σ : L2.St} {j : Nat} {x : Option V} : wipe ((wipe σ [j]).set j x) [j] = wipe σ [j] := by
  show (((σ.set j none).set j x).set j none) = σ.set j none
  rw [List.set_set, List.set_set]
/-- over a range, each turn leaving the heap as it was -/
theorem lc_R {lo : Int} {n j : Nat} (p : Nat → Bool) (f : Nat → V) (hn : n ≤ sizeLine)
    (ht : ∀ i H', i < n → Same H H' → ∀ Qb : Bool → Hp → Prop, Qb (p i) H' → tt ((σ.set j none).set j (some (.int (lo + (i : Int))))) H' Qb)
    (he : ∀ i H', i < n → p i = true → Same H H' → ∀ Qv : VK, Qv (f i) H' → te ((σ.set j none).set j (some (.int (lo + (i : Int))))) H' Qv)
    (hd : ∀ L, H L = none → Q (.ref L) (upd H L (.lst (((List.range n).filter p).map f)))) : kLc (gName j) tt te [j] σ Q (Itr lo n) H := by
  intro L hL
  refine lc_range (fun i H' => H' = upd H L (.lst (((List.range i).filter p).map f))) rfl ?_ (fun H' e => by subst e; exact hd L hL)
  rintro i H' hi rfl
  have sm : Same H (upd H L (.lst (((List.range i).filter p).map f))) := same_upd hL
  refine ⟨wipe_set, ht i _ hi sm _ ?_⟩
  have hlen : (((List.range i).filter p).map f).length < sizeLine := by
    rw [List.length_map]
    refine Nat.lt_of_le_of_lt (List.length_filter_le _ _) ?_
    rw [List.length_range]
    omega
  cases hp : p i with
  | true =>
    rw [if_pos rfl]
    refine he i _ hi hp sm _ ⟨_, upd_same, hlen, ?_⟩
    rw [upd_upd, List.range_succ, List.filter_append, List.map_append]
    have : List.filter p [i] = [i] := by simp [hp]
    rw [this]
    rfl
  | false =>
    rw [if_neg Bool.false_ne_true]
    show _ = _
    rw [List.range_succ, List.filter_append, List.map_append]
    have : List.filter p [i] = [] := by simp [hp]
    rw [this]
    simp
/-- over a list -/
theorem lc_L {a : Addr} {xs : List V} {j : Nat} (p : V → Bool) (f : V → V) (hx : SqL K H a xs) (hn : xs.length ≤ sizeLine)
    (ht : ∀ x H', x ∈ xs → Same H H' → ∀ Qb : Bool → Hp → Prop, Qb (p x) H' → tt ((σ.set j none).set j (some x)) H' Qb)
    (he : ∀ x H', x ∈ xs → p x = true → Same H H' → ∀ Qv : VK, Qv (f x) H' → te ((σ.set j none).set j (some x)) H' Qv)
    (hd : ∀ L, H L = none → Q (.ref L) (upd H L (.lst ((xs.filter p).map f)))) : kLc (gName j) tt te [j] σ Q (Itl K a) H := by
  intro L hL
  refine lc_list (xs := xs) (fun i H' => H' = upd H L (.lst (((xs.take i).filter p).map f))) rfl (fun i H' _ e => ?_) ?_ (fun H' e => by subst e; rw [List.take_of_length_le (Nat.le_refl _)]; exact hd L hL)
  · subst e
    exact (same_upd hL).seq hx
  rintro i x H' hi rfl
  have sm : Same H (upd H L (.lst (((xs.take i).filter p).map f))) := same_upd hL
  have hm : x ∈ xs := List.mem_of_getElem? hi
  have hlt : i < xs.length := (List.getElem?_eq_some_iff.mp hi).1
  refine ⟨wipe_set, ht x _ hm sm _ ?_⟩
  have hlen : (((xs.take i).filter p).map f).length < sizeLine := by
    rw [List.length_map]
    refine Nat.lt_of_le_of_lt (List.length_filter_le _ _) ?_
    rw [List.length_take]
    omega
  have et : xs.take (i + 1) = xs.take i ++ [x] := by rw [List.take_add_one, hi]; rfl
  cases hp : p x with
  | true =>
    rw [if_pos rfl]
    refine he x _ hm hp sm _ ⟨_, upd_same, hlen, ?_⟩
    rw [upd_upd, et, List.filter_append, List.map_append]
    have : List.filter p [x] = [x] := by simp [hp]
    rw [this]
    rfl
  | false =>
    rw [if_neg Bool.false_ne_true]
    show _ = _
    rw [et, List.filter_append, List.map_append]
    have : List.filter p [x] = [] := by simp [hp]
    rw [this]
    simp
theorem v_yes {Qb : Bool → Hp → Prop} (q : Qb true H) : tYes σ H Qb := q
end
section
variable {σ : L2.St} {H : Hp} {c u : TT} {te ta tb : TE} {r : R2}
/-- a test's reading grows with what is wished -/
def Mo (c : TT) : Prop := ∀ σ H Q Q', (∀ b H1, Q b H1 → Q' b H1) → c σ H Q → c σ H Q'
def MoE (t : TE) : Prop := ∀ σ H Q Q', (∀ b H1, Q b H1 → Q' b H1) → t σ H Q → t σ H Q'
def MoR (r : R2) : Prop := ∀ x y H Q Q', (∀ b H1, Q b H1 → Q' b H1) → r x y H Q → r x y H Q'
def MoA (t : TA) : Prop := ∀ σ H Q Q', (∀ b H1, Q b H1 → Q' b H1) → t σ H Q → t σ H Q'
def MoC (r : List V → Hp → VK → Prop) : Prop := ∀ vs H Q Q', (∀ b H1, Q b H1 → Q' b H1) → r vs H Q → r vs H Q'
theorem mo_var {i : Nat} : MoE (tVar i) := fun σ H Q Q' m ⟨v, h, q⟩ => ⟨v, h, m _ _ q⟩
theorem mo_c {v : V} : MoE (tC v) := fun σ H Q Q' m q => m _ _ q
theorem mo_op (ha : MoE ta) (hb : MoE tb) (hr : MoR r) : MoE (tOp r ta tb) := fun σ H Q Q' m q => ha _ _ _ _ (fun x H1 q => hb _ _ _ _ (fun y H2 q => hr _ _ _ _ _ m q) q) q
theorem mo_test (h : MoE te) : Mo (tTest te) := fun σ H Q Q' m q => h _ _ _ _ (fun x H1 ⟨k, e, q⟩ => ⟨k, e, m _ _ q⟩) q
theorem mo_B (h : MoE te) : Mo (tB te) := fun σ H Q Q' m q => h _ _ _ _ (fun x H1 ⟨k, e, q⟩ => ⟨k, e, m _ _ q⟩) q
theorem mo_and (h : Mo c) (h2 : Mo u) : Mo (tAnd c u) := fun σ H Q Q' m q => h _ _ _ _ (fun b H1 q => by
  cases b with
  | true => rw [if_pos rfl] at q ⊢; exact h2 _ _ _ _ m q
  | false => rw [if_neg Bool.false_ne_true] at q ⊢; exact m _ _ q) q
theorem mo_or (h : Mo c) (h2 : Mo u) : Mo (tOr c u) := fun σ H Q Q' m q => h _ _ _ _ (fun b H1 q => by
  cases b with
  | true => rw [if_pos rfl] at q ⊢; exact m _ _ q
  | false => rw [if_neg Bool.false_ne_true] at q ⊢; exact h2 _ _ _ _ m q) q
theorem mo_not (h : Mo c) : Mo (tNot c) := fun σ H Q Q' m q => h _ _ _ _ (fun b H1 q => m _ _ q) q
theorem mo_I0 {g : Int → Int → V} : MoR (rI0 g) := fun x y H Q Q' m ⟨i, j, a, b, q⟩ => ⟨i, j, a, b, m _ _ q⟩
theorem mo_I {C : Int → Int → Prop} {g : Int → Int → V} : MoR (rI C g) := fun x y H Q Q' m ⟨i, j, a, b, c, q⟩ => ⟨i, j, a, b, c, m _ _ q⟩
theorem mo_eq : MoR rEq := fun x y H Q Q' m ⟨a, q⟩ => ⟨a, m _ _ q⟩
theorem mo_ne : MoR rNe := fun x y H Q Q' m ⟨a, q⟩ => ⟨a, m _ _ q⟩
theorem mo_ixS : MoR rIxS := fun x y H Q Q' m ⟨a, b, c, d, e, f, g, q⟩ => ⟨a, b, c, d, e, f, g, m _ _ q⟩
theorem mo_ixL {K : PySem.W.Frag} : MoR (rIxL K) := fun x y H Q Q' m ⟨a, b, c, d, e, f, g, h, q⟩ => ⟨a, b, c, d, e, f, g, h, m _ _ q⟩
theorem mo_ixT {K : PySem.W.Frag} : MoR (rIxT K) := fun x y H Q Q' m ⟨a, b, c, d, e, f, g, h, q⟩ => ⟨a, b, c, d, e, f, g, h, m _ _ q⟩
theorem mo_cb {r : List V → Hp → VK → Prop} {t : TA} (ha : MoA t) (hr : MoC r) : MoE (tCB r t) := fun σ H Q Q' m q => ha _ _ _ _ (fun x H1 q => hr _ _ _ _ m q) q
theorem mo_nil : MoA tNil := fun σ H Q Q' m q => m _ _ q
theorem mo_cons {tr : TA} (ha : MoE ta) (hr : MoA tr) : MoA (tCons ta tr) := fun σ H Q Q' m q => ha _ _ _ _ (fun x H1 q => hr _ _ _ _ (fun xs H2 q => m _ _ q) q) q
theorem mo_lenS : MoC rLenX := fun x H Q Q' m ⟨a, b, c, q⟩ => ⟨a, b, c, m _ _ q⟩
theorem mo_lenQ {K : PySem.W.Frag} : MoC (rLenQ K) := fun x H Q Q' m ⟨a, b, c, d, q⟩ => ⟨a, b, c, d, m _ _ q⟩
end
section
variable {σ : L2.St} {H : Hp} {D : Ends} {tu : TS} {c : TT}
theorem v_while (Pv : Nat → L2.St → Hp → Prop) (m0 : Nat) (h0 : Pv m0 σ H)
    (hs : ∀ m σ H, Pv m σ H → c σ H fun b H1 => kIf b (tu { D with nx := fun σ' H' => ∃ m', m' < m ∧ Pv m' σ' H', ct := fun σ' H' => ∃ m', m' < m ∧ Pv m' σ' H', bk := D.nx } σ H1) (D.nx σ H1))
    (mono : Mo c) : tWhile c tu D σ H := by
  refine ⟨Pv, ⟨m0, h0⟩, fun m σ H p => mono σ H _ _ (fun b H1 q => ?_) (hs m σ H p)⟩
  cases b with
  | true => exact ⟨_, fun σ' H' z => z, q⟩
  | false => exact q
end
end Sh

namespace Sh
open PySem PySem.Spec PyProof.Rows L2
section
variable {K : PySem.W.Frag} {σ : L2.St} {H : Hp} {Q : VK} {v : V}
theorem v_ixLi {p : Addr} {xs : List V} {i : Int} (hs : H p = some (.lst xs)) (h0 : 0 ≤ i) (h : xs[i.toNat]? = some v) (q : Q v H) : rIxL K (.ref p) (.int i) H Q :=
  v_ixL (SqL.of hs) h (Int.toNat_of_nonneg h0).symm q
theorem v_ixTi {p : Addr} {xs : List V} {i : Int} (hs : H p = some (.tup xs)) (h0 : 0 ≤ i) (h : xs[i.toNat]? = some v) (q : Q v H) : rIxT K (.ref p) (.int i) H Q :=
  v_ixT (SqT.of hs) h (Int.toNat_of_nonneg h0).symm q
theorem v_setLi {p : Addr} {xs : List V} {i : Int} {Q : Hp → Prop} (hs : H p = some (.lst xs)) (h0 : 0 ≤ i) (h : i.toNat < xs.length) (q : Q (upd H p (.lst (xs.set i.toNat v)))) : rSetL (.ref p) (.int i) v H Q :=
  v_setL hs h (Int.toNat_of_nonneg h0).symm q
end
section
variable {σ : L2.St} {H : Hp} {t u : TT} {p q : Bool} {A B : Hp → Prop}
theorem p_and (h1 : ∀ Qb : Bool → Hp → Prop, Qb p H → t σ H Qb) (h2 : p = true → ∀ Qb : Bool → Hp → Prop, Qb q H → u σ H Qb) : ∀ Qb : Bool → Hp → Prop, Qb (p && q) H → tAnd t u σ H Qb := fun Qb k => h1 _ (by
  cases p with
  | true => rw [if_pos rfl]; exact h2 rfl _ k
  | false => rw [if_neg Bool.false_ne_true]; exact k)
theorem p_or (h1 : ∀ Qb : Bool → Hp → Prop, Qb p H → t σ H Qb) (h2 : p = false → ∀ Qb : Bool → Hp → Prop, Qb q H → u σ H Qb) : ∀ Qb : Bool → Hp → Prop, Qb (p || q) H → tOr t u σ H Qb := fun Qb k => h1 _ (by
  cases p with
  | true => rw [if_pos rfl]; exact k
  | false => rw [if_neg Bool.false_ne_true]; exact h2 rfl _ k)
theorem k_and (h1 : ∀ Qb : Bool → Hp → Prop, Qb p H → t σ H Qb) (h2 : p = true → ∀ Qb : Bool → Hp → Prop, Qb q H → u σ H Qb) (hA : p = true → q = true → A H) (hB : ¬ (p = true ∧ q = true) → B H) :
    tAnd t u σ H (fun b H1 => kIf b (A H1) (B H1)) := p_and h1 h2 _ (by
  refine k_if (fun e => ?_) (fun e => hB (fun ⟨a, b⟩ => by rw [a, b] at e; exact absurd e (by decide)))
  cases p <;> cases q <;> first | exact hA rfl rfl | exact absurd e (by decide))
theorem k_or (h1 : ∀ Qb : Bool → Hp → Prop, Qb p H → t σ H Qb) (h2 : p = false → ∀ Qb : Bool → Hp → Prop, Qb q H → u σ H Qb) (hA : p = true ∨ q = true → A H) (hB : p = false → q = false → B H) :
    tOr t u σ H (fun b H1 => kIf b (A H1) (B H1)) := p_or h1 h2 _ (by
  refine k_if (fun e => hA ?_) (fun e => ?_)
  · cases p <;> cases q <;> first | exact .inl rfl | exact .inr rfl | exact absurd e (by decide)
  · cases p <;> cases q <;> first | exact hB rfl rfl | exact absurd e (by decide))
end
theorem mapI {ns : List Int} {k : Nat} (h : k < ns.length) : (ns.map V.int)[k]? = some (.int ns[k]) := by
  rw [List.getElem?_map, List.getElem?_eq_getElem h]
  rfl
section
variable {K : PySem.W.Frag} {H : Hp} {Q : VK} {x : V}
theorem v_isi {T n : String} {b : Bool} (ht : TyX K H x (.type T)) (hk : kitB T n = some b) (q : Q (.bl b) H) : rIsi K [x, .ty n] H Q := ⟨x, .ty n, _, _, b, rfl, .ty n, ht, kit_ty hk, q⟩
end
section
variable {σ : L2.St} {H : Hp} {v : V} {r : List V} {g : TG} {gs : TGs} {Q : L2.St → Hp → Prop}
theorem v_gCons (q : g v σ H fun σ' H' => gs r σ' H' Q) : gCons g gs (v :: r) σ H Q := ⟨v, r, rfl, q⟩
theorem v_gNil (q : Q σ H) : gNil [] σ H Q := ⟨rfl, q⟩
end
theorem ones_flat (t : List Nat) : (t.map fun c => [c]).flatten = t := by
  induction t with
  | nil => rfl
  | cons x r ih => simp [ih]
theorem ones_sum (t : List Nat) : ((t.map fun c => [c]).map (·.length)).sum = t.length := by
  induction t with
  | nil => rfl
  | cons x r ih =>
    simp only [List.map_cons, List.sum_cons, List.length_cons, List.length_nil] at ih ⊢
    omega
theorem sz_of {n : Nat} (h : n ≤ 16777216) : n ≤ sizeLine := by rw [sizeLine_eq]; exact h
theorem sz_lt {n : Nat} (h : n < 16777216) : n < sizeLine := by rw [sizeLine_eq]; exact h
/-! ### what draws from the script -/
/-- all but a is as it was -/
def But (a : Addr) (H H' : Hp) : Prop := ∀ b o, b ≠ a → H b = some o → H' b = some o
theorem But.refl (a : Addr) (H : Hp) : But a H H := fun _ _ _ h => h
theorem But.trans {a : Addr} {H H1 H2 : Hp} (x : But a H H1) (y : But a H1 H2) : But a H H2 := fun b o n h => y b o n (x b o n h)
theorem But.upd {a : Addr} {H : Hp} {o : HO} : But a H (upd H a o) := fun b u n h => by rw [upd_ne n]; exact h
theorem But.new {a p : Addr} {H : Hp} {o : HO} (h : H p = none) : But a H (L2.upd H p o) := fun b u _ e => by rw [upd_ne (ne_of_none e h)]; exact e
theorem But.mut {a p : Addr} {H0 H : Hp} {o : HO} (s : But a H0 H) (h : H0 p = none) : But a H0 (L2.upd H p o) := fun b u n e => by rw [upd_ne (ne_of_none e h)]; exact s b u n e
theorem But.of_same {a : Addr} {H H1 : Hp} (s : Same H H1) : But a H H1 := fun b o _ h => s b o h
theorem But.same {a : Addr} {H0 H H1 : Hp} (x : But a H H1) (s : Same H0 H) (h : H0 a = none) : Same H0 H1 := fun b o e => x b o (ne_of_none e h) (s b o e)
theorem But.free {a b : Addr} {H H1 : Hp} (x : But a H H1) (h : H1 b = none) (hn : b ≠ a) : H b = none := by
  cases q : H b with
  | none => rfl
  | some o => rw [x b o hn q] at h; cases h
/-- the state of the draws at a, over the copy of the script at l -/
def Dr (H : Hp) (a l : Addr) : Prop := ∃ (ns : List Int) (p r s : Int), H a = some (.lst [.ref l, .int p, .int r, .int s]) ∧ H l = some (.lst (ns.map V.int)) ∧ 0 ≤ p ∧ 0 ≤ r
theorem Dr.ne {H : Hp} {a l b : Addr} (d : Dr H a l) (h : H b = none) : b ≠ a ∧ b ≠ l := by
  obtain ⟨ns, p, r, s, h1, h2, _⟩ := d
  exact ⟨(fun e => by rw [e, h1] at h; cases h), (fun e => by rw [e, h2] at h; cases h)⟩
theorem Dr.same {H H1 : Hp} {a l : Addr} (d : Dr H a l) (s : Same H H1) : Dr H1 a l := by
  obtain ⟨ns, p, r, z, h1, h2, h3⟩ := d
  exact ⟨ns, p, r, z, s _ _ h1, s _ _ h2, h3⟩
theorem Dr.upd {H : Hp} {a l b : Addr} {o : HO} (d : Dr H a l) (h1 : b ≠ a) (h2 : b ≠ l) : Dr (L2.upd H b o) a l := by
  obtain ⟨ns, p, r, z, e1, e2, e3⟩ := d
  exact ⟨ns, p, r, z, by rw [upd_ne h1.symm]; exact e1, by rw [upd_ne h2.symm]; exact e2, e3⟩
def spBegin (K : PySem.W.Frag) : Sp := fun vs H Q _ => ∃ (a : Addr) (ns : List Int), vs = [.ref a] ∧ SqL K H a (ns.map V.int) ∧ ns.length ≤ 63 ∧ ∀ p l H', H p = none → H l = none → Same H H' → Dr H' p l → Q (.ref p) H'
def spTake : Sp := fun vs H Q _ => ∃ (a l : Addr) (m : Int), vs = [.ref a, .int m] ∧ Dr H a l ∧ 0 < m ∧ m < 1073741824 ∧ ∀ n H', 0 ≤ n → n < m → But a H H' → Dr H' a l → Q (.int n) H'
def spInt (K : PySem.W.Frag) : Sp := fun vs H Q _ => ∃ i : Int, vs = [.int i] ∧ Q (.bl true) H
def spLetters : Sp := fun vs H Q _ => vs = [] ∧ ∀ l : List Nat, l.length = 89 → (∀ c ∈ l, 33 ≤ c ∧ c ≤ 126 ∧ c ≠ 37) → Q (.str (S l)) H
/-- letters -/
def Lt (l : List Nat) : Prop := ∀ c ∈ l, 33 ≤ c ∧ c ≤ 126 ∧ c ≠ 37
def spSigns : Sp := fun vs H Q _ => ∃ (a l : Addr), vs = [.ref a] ∧ Dr H a l ∧ ∀ z H', z ≠ [] → z.length ≤ 6 → Lt z → But a H H' → Dr H' a l → Q (.str (S z)) H'
def spText : Sp := fun vs H Q _ => ∃ (a l : Addr) (z : List Nat) (n : Int), vs = [.ref a, .str (S z), .int n] ∧ Dr H a l ∧ z ≠ [] ∧ z.length ≤ 1000 ∧ -1000 ≤ n ∧ n ≤ 100000 ∧
  ∀ t H', t.length = n.toNat → (∀ c ∈ t, c ∈ z) → But a H H' → Dr H' a l → Q (.str (S t)) H'
def spRich : Sp := fun vs H Q _ => ∃ (a l : Addr) (z : List Nat) (n : Int), vs = [.ref a, .str (S z), .int n] ∧ Dr H a l ∧ z ≠ [] ∧ z.length ≤ 1000 ∧ 0 ≤ n ∧ n ≤ 100000 ∧
  ∀ t H', t.length = n.toNat → (∀ c ∈ t, c ∈ z) → But a H H' → Dr H' a l → Q (.str (S t)) H'
theorem line24 : (sizeLine : Nat) = 16777216 := sizeLine_eq
theorem setR {H : Hp} {a l : Addr} {ns : List Int} {p r s : Int} (h1 : H a = some (.lst [.ref l, .int p, .int r, .int s])) (h2 : H l = some (.lst (ns.map V.int))) : l ≠ a := by
  intro e
  subst e
  rw [h1] at h2
  have h3 := HO.lst.inj (Option.some.inj h2)
  cases ns with
  | nil => simp at h3
  | cons x r => simp at h3
end Sh

namespace Sh
open PySem PySem.Spec PyProof.Rows L2
/-! ### sequences compared -/
def iD (ns : List Int) : List PyData := ns.map PyData.int
theorem dp_ints {K : PySem.W.Frag} {H : Hp} : ∀ ns : List Int, DpAll K H (ns.map V.int) (iD ns)
  | [] => .nil
  | n :: ns => .cons (.int n) (dp_ints ns)
theorem lay_ints : ∀ ns : List Int, PyData.canLayAll0 (iD ns) = true
  | [] => rfl
  | n :: ns => by
    show (PyData.canLay0 (.int n) && PyData.canLayAll0 (iD ns)) = true
    rw [lay_ints ns]; rfl
theorem dep_ints : ∀ ns : List Int, PyData.depthAll (iD ns) = 0
  | [] => rfl
  | n :: ns => by
    show max (PyData.depth (.int n)) (PyData.depthAll (iD ns)) = 0
    rw [dep_ints ns]; rfl
theorem eqv_ints : ∀ ns ms : List Int, PyData.eqvAll (iD ns) (iD ms) = decide (ns = ms)
  | [], [] => rfl
  | [], _ :: _ => by simp [iD, PyData.eqvAll]
  | _ :: _, [] => by simp [iD, PyData.eqvAll]
  | n :: ns, m :: ms => by
    show (PyData.eqv (.int n) (.int m) && PyData.eqvAll (iD ns) (iD ms)) = _
    rw [eqv_ints ns ms]
    show ((n == m) && decide (ns = ms)) = decide (n :: ns = m :: ms)
    by_cases h1 : n = m <;> by_cases h2 : ns = ms <;> simp [h1, h2]
theorem shT (ns : List Int) : SeqAt.shaped (.tuple (iD ns)) = true := by
  unfold SeqAt.shaped
  rw [show PyData.canLay0 (.tuple (iD ns)) = PyData.canLayAll0 (iD ns) by simp [PyData.canLay0], lay_ints, show PyData.depth (.tuple (iD ns)) = PyData.depthAll (iD ns) + 1 by simp [PyData.depth], dep_ints]
  rfl
theorem shL (ns : List Int) : SeqAt.shaped (.list (iD ns)) = true := by
  unfold SeqAt.shaped
  rw [show PyData.canLay0 (.list (iD ns)) = PyData.canLayAll0 (iD ns) by simp [PyData.canLay0], lay_ints, show PyData.depth (.list (iD ns)) = PyData.depthAll (iD ns) + 1 by simp [PyData.depth], dep_ints]
  rfl
section
variable {K : PySem.W.Frag} {H : Hp} {Q : VK} {a b : Addr} {ns ms : List Int}
theorem v_eqT (ha : SqT K H a (ns.map V.int)) (hb : SqT K H b (ms.map V.int)) (q : Q (.bl (decide (ns = ms))) H) : rEqD K (.ref a) (.ref b) H Q :=
  ⟨.tuple (iD ns), .tuple (iD ms), .tup ha (dp_ints ns), .tup hb (dp_ints ms), shT ns, shT ms, by
    rw [show PyData.eqv (.tuple (iD ns)) (.tuple (iD ms)) = PyData.eqvAll (iD ns) (iD ms) by simp [PyData.eqv], eqv_ints]; exact q⟩
theorem v_neT (ha : SqT K H a (ns.map V.int)) (hb : SqT K H b (ms.map V.int)) (q : Q (.bl (!decide (ns = ms))) H) : rNeD K (.ref a) (.ref b) H Q :=
  ⟨.tuple (iD ns), .tuple (iD ms), .tup ha (dp_ints ns), .tup hb (dp_ints ms), shT ns, shT ms, by
    rw [show PyData.eqv (.tuple (iD ns)) (.tuple (iD ms)) = PyData.eqvAll (iD ns) (iD ms) by simp [PyData.eqv], eqv_ints]; exact q⟩
theorem v_eqL (ha : SqL K H a (ns.map V.int)) (hb : SqL K H b (ms.map V.int)) (q : Q (.bl (decide (ns = ms))) H) : rEqD K (.ref a) (.ref b) H Q :=
  ⟨.list (iD ns), .list (iD ms), .lst ha (dp_ints ns), .lst hb (dp_ints ms), shL ns, shL ms, by
    rw [show PyData.eqv (.list (iD ns)) (.list (iD ms)) = PyData.eqvAll (iD ns) (iD ms) by simp [PyData.eqv], eqv_ints]; exact q⟩
theorem v_neL (ha : SqL K H a (ns.map V.int)) (hb : SqL K H b (ms.map V.int)) (q : Q (.bl (!decide (ns = ms))) H) : rNeD K (.ref a) (.ref b) H Q :=
  ⟨.list (iD ns), .list (iD ms), .lst ha (dp_ints ns), .lst hb (dp_ints ms), shL ns, shL ms, by
    rw [show PyData.eqv (.list (iD ns)) (.list (iD ms)) = PyData.eqvAll (iD ns) (iD ms) by simp [PyData.eqv], eqv_ints]; exact q⟩
/-- an int in a sequence of ints -/
theorem inV_ints (x : Int) : ∀ ns : List Int, inV (.int x) (ns.map V.int) = decide (x ∈ ns)
  | [] => by simp [inV]
  | n :: ns => by
    have ih := inV_ints x ns
    unfold inV at ih ⊢
    rw [List.map_cons, List.any_cons, ih]
    show ((n == x) || decide (x ∈ ns)) = _
    by_cases h1 : n = x
    · subst h1; simp
    · have h3 : ¬ x = n := fun e => h1 e.symm
      by_cases h2 : x ∈ ns <;> simp [h1, h2, h3]
theorem flat_ints (ns : List Int) : (ns.map V.int).all flatV = true := by
  rw [List.all_eq_true]
  intro v hv
  obtain ⟨n, _, rfl⟩ := List.mem_map.mp hv
  rfl
theorem v_inT {x : Int} (ha : SqT K H a (ns.map V.int)) (q : Q (.bl (decide (x ∈ ns))) H) : rIn K false (.int x) (.ref a) H Q :=
  ⟨a, _, rfl, .inr ha, rfl, flat_ints ns, by rw [inV_ints]; exact q⟩
theorem v_inL {x : Int} (ha : SqL K H a (ns.map V.int)) (q : Q (.bl (decide (x ∈ ns))) H) : rIn K false (.int x) (.ref a) H Q :=
  ⟨a, _, rfl, .inl ha, rfl, flat_ints ns, by rw [inV_ints]; exact q⟩
end
/-- counts as values -/
def nV (n : Nat) : V := .int (n : Int)
def nI (bs : List Nat) : List Int := bs.map fun n : Nat => (n : Int)
theorem nV_map (bs : List Nat) : bs.map nV = (nI bs).map V.int := by
  unfold nI
  rw [List.map_map]
  rfl
theorem nI_inj {a b : List Nat} : nI a = nI b ↔ a = b := by
  constructor
  · intro h
    have := congrArg (List.map Int.toNat) h
    simpa [nI, List.map_map, Function.comp_def] using this
  · intro h; rw [h]
theorem nI_mem {a : List Nat} {x : Nat} : (x : Int) ∈ nI a ↔ x ∈ a := by
  unfold nI
  simp only [List.mem_map]
  constructor
  · rintro ⟨y, hy, e⟩
    have : y = x := by omega
    rw [← this]; exact hy
  · intro h; exact ⟨x, h, rfl⟩

/-! ### errors -/
/-- an own error class over ValueError -/
structure XC (K : PySem.W.Frag) (mg : Str → Option Value) (x : Str) (C : Addr) : Prop where
  g : mg x = some (.ref C)
  k : PySem.W.keepIn K (.ref C) = true
  e : PySem.W.excIn K C [.type "ValueError", .type "Exception", .type "BaseException", .type "object"] "ValueError.__new__" = true
  b : PySem.W.subIn K (.ref C) (.type "BaseException") = some true
  t : PySem.W.typeIn K (.ref C) = some (.type "type")
  i : PySem.W.isClsIn K C = true
theorem exm_mk {K : PySem.W.Frag} {S D : Addr} {r : Bool} (b1 : PySem.W.subIn K (.ref D) (.type "BaseException") = some true) (i1 : PySem.W.isClsIn K D = true) (t1 : PySem.W.typeIn K (.ref D) = some (.type "type")) (s : PySem.W.subIn K (.ref S) (.ref D) = some r) :
    PySem.W.exmOne K (.ref S) (.ref D) = some r := by
  have e1 : (PySem.W.subIn K (.ref D) (.type "BaseException") == some true) = true := by rw [b1]; rfl
  have e2 : ((PySem.W.clsIn K D).isSome && PySem.W.typeIn K (.ref D) == some (.type "type")) = true := by
    have h2' : (PySem.W.clsIn K D).isSome = true := i1
    rw [h2', t1]; rfl
  show (if (PySem.W.subIn K (.ref D) (.type "BaseException") == some true) = true then (if ((PySem.W.clsIn K D).isSome && PySem.W.typeIn K (.ref D) == some (.type "type")) = true then PySem.W.subIn K (.ref S) (.ref D) else none) else none) = some r
  rw [if_pos e1, if_pos e2]
  exact s
/-- a def that may raise, called by its name -/
structure C1X (P : Program) (w : World) (K : PySem.W.Frag) (mg : Str → Option Value) (base : Heap) (k : Nat) (x : Str) (sp : Sp) : Prop where
  ex : ∃ (f : Addr) (fd : FuncData) (ps : List Str), FnOk P w K mg base (L2.CX P w) k f fd ps sp ∧ mg x = some (.ref f) ∧ PySem.W.keepIn K (.ref f) = true ∧ Binds K fd ps []
section
variable {X : Cx} {k j : Nat} {x : Str} {sp : Sp} {p pos : Pos} {e : Expr} {es : List Expr} {t : TA}
/-- what it raises passes on to the caller's caller -/
theorem pe_cX {E : XK} {W : WX} (c : C1X X.prog X.w X.K X.mg X.base k x sp) (hr : Room j X.A) (hk : k ≤ j) (hg : Gl X x) (tk : Takes X W) (hW : ∀ cls d σ H, E cls d H → W cls d σ H) (ha : PA X (e :: es) t)
    (hdb : (x == ("__debug__" : Str)) = false := by decide) (he : starEach (e :: es) X.env = (false, eval e X.env) :: starEach es X.env := by rfl) (hpl : (backTo pos (starEach es X.env)).any (·.1) = false := by rfl) :
    PE X (.Call (.Name x p) (e :: es) [] pos) (tCall sp [] E t) := by
  obtain ⟨f, fd, ps, F, hm, kp, b⟩ := c.ex
  exact pe_call F (hr.mono hk) hg hm kp b .nil (passes_call tk hW) ha hdb he hpl
/-- it raises nothing here -/
theorem pe_cL (c : C1X X.prog X.w X.K X.mg X.base k x sp) (hr : Room j X.A) (hk : k ≤ j) (hg : Gl X x) (ha : PA X (e :: es) t)
    (hdb : (x == ("__debug__" : Str)) = false := by decide) (he : starEach (e :: es) X.env = (false, eval e X.env) :: starEach es X.env := by rfl) (hpl : (backTo pos (starEach es X.env)).any (·.1) = false := by rfl) :
    PE X (.Call (.Name x p) (e :: es) [] pos) (tCall sp [] E0 t) := by
  obtain ⟨f, fd, ps, F, hm, kp, b⟩ := c.ex
  exact pe_call F (hr.mono hk) hg hm kp b .nil passL ha hdb he hpl
/-- in a try -/
theorem pe_cS {E : L2.St → XK} (c : C1X X.prog X.w X.K X.mg X.base k x sp) (hr : Room j X.A) (hk : k ≤ j) (hg : Gl X x) (hx : ∀ σ, PassesAt (L2.CX X.prog X.w) X σ (E σ)) (ha : PA X (e :: es) t)
    (hdb : (x == ("__debug__" : Str)) = false := by decide) (he : starEach (e :: es) X.env = (false, eval e X.env) :: starEach es X.env := by rfl) (hpl : (backTo pos (starEach es X.env)).any (·.1) = false := by rfl) :
    PE X (.Call (.Name x p) (e :: es) [] pos) (tCallS sp E t) := by
  obtain ⟨f, fd, ps, F, hm, kp, b⟩ := c.ex
  exact pe_callS F (hr.mono hk) hg hm kp b hx ha hdb he hpl
end
section
variable {K : PySem.W.Frag} {σ : L2.St} {H : Hp} {Q : VK} {sp : Sp} {E : L2.St → XK} {t : TA} {D : Ends}
theorem v_callS (q : t σ H fun vs H1 => sp vs H1 Q (E σ)) : tCallS sp E t σ H Q := q
end
/-! ### affixes and words in texts -/
theorem subAt_S (a b : List Nat) (i : Nat) : Builtin.Str.subAt (S a) (S b) i = decide ((a.drop i).take b.length = b) := by
  rw [PySem.StrLaws.subAt_eq, S_list, S_list, S_len]
  by_cases h : (a.drop i).take b.length = b
  · rw [decide_eq_true h, h]; simp
  · rw [decide_eq_false h]; simpa using h
theorem ends_S (a b : List Nat) : Txt.endswith (S a) (S b) = decide (b.length ≤ a.length ∧ a.drop (a.length - b.length) = b) := by
  unfold Txt.endswith
  rw [subAt_S, S_len, S_len, Nat.zero_add]
  by_cases h : b.length ≤ a.length
  · have e : (a.drop (a.length - b.length)).take b.length = a.drop (a.length - b.length) := List.take_of_length_le (by rw [List.length_drop]; omega)
    rw [e, decide_eq_true h, Bool.true_and]
    by_cases h2 : a.drop (a.length - b.length) = b
    · rw [decide_eq_true h2, decide_eq_true ⟨h, h2⟩]
    · rw [decide_eq_false h2, decide_eq_false (fun x : b.length ≤ a.length ∧ _ => h2 x.2)]
  · rw [decide_eq_false h, decide_eq_false (fun x : b.length ≤ a.length ∧ _ => h x.1), Bool.false_and]
theorem starts_S (a b : List Nat) : Txt.startswith (S a) (S b) = decide (a.take b.length = b) := by
  unfold Txt.startswith
  rw [subAt_S, S_len, S_len, Nat.zero_add, List.drop_zero]
  by_cases h : a.take b.length = b
  · have : b.length ≤ a.length := by
      have := congrArg List.length h
      rw [List.length_take] at this
      omega
    rw [decide_eq_true this, Bool.true_and]
  · rw [decide_eq_false h, Bool.and_false]
def rEndsX : V → List V → Hp → VK → Prop := fun x xs H Q => ∃ a b, x = .str a ∧ xs = [.str b] ∧ Q (.bl (Txt.endswith a b)) H
theorem mt_endsX {X : Cx} : MtR X "str.endswith" rEndsX := mt_endswith
theorem v_ends {H : Hp} {Q : VK} {a b : List Nat} (q : Q (.bl (decide (b.length ≤ a.length ∧ a.drop (a.length - b.length) = b))) H) : rEndsX (.str (S a)) [.str (S b)] H Q := ⟨S a, S b, rfl, rfl, by rw [ends_S]; exact q⟩
def rStartsX : V → List V → Hp → VK → Prop := fun x xs H Q => ∃ a b, x = .str a ∧ xs = [.str b] ∧ Q (.bl (Txt.startswith a b)) H
theorem mt_startsX {X : Cx} : MtR X "str.startswith" rStartsX := mt_startswith
theorem v_starts {H : Hp} {Q : VK} {a b : List Nat} (q : Q (.bl (decide (a.take b.length = b))) H) : rStartsX (.str (S a)) [.str (S b)] H Q := ⟨S a, S b, rfl, rfl, by rw [starts_S]; exact q⟩
/-- the word stands in the text at p -/
def At (t w : List Nat) (p : Nat) : Prop := (t.drop p).take w.length = w
instance (t w : List Nat) (p : Nat) : Decidable (At t w p) := inferInstanceAs (Decidable (_ = _))
def Occ (t w : List Nat) : Prop := ∃ p, p + w.length ≤ t.length ∧ At t w p
def rInX (neg : Bool) : R2 := fun x y H Q => ∃ i j, x = .str i ∧ y = .str j ∧ Q (.bl (if neg then !(!(Builtin.Str.occurrences j i 0 j.length 1).isEmpty) else !(Builtin.Str.occurrences j i 0 j.length 1).isEmpty)) H
theorem op_inX {X : Cx} : OpR X (compareOp .In) (rInX false) := op_in_str
theorem op_ninX {X : Cx} : OpR X (compareOp .NotIn) (rInX true) := op_notIn_str
open Classical in
theorem occ_S (a b : List Nat) : (!(Builtin.Str.occurrences (S a) (S b) 0 (S a).length 1).isEmpty) = decide (Occ a b) := by
  by_cases h : Occ a b
  · rw [decide_eq_true h]
    obtain ⟨p, h1, h2⟩ := h
    exact (PySem.StrLaws.found_iff (S a) (S b)).mpr ⟨p, by rw [S_len, S_len]; exact h1, by rw [subAt_S]; exact decide_eq_true h2⟩
  · rw [decide_eq_false h]
    cases e : (!(Builtin.Str.occurrences (S a) (S b) 0 (S a).length 1).isEmpty) with
    | false => rfl
    | true =>
      obtain ⟨p, h1, h2⟩ := (PySem.StrLaws.found_iff (S a) (S b)).mp e
      rw [S_len, S_len] at h1
      rw [subAt_S] at h2
      exact absurd ⟨p, h1, of_decide_eq_true h2⟩ h
open Classical in
theorem v_inS {H : Hp} {Q : VK} {a b : List Nat} (q : Q (.bl (decide (Occ a b))) H) : rInX false (.str (S b)) (.str (S a)) H Q :=
  ⟨S b, S a, rfl, rfl, by rw [if_neg Bool.false_ne_true, occ_S]; exact q⟩
open Classical in
theorem v_ninS {H : Hp} {Q : VK} {a b : List Nat} (q : Q (.bl (!decide (Occ a b))) H) : rInX true (.str (S b)) (.str (S a)) H Q :=
  ⟨S b, S a, rfl, rfl, by rw [if_pos rfl, occ_S]; exact q⟩
theorem v_cut {tu tw : TS} {D : Ends} {σ : L2.St} {H : Hp} (M : L2.St → Hp → Prop) (h : tu { D with nx := M } σ H) (k : ∀ σ' H', M σ' H' → tw D σ' H') : C8.tCut tu tw D σ H := ⟨M, h, k⟩
section
def MoS (r : V → Option Int → Option Int → Hp → VK → Prop) : Prop := ∀ x l u H Q Q', (∀ b H1, Q b H1 → Q' b H1) → r x l u H Q → r x l u H Q'
def MoO (t : TO) : Prop := ∀ σ H Q Q', (∀ b H1, Q b H1 → Q' b H1) → t σ H Q → t σ H Q'
def MoM (r : V → List V → Hp → VK → Prop) : Prop := ∀ x xs H Q Q', (∀ b H1, Q b H1 → Q' b H1) → r x xs H Q → r x xs H Q'
theorem mo_m1 {r : V → List V → Hp → VK → Prop} {to te : TE} (ho : MoE to) (he : MoE te) (hr : MoM r) : MoE (tM1 r to te) := fun σ H Q Q' m q => ho _ _ _ _ (fun x H1 ⟨a, q⟩ => ⟨a, he _ _ _ _ (fun y H2 q => hr _ _ _ _ _ m q) q⟩) q
theorem mo_ends : MoM rEndsX := fun x xs H Q Q' m ⟨a, b, c, d, q⟩ => ⟨a, b, c, d, m _ _ q⟩
theorem mo_starts : MoM rStartsX := fun x xs H Q Q' m ⟨a, b, c, d, q⟩ => ⟨a, b, c, d, m _ _ q⟩
theorem mo_sl {r : V → Option Int → Option Int → Hp → VK → Prop} {te : TE} {tl th : TO} (he : MoE te) (hl : MoO tl) (hh : MoO th) (hr : MoS r) : MoE (tSl r te tl th) := fun σ H Q Q' m q => he _ _ _ _ (fun x H1 q => hl _ _ _ _ (fun l H2 q => hh _ _ _ _ (fun u H3 q => hr _ _ _ _ _ _ m q) q) q) q
theorem mo_slS : MoS rSlS := fun x l u H Q Q' m ⟨a, b, c, q⟩ => ⟨a, b, c, m _ _ q⟩
theorem mo_part {te : TE} (h : MoE te) : MoO (tPart te) := fun σ H Q Q' m q => h _ _ _ _ (fun x H1 ⟨i, e, q⟩ => ⟨i, e, m _ _ q⟩) q
theorem mo_nopart : MoO tNoPart := fun σ H Q Q' m q => m _ _ q
end
theorem c_nil : (Str.ofString "") = S [] := by decide +kernel
end Sh

namespace Sh
open PySem PySem.Spec PyProof.Rows L2
/-! ### a text times a number -/
def repL (n : Nat) (l : List Nat) : List Nat := (List.replicate n l).flatten
theorem repL_len (n : Nat) (l : List Nat) : (repL n l).length = l.length * n := by
  unfold repL
  induction n with
  | zero => rfl
  | succ n ih => rw [List.replicate_succ, List.flatten_cons, List.length_append, ih, Nat.mul_succ]; omega
theorem repL_mem {n : Nat} {l : List Nat} {c : Nat} (h : c ∈ repL n l) : c ∈ l := by
  unfold repL at h
  obtain ⟨x, hx, hc⟩ := List.mem_flatten.mp h
  rw [(List.mem_replicate.mp hx).2] at hc
  exact hc
theorem fold_rep (x : Array Nat) : ∀ (n : Nat) (acc : Array Nat), ((List.replicate n x).foldl (· ++ ·) acc).toList = acc.toList ++ (List.replicate n x.toList).flatten
  | 0, acc => by simp
  | n + 1, acc => by
    rw [List.replicate_succ, List.foldl_cons, fold_rep x n, List.replicate_succ, List.flatten_cons, Array.toList_append, List.append_assoc]
theorem mul_S {prog : Program} {w : World} {A : Around} {E : Value → Shared → Prop} {s : Shared} {l : List Nat} {n : Nat} {t u : Tok} {Q : Value → Shared → Prop} (hn : n ≤ 16777216) (hz : l.length * n ≤ sizeLine)
    (h : ∀ t' k, Q (.str (S (repL n l)) t') { s with toks := k }) : wpAny (model prog w) A (binaryOp .Mult (.str (S l) t) (.int (n : Int) u)) Q E s := by
  have hsz : sizeLine = 16777216 := sizeLine_eq
  refine PySem.P.mul_str ?_ ?_ ?_ ?_
  · rw [Bool.or_eq_false_iff, decide_eq_false_iff_not, decide_eq_false_iff_not]
    omega
  · intro h1 _ hc
    rw [S_len] at hc
    have hm : (l.length : Int) * (n : Int) ≤ 16777216 := by
      rw [hsz] at hz
      have : ((l.length * n : Nat) : Int) ≤ 16777216 := by omega
      rw [Int.natCast_mul] at this
      exact this
    have := Int.le_ediv_of_mul_le (a := (l.length : Int)) (b := (2 ^ 63 - 1 : Int)) (c := (n : Int)) (by omega) (by omega)
    omega
  · intro h1 _
    rw [S_len, Int.toNat_natCast]
    unfold Builtin.Str.tooLong
    rw [decide_eq_false_iff_not]
    omega
  · by_cases h1 : (n : Int) < 1
    · rw [if_pos h1]
      have e0 : n = 0 := by omega
      subst e0
      exact ⟨Nat.zero_le _, h s.toks (s.toks + 1)⟩
    · rw [if_neg h1]
      by_cases h2 : ((n : Int) == 1 || (S l).length == 0) = true
      · rw [if_pos h2]
        have e1 : repL n l = l := by
          rw [S_len, Bool.or_eq_true, beq_iff_eq, beq_iff_eq] at h2
          rcases h2 with h2 | h2
          · have : n = 1 := by omega
            subst this
            unfold repL; simp
          · have e0 : l = [] := List.eq_nil_of_length_eq_zero h2
            subst e0
            exact List.eq_nil_of_length_eq_zero (by rw [repL_len]; simp)
        rw [e1] at h
        exact h t s.toks
      · rw [if_neg h2]
        have e : (⟨(List.replicate (n : Int).toNat (S l).cps).foldl (· ++ ·) #[]⟩ : Str) = S (repL n l) := by
          rw [S_of (⟨(List.replicate (n : Int).toNat (S l).cps).foldl (· ++ ·) #[]⟩ : Str)]
          congr 1
          show ((List.replicate (n : Int).toNat (S l).cps).foldl (· ++ ·) #[]).toList = _
          rw [fold_rep, S_list, Int.toNat_natCast]
          rfl
        rw [e]
        exact ⟨by rw [S_len, repL_len]; exact hz, h s.toks (s.toks + 1)⟩
def rMulS : R2 := fun x y H Q => ∃ (l : List Nat) (n : Nat), x = .str (S l) ∧ y = .int (n : Int) ∧ n ≤ 16777216 ∧ l.length * n ≤ sizeLine ∧ Q (.str (S (repL n l))) H
theorem op_mulS {X : Cx} : OpR X (binaryOp .Mult) rMulS := by
  intro pins s σ H x y v u Q I rx ry h
  obtain ⟨l, n, rfl, rfl, hn, hz, q⟩ := h
  obtain ⟨t, rfl⟩ := rx
  obtain ⟨t', rfl⟩ := ry
  exact mul_S hn hz fun t' k => ⟨.str _, H, I.tok k, ⟨_, rfl⟩, q⟩
theorem v_mulS {H : Hp} {Q : VK} {l : List Nat} {n : Nat} {j : Int} (e : j = (n : Int)) (hn : n ≤ 16777216) (hz : l.length * n ≤ sizeLine) (q : Q (.str (S (repL n l))) H) : rMulS (.str (S l)) (.int j) H Q := by
  subst e
  exact ⟨l, n, rfl, rfl, hn, hz, q⟩
/-! tuple(range(..)), list(range(..)) -/
section
variable {σ : L2.St} {H : Hp} {Q : VK} {ta tb : TE}
def kTR (Q : VK) : V → Hp → Prop := fun x H1 => ∃ n, x = .int n ∧ RgOk 0 n ∧ ∀ q, H1 q = none → Q (.ref q) (upd H1 q (.tup (rgV 0 n)))
theorem v_tupR (q : ta σ H (kTR Q)) : tTupRg (tRg1 ta) σ H Q := q
theorem rgV_nat (n : Nat) : rgV 0 (n : Int) = (List.range n).map nV := by
  unfold rgV
  rw [Int.sub_zero, Int.toNat_natCast]
  refine List.map_congr_left fun i _ => ?_
  show V.int (0 + (i : Int)) = V.int (i : Int)
  rw [Int.zero_add]
theorem v_kTR {n : Nat} (hn : n ≤ 16777216) (q : ∀ p, H p = none → Q (.ref p) (upd H p (.tup ((List.range n).map nV)))) : kTR Q (.int (n : Int)) H :=
  ⟨(n : Int), rfl, RgOk.of_le (by omega) (by omega) (by omega) (by omega), fun p hp => by rw [rgV_nat]; exact q p hp⟩
def kLR (Q : VK) : V → Hp → Prop := fun x H1 => ∃ n, x = .int n ∧ RgOk 0 n ∧ ∀ q, H1 q = none → Q (.ref q) (upd H1 q (.lst (rgV 0 n)))
theorem v_lstR (q : ta σ H (kLR Q)) : tLstRg (tRg1 ta) σ H Q := q
theorem v_kLR {n : Nat} (hn : n ≤ 16777216) (q : ∀ p, H p = none → Q (.ref p) (upd H p (.lst ((List.range n).map nV)))) : kLR Q (.int (n : Int)) H :=
  ⟨(n : Int), rfl, RgOk.of_le (by omega) (by omega) (by omega) (by omega), fun p hp => by rw [rgV_nat]; exact q p hp⟩
end
/-! all(a list of bools) -/
theorem v_all {K : PySem.W.Frag} {H : Hp} {Q : VK} {a : Addr} {bs : List Bool} (hs : SqL K H a (bs.map V.bl)) (q : Q (.bl (bs.all id)) H) : rAll K [.ref a] H Q := ⟨a, bs, rfl, hs, q⟩
end Sh

namespace Sh
open PySem PySem.Spec PyProof.Rows L2
/-! ### lists of texts, sorted -/
def tV (l : List Nat) : V := .str (S l)
theorem tV_map (xs : List (List Nat)) : xs.map tV = (xs.map S).map V.str := by rw [List.map_map]; rfl
theorem rising_le : ∀ (r : List (List Nat)) (p : List Nat), risingS (S p) (r.map S) = true → (p :: r).Pairwise (fun a b : List Nat => a ≤ b)
  | [], p, _ => by simp
  | x :: r, p, h => by
    have h1 : (!ltCps (S x).cps.toList (S p).cps.toList && risingS (S x) (r.map S)) = true := h
    rw [Bool.and_eq_true, Bool.not_eq_true', S_list, S_list, ltCps_eq, decide_eq_false_iff_not, List.not_lt] at h1
    have ih := rising_le r x h1.2
    rw [List.pairwise_cons]
    refine ⟨fun y hy => ?_, ih⟩
    rcases List.mem_cons.mp hy with e | e
    · rw [e]; exact h1.1
    · exact List.le_trans h1.1 ((List.pairwise_cons.mp ih).1 y e)
theorem sorted_le : ∀ xs : List (List Nat), sortedS (xs.map S) = true → xs.Pairwise (fun a b : List Nat => a ≤ b)
  | [], _ => .nil
  | x :: r, h => rising_le r x h
theorem map_S_inv (ys : List Str) : (ys.map (·.cps.toList)).map S = ys := by
  rw [List.map_map]
  conv => rhs; rw [← List.map_id ys]
  exact List.map_congr_left fun y _ => (S_of y).symm
def rSortX (K : PySem.W.Frag) : List V → Hp → VK → Prop := fun vs H Q => ∃ (a : Addr) (xs : List (List Nat)), vs = [V.ref a] ∧ SqL K H a (xs.map tV) ∧ xs.length ≤ sizeLine ∧
  ∀ (ys : List (List Nat)) (p : Addr), ys.Perm xs → ys.Pairwise (fun a b : List Nat => a ≤ b) → H p = none → Q (.ref p) (upd H p (.lst (ys.map tV)))
theorem cr_sortX {X : Cx} : CallR X (.builtin "sorted") (rSortX X.K) := by
  intro pins s σ H vs us Q I r h
  obtain ⟨a, xs, rfl, hs, hz, q⟩ := h
  rw [tV_map] at hs
  obtain ⟨its, rv, hl, _⟩ := I.list hs
  rw [Vals.ref1 r]
  have hlen0 := rv.length
  rw [List.length_map, List.length_map] at hlen0
  refine PyProof.Rows.sorted_strsAny hl.isList rv.strs (by rw [← hlen0]; exact hz) fun out ys h1 h2 h3 => ?_
  obtain ⟨ep, he'⟩ := PyProof.Rows.sortedAll_at s.heap its out
  have e2 : ys.length = xs.length := by rw [h2.length_eq, List.length_map]
  have hlen : (ys.map V.str).length ≤ sizeLine := by rw [List.length_map, e2]; exact hz
  have hperm : (ys.map (·.cps.toList)).Perm xs := by
    have := h2.map (fun z : Str => z.cps.toList)
    rw [List.map_map] at this
    have e : (xs.map ((fun z : Str => z.cps.toList) ∘ S)) = xs := by
      conv => rhs; rw [← List.map_id xs]
      exact List.map_congr_left fun x _ => S_list x
    rw [e] at this
    exact this
  have q2 := q (ys.map (·.cps.toList)) (s.heap.objs.size + 1) hperm (sorted_le _ (by rw [map_S_inv]; exact h3)) (I.hok.fresh (Nat.le_succ _))
  rw [tV_map, map_S_inv] at q2
  exact ⟨.ref _, upd H (s.heap.objs.size + 1) (.lst (ys.map V.str)), I.laid (t' := s.toks) (fun _ _ => PyProof.Rows.sortedAll_old) (Nat.le_succ _) ⟨hlen, out.toList, ep, vals_of_strs h1, he'⟩, rfl, q2⟩
theorem v_sortX {K : PySem.W.Frag} {H : Hp} {Q : VK} {a : Addr} {xs : List (List Nat)} (hs : SqL K H a (xs.map tV)) (hz : xs.length ≤ sizeLine)
    (q : ∀ (ys : List (List Nat)) (p : Addr), ys.Perm xs → ys.Pairwise (fun a b : List Nat => a ≤ b) → H p = none → Q (.ref p) (upd H p (.lst (ys.map tV)))) : rSortX K [.ref a] H Q := ⟨a, xs, rfl, hs, hz, q⟩
/-- a comprehension over a list, item by item of what the list stands for -/
theorem lc_M {K : PySem.W.Frag} {σ : L2.St} {H : Hp} {tt : TT} {te : TE} {Q : VK} {α : Type} (G : α → V) {a : Addr} {xs : List α} {j : Nat} (p : α → Bool) (f : α → V) (hx : SqL K H a (xs.map G)) (hn : xs.length ≤ sizeLine)
    (ht : ∀ x H', x ∈ xs → Same H H' → ∀ Qb : Bool → Hp → Prop, Qb (p x) H' → tt ((σ.set j none).set j (some (G x))) H' Qb)
    (he : ∀ x H', x ∈ xs → p x = true → Same H H' → ∀ Qv : VK, Qv (f x) H' → te ((σ.set j none).set j (some (G x))) H' Qv)
    (hd : ∀ L, H L = none → Q (.ref L) (upd H L (.lst ((xs.filter p).map f)))) : kLc (gName j) tt te [j] σ Q (Itl K a) H := by
  intro L hL
  refine lc_list (xs := xs.map G) (fun i H' => H' = upd H L (.lst (((xs.take i).filter p).map f))) rfl (fun i H' _ e => ?_) ?_ (fun H' e => by subst e; rw [List.take_of_length_le (by rw [List.length_map]; exact Nat.le_refl _)]; exact hd L hL)
  · subst e
    exact (same_upd hL).seq hx
  rintro i y H' hi rfl
  obtain ⟨x, hx2, rfl⟩ : ∃ x, xs[i]? = some x ∧ y = G x := by
    rw [List.getElem?_map] at hi
    cases e : xs[i]? with
    | none => rw [e] at hi; cases hi
    | some u => rw [e] at hi; exact ⟨u, rfl, (Option.some.inj hi).symm⟩
  have sm : Same H (upd H L (.lst (((xs.take i).filter p).map f))) := same_upd hL
  have hm : x ∈ xs := List.mem_of_getElem? hx2
  have hlt : i < xs.length := (List.getElem?_eq_some_iff.mp hx2).1
  refine ⟨wipe_set, ht x _ hm sm _ ?_⟩
  have hlen : (((xs.take i).filter p).map f).length < sizeLine := by
    rw [List.length_map]
    refine Nat.lt_of_le_of_lt (List.length_filter_le _ _) ?_
    rw [List.length_take]
    omega
  have et : xs.take (i + 1) = xs.take i ++ [x] := by rw [List.take_add_one, hx2]; rfl
  cases hp : p x with
  | true =>
    rw [if_pos rfl]
    refine he x _ hm hp sm _ ⟨_, upd_same, hlen, ?_⟩
    rw [upd_upd, et, List.filter_append, List.map_append]
    have : List.filter p [x] = [x] := by simp [hp]
    rw [this]
    rfl
  | false =>
    rw [if_neg Bool.false_ne_true]
    show _ = _
    rw [et, List.filter_append, List.map_append]
    have : List.filter p [x] = [] := by simp [hp]
    rw [this]
    simp
theorem filter_all {α : Type} (l : List α) : l.filter (fun _ => true) = l := List.filter_eq_self.mpr fun _ _ => rfl
/-! texts by order -/
def rLtX : R2 := fun x y H Q => ∃ i j, x = .str i ∧ y = .str j ∧ Q (.bl (decide (i.cps.toList < j.cps.toList))) H
theorem op_ltS {X : Cx} : OpR X (compareOp .Lt) rLtX := op_lt_str
theorem v_ltS {H : Hp} {Q : VK} {a b : List Nat} (q : Q (.bl (decide (a < b))) H) : rLtX (.str (S a)) (.str (S b)) H Q := ⟨S a, S b, rfl, rfl, by rw [S_list, S_list]; exact q⟩
def rGtX : R2 := fun x y H Q => ∃ i j, x = .str i ∧ y = .str j ∧ Q (.bl (decide (j.cps.toList < i.cps.toList))) H
theorem op_gtS {X : Cx} : OpR X (compareOp .Gt) rGtX := op_gt_str
theorem v_gtS {H : Hp} {Q : VK} {a b : List Nat} (q : Q (.bl (decide (b < a))) H) : rGtX (.str (S a)) (.str (S b)) H Q := ⟨S a, S b, rfl, rfl, by rw [S_list, S_list]; exact q⟩
/-! list.count of texts -/
def rCntX (K : PySem.W.Frag) : V → List V → Hp → VK → Prop := fun x xs H Q => ∃ (p : Addr) (ns : List (List Nat)) (k : List Nat), x = .ref p ∧ xs = [tV k] ∧ SqL K H p (ns.map tV) ∧ Q (.int (ns.count k : Nat)) H
theorem eqV_tV (x y : List Nat) : eqV (tV x) (tV y) = (x == y) := by
  show (S x == S y) = (x == y)
  exact SX.S_beq x y
theorem flat_tV (ns : List (List Nat)) : (ns.map tV).all flatV = true := by
  rw [List.all_eq_true]
  intro v hv
  obtain ⟨n, _, rfl⟩ := List.mem_map.mp hv
  rfl
theorem count_tV {k : List Nat} : ∀ {ns : List (List Nat)} {us : List Value}, Vals (ns.map tV) us → us.countP (eqU (tV k)) = ns.count k
  | [], _, h => by cases h; rfl
  | n :: ns, _, h => by
    cases h with
    | cons r t =>
      have ih := count_tV (k := k) t
      rw [List.countP_cons, List.count_cons, ih, eqU_of r rfl, eqV_tV]
theorem mt_lcountX {X : Cx} : MtR X "list.count" (rCntX X.K) := by
  intro pins s σ H x xs v us Q I rx rxs h
  obtain ⟨p, ns, k, rfl, rfl, hs, q⟩ := h
  cases rx
  obtain ⟨u, rfl, ru⟩ := rxs.one
  obtain ⟨its, rv, ⟨⟨cls, dd, data, sl⟩, n, ho, hc, hdn, hd⟩, hlen⟩ := I.list hs
  simp only at hc hd
  subst hc hd
  refine call_meets PySem.F.slot_list_count ⟨_, ho, rfl⟩ PySem.F.entry_list_count (PySem.F.args_list_count_2 _ _)
    (SeqAt.list_countAt p its.toArray n dd sl u (eqU (tV k))) ⟨ho, fun y hy => mem_eqAt ru rfl rv (flat_tV ns) y (by simpa using hy), ?_⟩
  have ec : its.toArray.toList.countP (eqU (tV k)) = ns.count k := count_tV rv
  refine ⟨.int (ns.count k : Nat), H, I.tok _, ⟨s.toks, ?_⟩, q⟩
  show Value.int ((its.toArray.toList.countP (eqU (tV k)) : Nat) : Int) s.toks = Value.int ((ns.count k : Nat) : Int) s.toks
  rw [ec]
theorem v_lcountX {K : PySem.W.Frag} {H : Hp} {Q : VK} {p : Addr} {ns : List (List Nat)} {k : List Nat} (hs : SqL K H p (ns.map tV)) (q : Q (.int (ns.count k : Nat)) H) : rCntX K (.ref p) [.str (S k)] H Q := ⟨p, ns, k, rfl, rfl, hs, q⟩
/-! unpacking, chains -/
theorem v_gTup {K : PySem.W.Frag} {σ : L2.St} {H : Hp} {a : Addr} {xs : List V} {n : Nat} {gs : TGs} {Q : L2.St → Hp → Prop} (h : SqT K H a xs) (hn : xs.length = n) (q : gs xs σ H Q) : gTup K n gs (.ref a) σ H Q := ⟨a, xs, rfl, h, hn, q⟩
theorem v_chain {σ : L2.St} {H : Hp} {r r' : R2} {ta tb tc : TE} {Q : VK} (q : ta σ H fun x H1 => tb σ H1 fun y H2 => r x y H2 fun z H3 => kAnd (tc σ H3 fun w' H4 => r' y w' H4 Q) (Q (.bl false) H3) z) : tChain r r' ta tb tc σ H Q := q
/-! lists of bools, of texts, compared -/
def bD (ns : List Bool) : List PyData := ns.map PyData.bool
theorem dp_bools {K : PySem.W.Frag} {H : Hp} : ∀ ns : List Bool, DpAll K H (ns.map V.bl) (bD ns)
  | [] => .nil
  | n :: ns => .cons (.bl n) (dp_bools ns)
theorem lay_bools : ∀ ns : List Bool, PyData.canLayAll0 (bD ns) = true
  | [] => rfl
  | n :: ns => by
    show (PyData.canLay0 (.bool n) && PyData.canLayAll0 (bD ns)) = true
    rw [lay_bools ns]; rfl
theorem dep_bools : ∀ ns : List Bool, PyData.depthAll (bD ns) = 0
  | [] => rfl
  | n :: ns => by
    show max (PyData.depth (.bool n)) (PyData.depthAll (bD ns)) = 0
    rw [dep_bools ns]; rfl
theorem eqv_bools : ∀ ns ms : List Bool, PyData.eqvAll (bD ns) (bD ms) = decide (ns = ms)
  | [], [] => rfl
  | [], _ :: _ => by simp [bD, PyData.eqvAll]
  | _ :: _, [] => by simp [bD, PyData.eqvAll]
  | n :: ns, m :: ms => by
    show (PyData.eqv (.bool n) (.bool m) && PyData.eqvAll (bD ns) (bD ms)) = _
    rw [eqv_bools ns ms]
    show ((n == m) && decide (ns = ms)) = decide (n :: ns = m :: ms)
    by_cases h1 : n = m <;> by_cases h2 : ns = ms <;> simp [h1, h2]
theorem shLb (ns : List Bool) : SeqAt.shaped (.list (bD ns)) = true := by
  unfold SeqAt.shaped
  rw [show PyData.canLay0 (.list (bD ns)) = PyData.canLayAll0 (bD ns) by simp [PyData.canLay0], lay_bools, show PyData.depth (.list (bD ns)) = PyData.depthAll (bD ns) + 1 by simp [PyData.depth], dep_bools]
  rfl
theorem v_eqLb {K : PySem.W.Frag} {H : Hp} {Q : VK} {a b : Addr} {ns ms : List Bool} (ha : SqL K H a (ns.map V.bl)) (hb : SqL K H b (ms.map V.bl)) (q : Q (.bl (decide (ns = ms))) H) : rEqD K (.ref a) (.ref b) H Q :=
  ⟨.list (bD ns), .list (bD ms), .lst ha (dp_bools ns), .lst hb (dp_bools ms), shLb ns, shLb ms, by
    rw [show PyData.eqv (.list (bD ns)) (.list (bD ms)) = PyData.eqvAll (bD ns) (bD ms) by simp [PyData.eqv], eqv_bools]; exact q⟩
/-! the order of lists and their beginnings -/
theorem lt_take : ∀ (a w : List Nat), a < w ↔ a.take w.length < w
  | _, [] => by simp
  | [], w :: ws => by simp
  | a :: as, w :: ws => by
    rw [List.length_cons, List.take_succ_cons, List.cons_lt_cons_iff, List.cons_lt_cons_iff, lt_take as ws]
theorem take_mono : ∀ (n : Nat) (a b : List Nat), a ≤ b → a.take n ≤ b.take n
  | 0, _, _, _ => by rw [List.take_zero, List.take_zero]; exact List.le_refl _
  | n + 1, [], b, _ => by rw [List.take_nil]; exact List.not_lt.mp (List.not_lt_nil _)
  | n + 1, a :: as, [], h => absurd (List.nil_lt_cons a as) (List.not_lt.mpr h)
  | n + 1, a :: as, b :: bs, h => by
    rw [List.take_succ_cons, List.take_succ_cons]
    rw [← List.not_lt] at h ⊢
    rw [List.cons_lt_cons_iff] at h ⊢
    intro hc
    rcases hc with hc | ⟨e, hc⟩
    · exact h (.inl hc)
    · have hab : as ≤ bs := List.not_lt.mp (fun x => h (.inr ⟨e, x⟩))
      exact List.not_lt.mpr (take_mono n as bs hab) hc
/-- in a row that ascends by f (0, 1, 2): the places with 0 are those below their number, those with 1 the next -/
theorem three_parts {α : Type} (f : α → Nat) : ∀ (l : List α), l.Pairwise (fun a b => f a ≤ f b) → (∀ a ∈ l, f a ≤ 2) → ∀ k (h : k < l.length),
    (f l[k] = 0 ↔ k < l.countP (fun a => f a == 0)) ∧ (f l[k] = 1 ↔ (l.countP (fun a => f a == 0) ≤ k ∧ k < l.countP (fun a => f a == 0) + l.countP (fun a => f a == 1)))
  | [], _, _, k, h => absurd h (Nat.not_lt_zero _)
  | a :: l, hp, h2, k, h => by
    obtain ⟨h3, h4⟩ := List.pairwise_cons.mp hp
    have h5 := h2 a List.mem_cons_self
    have ih := three_parts f l h4 (fun b hb => h2 b (List.mem_cons_of_mem _ hb))
    have z0 : f a ≠ 0 → l.countP (fun a => f a == 0) = 0 := fun hn => by
      rw [List.countP_eq_zero]
      intro b hb
      have := h3 b hb
      simp; omega
    have z1 : f a ≠ 0 → f a ≠ 1 → l.countP (fun a => f a == 1) = 0 := fun hn hn1 => by
      rw [List.countP_eq_zero]
      intro b hb
      have := h3 b hb
      simp; omega
    rw [List.countP_cons, List.countP_cons]
    have hf : f a = 0 ∨ f a = 1 ∨ f a = 2 := by omega
    cases k with
    | zero =>
      rw [List.getElem_cons_zero]
      rcases hf with e | e | e
      · simp [e]
      · have := z0 (by omega)
        simp [e, this]
      · have a1 := z0 (by omega)
        have a2 := z1 (by omega) (by omega)
        simp [e, a1, a2]
    | succ k =>
      rw [List.getElem_cons_succ]
      have hk : k < l.length := by rw [List.length_cons] at h; omega
      obtain ⟨i1, i2⟩ := ih k hk
      rw [i1, i2]
      rcases hf with e | e | e
      · simp [e] <;> omega
      · have := z0 (by omega)
        simp [e, this] <;> omega
      · have a1 := z0 (by omega)
        have a2 := z1 (by omega) (by omega)
        simp [e, a1, a2] <;> omega
end Sh

namespace Sh
open PySem PySem.Spec PyProof.Rows L2
/-! ### isinstance of the error that a suite holds -/
def rIsX (K : PySem.W.Frag) (cls : Value) (d : Option Addr) (a : Addr) : List V → Hp → VK → Prop := fun xs H Q => ∃ (D : Addr) (c : V) (cv : Value) (b : Bool), cls = .ref D ∧ d = none ∧ ExcC K D ∧ xs = [.ref a, c] ∧ (∀ u, RelV c u → u = cv) ∧ PySem.W.kitOne K (.ref D) cv = some b ∧ Q (.bl b) H
theorem call_isX {X : Cx} {a : Addr} {cls : Value} {d : Option Addr} {oe : Obj} {pn : List (Addr × Obj)} (hz : Zc cls d oe) (hf : ∃ vs, oe.data = .fields vs) : CallR (X.suite a ((a, oe) :: pn)) (.builtin "isinstance") (rIsX X.K cls d a) := by
  intro pins s σ H xs us Q I r h
  obtain ⟨D, c, cv, b, rfl, rfl, C, rfl, hcv, e, q⟩ := h
  exact call_isE (X := X) (a := a) (D := D) (oe := oe) (pn := pn) C hz hf pins s σ H _ us Q I r ⟨c, cv, b, rfl, hcv, e, q⟩
theorem v_isX {K : PySem.W.Frag} {D C a : Addr} {b : Bool} {H : Hp} {Q : VK} (x : ExcC K D) (e : PySem.W.kitOne K (.ref D) (.ref C) = some b) (q : Q (.bl b) H) : rIsX K (.ref D) none a [.ref a, .ref C] H Q :=
  ⟨D, .ref C, .ref C, b, rfl, rfl, x, rfl, fun _ r => r, e, q⟩
theorem kit_mk {K : PySem.W.Frag} {D C : Addr} {b : Bool} (i : PySem.W.isClsIn K C = true) (t : PySem.W.typeIn K (.ref C) = some (.type "type")) (s : PySem.W.subIn K (.ref D) (.ref C) = some b) (n : b = false → (Value.ref D == Value.ref C) = false) : PySem.W.kitOne K (.ref D) (.ref C) = some b := by
  have e2 : ((PySem.W.clsIn K C).isSome && PySem.W.typeIn K (.ref C) == some (.type "type")) = true := by
    have h2' : (PySem.W.clsIn K C).isSome = true := i
    rw [h2', t]; rfl
  have e3 : PySem.W.kitCls K (.ref D) (.ref C) = some b := by
    show (if ((PySem.W.clsIn K C).isSome && PySem.W.typeIn K (.ref C) == some (.type "type")) = true then PySem.W.subIn K (.ref D) (.ref C) else none) = some b
    rw [if_pos e2]; exact s
  unfold PySem.W.kitOne
  cases b with
  | true =>
    by_cases h : (Value.ref D == Value.ref C) = true
    · rw [if_pos h]
    · rw [if_neg h]; exact e3
  | false =>
    rw [if_neg (by rw [n rfl]; decide)]
    exact e3
/-! ### f-strings -/
section
variable {σ : L2.St} {H : Hp} {t : TE} {ts : List TE} {acc : Str} {Q : Str → Hp → Prop} {Qv : VK}
def kJ (ts : List TE) (acc : Str) (σ : L2.St) (Q : Str → Hp → Prop) : VK := fun x H1 => ∃ y : Str, x = .str y ∧ (acc ++ y).length ≤ sizeLine ∧ tJs ts (acc ++ y) σ H1 Q
theorem v_js (q : t σ H (kJ ts acc σ Q)) : tJs (t :: ts) acc σ H Q := q
theorem v_jn (q : Q acc H) : tJs [] acc σ H Q := q
theorem v_kJ {y : Str} (hz : (acc ++ y).length ≤ sizeLine) (q : tJs ts (acc ++ y) σ H Q) : kJ ts acc σ Q (.str y) H := ⟨y, rfl, hz, q⟩
def kF (Q : VK) : VK := fun x H1 => (∃ y : Str, x = .str y ∧ y.length ≤ sizeLine ∧ Q (.str y) H1) ∨ ∃ i : Int, x = .int i ∧ i.natAbs.log2 < 1920 ∧ Q (.str (toString i)) H1
theorem v_fmt (q : t σ H (kF Qv)) : tFmt t σ H Qv := q
theorem v_kF {i : Int} (h : i.natAbs.log2 < 1920) (q : Qv (.str (toString i)) H) : kF Qv (.int i) H := .inr ⟨i, rfl, h, q⟩
theorem v_kFs {y : Str} (h : y.length ≤ sizeLine) (q : Qv (.str y) H) : kF Qv (.str y) H := .inl ⟨y, rfl, h, q⟩
theorem app_len (a b : Str) : (a ++ b).length = a.length + b.length := by
  rw [S_of a, S_of b, S_app, S_len, S_len, S_len, List.length_append]
theorem app_le {a b : Str} {n m : Nat} (ha : a.length ≤ n) (hb : b.length ≤ m) : (a ++ b).length ≤ n + m := by rw [app_len]; omega
/-- a small number's text is short -/
theorem num_short : ∀ n : Nat, n < 3000 → (Str.ofString (toString ((n : Int) - 500))).length ≤ 8 := by
  have h : ∀ n : Fin 3000, (Str.ofString (toString ((n.val : Int) - 500))).length ≤ 8 := by decide +kernel
  exact fun n hn => h ⟨n, hn⟩
theorem num_len {i : Int} (h0 : -500 ≤ i) (h1 : i < 2500) : (toString i : Str).length ≤ 8 := by
  have := num_short (i + 500).toNat (by omega)
  rw [show (((i + 500).toNat : Nat) : Int) - 500 = i by omega] at this
  exact this
theorem num_log {i : Int} (h0 : -500 ≤ i) (h1 : i < 2500) : i.natAbs.log2 < 1920 := by
  have : i.natAbs < 2 ^ 12 := by omega
  exact Nat.lt_of_lt_of_le (PySem.Flt.log2_lt_of (by decide) this) (by decide)
end
section
variable {σ : L2.St} {H : Hp} {Q : Str → Hp → Prop} {t1 t2 : TE} {c1 c2 c3 : Str} {i j : Int}
def Sm (i : Int) : Prop := -500 ≤ i ∧ i < 2500
theorem fits {a : Str} {n : Nat} (h : a.length ≤ n) (h2 : n ≤ 100000) : a.length ≤ sizeLine := Nat.le_trans h (sz_of (by omega))
theorem emp_len : (Str.empty).length ≤ 0 := Nat.le_refl _
theorem v_fs4 (h1 : c1.length ≤ 1000) (h2 : c2.length ≤ 1000) (hi : Sm i) (hj : Sm j) (e1 : ∀ Qv : VK, Qv (.int i) H → t1 σ H Qv) (e2 : ∀ Qv : VK, Qv (.int j) H → t2 σ H Qv) (q : ∀ out, Q out H) :
    tJs [tC (.str c1), tFmt t1, tC (.str c2), tFmt t2] Str.empty σ H Q := by
  have a1 := app_le emp_len h1
  have a2 := app_le a1 (num_len hi.1 hi.2)
  have a3 := app_le a2 h2
  have a4 := app_le a3 (num_len hj.1 hj.2)
  exact v_js (v_c (v_kJ (fits a1 (by omega)) (v_js (v_fmt (e1 _ (v_kF (num_log hi.1 hi.2) (v_kJ (fits a2 (by omega)) (v_js (v_c (v_kJ (fits a3 (by omega)) (v_js (v_fmt (e2 _ (v_kF (num_log hj.1 hj.2) (v_kJ (fits a4 (by omega)) (v_jn (q _)))))))))))))))))
theorem v_fs3 (h1 : c1.length ≤ 1000) (h2 : c2.length ≤ 1000) (hi : Sm i) (e1 : ∀ Qv : VK, Qv (.int i) H → t1 σ H Qv) (q : ∀ out, Q out H) :
    tJs [tC (.str c1), tFmt t1, tC (.str c2)] Str.empty σ H Q := by
  have a1 := app_le emp_len h1
  have a2 := app_le a1 (num_len hi.1 hi.2)
  have a3 := app_le a2 h2
  exact v_js (v_c (v_kJ (fits a1 (by omega)) (v_js (v_fmt (e1 _ (v_kF (num_log hi.1 hi.2) (v_kJ (fits a2 (by omega)) (v_js (v_c (v_kJ (fits a3 (by omega)) (v_jn (q _))))))))))))
theorem v_fs2 (h1 : c1.length ≤ 1000) (hi : Sm i) (e1 : ∀ Qv : VK, Qv (.int i) H → t1 σ H Qv) (q : ∀ out, Q out H) :
    tJs [tC (.str c1), tFmt t1] Str.empty σ H Q := by
  have a1 := app_le emp_len h1
  have a2 := app_le a1 (num_len hi.1 hi.2)
  exact v_js (v_c (v_kJ (fits a1 (by omega)) (v_js (v_fmt (e1 _ (v_kF (num_log hi.1 hi.2) (v_kJ (fits a2 (by omega)) (v_jn (q _)))))))))
end
end Sh

namespace Sh
open PySem PySem.Spec PyProof.Rows L2
/-! ### min of a list of texts -/
theorem hold_strs {h : Heap} : ∀ {xs : List Str} {us : List Value}, StrsAre us xs → PySem.W.HoldAll h us xs := by
  intro xs us r
  induction r with
  | nil => exact PySem.W.HoldAll.nil
  | cons x t _ ih => exact PySem.W.HoldAll.cons (PySem.W.holds_str x t) ih
theorem min_fold : ∀ (ys : List Str) (x : Str), PySem.W.minOf x ys ∈ x :: ys ∧ ∀ y ∈ x :: ys, ¬ y.cps.toList < (PySem.W.minOf x ys).cps.toList := by
  intro ys
  induction ys with
  | nil =>
    intro x
    refine ⟨List.mem_singleton.mpr rfl, fun y hy => ?_⟩
    cases List.mem_singleton.mp hy
    exact List.lt_irrefl _
  | cons z ys ih =>
    intro x
    have e : PySem.W.minOf x (z :: ys) = PySem.W.minOf (if PySem.W.DatumOrd.lt z x = true then z else x) ys := rfl
    rw [e]
    have hlt : PySem.W.DatumOrd.lt z x = decide (z.cps.toList < x.cps.toList) := rfl
    rw [hlt]
    by_cases h : z.cps.toList < x.cps.toList
    · rw [if_pos (decide_eq_true h)]
      obtain ⟨i1, i2⟩ := ih z
      refine ⟨List.mem_cons_of_mem _ i1, fun y hy => ?_⟩
      rcases List.mem_cons.mp hy with rfl | hy
      · intro h2
        exact i2 z List.mem_cons_self (List.lt_trans h h2)
      · exact i2 y hy
    · rw [if_neg (by rw [decide_eq_true_eq]; exact h)]
      obtain ⟨i1, i2⟩ := ih x
      refine ⟨?_, fun y hy => ?_⟩
      · rcases List.mem_cons.mp i1 with e | i1
        · rw [e]; exact List.mem_cons_self
        · exact List.mem_cons_of_mem _ (List.mem_cons_of_mem _ i1)
      · rcases List.mem_cons.mp hy with rfl | hy
        · exact i2 y List.mem_cons_self
        · rcases List.mem_cons.mp hy with rfl | hy
          · intro h2
            exact i2 x List.mem_cons_self (List.lt_of_le_of_lt (List.not_lt.mp h) h2)
          · exact i2 y (List.mem_cons_of_mem _ hy)
def rMinT (K : PySem.W.Frag) : List V → Hp → VK → Prop := fun vs H Q => ∃ (a : Addr) (xs : List (List Nat)), vs = [V.ref a] ∧ SqL K H a (xs.map tV) ∧ xs ≠ [] ∧ ∀ m, m ∈ xs → (∀ y ∈ xs, ¬ y < m) → Q (.str (S m)) H
theorem cr_minT {X : Cx} (hc : X.calm = true) (hu : X.A.units + 64 < cLine) : CallR X (.builtin "min") (rMinT X.K) := by
  intro pins s σ H vs us Q I r h
  obtain ⟨a, xs, rfl, hs, hne, q⟩ := h
  rw [tV_map] at hs
  obtain ⟨its, rv, hl, _⟩ := I.list hs
  rw [Vals.ref1 r]
  cases xs with
  | nil => exact absurd rfl hne
  | cons x xs =>
    have hh := hold_strs (h := s.heap) rv.strs
    rw [List.map_cons] at hh
    refine PySem.W.min_list_datum (x := S x) (xs := xs.map S) (I.ok.hd hc) hl.isList hh (by show _ + 1 + 0 < _; omega) fun i v h' tk hi hv hk => ?_
    obtain ⟨t, rfl⟩ := PySem.W.str_of_holds hv
    obtain ⟨m1, m2⟩ := min_fold (xs.map S) (S x)
    rw [← List.map_cons (f := S)] at m1 m2
    obtain ⟨m, hm, e⟩ := List.mem_map.mp m1
    rw [← e]
    refine ⟨.str _, H, I.kept hk, ⟨_, rfl⟩, q m hm fun y hy => ?_⟩
    have := m2 (S y) (List.mem_map_of_mem hy)
    rw [← e, S_list, S_list] at this
    exact this
theorem v_minT {K : PySem.W.Frag} {H : Hp} {Q : VK} {a : Addr} {xs : List (List Nat)} (hs : SqL K H a (xs.map tV)) (hne : xs ≠ []) (q : ∀ m, m ∈ xs → (∀ y ∈ xs, ¬ y < m) → Q (.str (S m)) H) : rMinT K [.ref a] H Q := ⟨a, xs, rfl, hs, hne, q⟩
theorem v_ixTlast {K : PySem.W.Frag} {H : Hp} {Q : VK} {p : Addr} {xs : List V} {v : V} (hs : SqT K H p xs) (h : xs[xs.length - 1]? = some v) (q : Q v H) : rIxT K (.ref p) (.int (-1)) H Q := by
  refine ⟨p, xs, -1, v, rfl, rfl, hs, ?_, q⟩
  have hne : xs ≠ [] := by
    intro e
    subst e
    cases h
  have e : xs = xs.dropLast ++ [v] := by
    have h1 := List.dropLast_concat_getLast hne
    have h2 : xs.getLast hne = v := by
      rw [List.getLast_eq_getElem]
      exact (List.getElem?_eq_some_iff.mp h).2
    rw [h2] at h1
    exact h1.symm
  rw [e]
  exact atI_last _ _
theorem inV_tV (x : List Nat) : ∀ xs : List (List Nat), inV (tV x) (xs.map tV) = decide (x ∈ xs)
  | [] => by simp [inV]
  | n :: ns => by
    have ih := inV_tV x ns
    unfold inV at ih ⊢
    rw [List.map_cons, List.any_cons, ih, eqV_tV]
    by_cases h1 : n = x
    · subst h1; simp
    · have h3 : ¬ x = n := fun e => h1 e.symm
      by_cases h2 : x ∈ ns <;> simp [h1, h2, h3]
theorem v_inLX {K : PySem.W.Frag} {H : Hp} {Q : VK} {a : Addr} {x : List Nat} {xs : List (List Nat)} (ha : SqL K H a (xs.map tV)) (q : Q (.bl (decide (x ∈ xs))) H) : rIn K false (.str (S x)) (.ref a) H Q :=
  ⟨a, _, rfl, .inl ha, rfl, flat_tV xs, by
    show Q (.bl (inV (tV x) (xs.map tV))) H
    rw [inV_tV]; exact q⟩
end Sh
namespace Sh
open PySem PySem.Spec PyProof.Rows L2
theorem v_ninLX {K : PySem.W.Frag} {H : Hp} {Q : VK} {a : Addr} {x : List Nat} {xs : List (List Nat)} (ha : SqL K H a (xs.map tV)) (q : Q (.bl (!decide (x ∈ xs))) H) : rIn K true (.str (S x)) (.ref a) H Q :=
  ⟨a, _, rfl, .inl ha, rfl, flat_tV xs, by
    show Q (.bl (!inV (tV x) (xs.map tV))) H
    rw [inV_tV]; exact q⟩
theorem cutL_init {α : Type} (l : List α) : cutL l none (some (-1)) = l.take (l.length - 1) := by
  have e : HT.sIx l.length l.length (some (-1)) = l.length - 1 := by
    show (if (-1 : Int) < 0 then ((-1 : Int) + (l.length : Int)).toNat else min (-1 : Int).toNat l.length) = _
    rw [if_pos (by decide)]
    omega
  unfold cutL
  rw [HT.sIx_none, e, List.drop_zero, Nat.sub_zero]
/-! slices of lists -/
section
variable {K : PySem.W.Frag} {H : Hp} {Q : VK} {a : Addr} {α : Type} {xs : List α} {i : Int}
theorem v_slLf (G : α → V) (hs : SqL K H a (xs.map G)) (h : 0 ≤ i) (q : ∀ p, H p = none → Q (.ref p) (upd H p (.lst ((xs.drop i.toNat).map G)))) : rSlL K (.ref a) (some i) none H Q :=
  ⟨a, _, rfl, hs, fun p hp => by
    rw [show cutV (xs.map G) (some i) none = cutL (xs.map G) (some i) none from rfl, cutL_from _ h, ← List.map_drop]
    exact q p hp⟩
theorem v_slLt (G : α → V) (hs : SqL K H a (xs.map G)) (h : 0 ≤ i) (q : ∀ p, H p = none → Q (.ref p) (upd H p (.lst ((xs.take i.toNat).map G)))) : rSlL K (.ref a) none (some i) H Q :=
  ⟨a, _, rfl, hs, fun p hp => by
    rw [show cutV (xs.map G) none (some i) = cutL (xs.map G) none (some i) from rfl, cutL_to _ h, ← List.map_take]
    exact q p hp⟩
theorem v_catL (G : α → V) {b : Addr} {ys : List α} (ha : H a = some (.lst (xs.map G))) (hb : H b = some (.lst (ys.map G))) (hz : xs.length + ys.length ≤ sizeLine) (q : ∀ p, H p = none → Q (.ref p) (upd H p (.lst ((xs ++ ys).map G)))) : rCat (.ref a) (.ref b) H Q :=
  ⟨a, b, _, _, rfl, rfl, ha, hb, by rw [List.length_map, List.length_map]; exact hz, fun p hp => by rw [← List.map_append]; exact q p hp⟩
theorem v_ixLlast (G : α → V) {v : α} (hs : SqL K H a ((xs ++ [v]).map G)) (q : Q (G v) H) : rIxL K (.ref a) (.int (-1)) H Q :=
  ⟨a, _, -1, _, rfl, rfl, hs, by rw [List.map_append]; exact atI_last _ _, q⟩
end
/-- t[:n] of a tuple, with what comes to the same in both cases -/
theorem v_slTt {K : PySem.W.Frag} {H : Hp} {Q : VK} {a : Addr} {α : Type} {xs : List α} (G : α → V) {n : Nat} (hs : SqT K H a (xs.map G)) (q1 : xs.length ≤ n → Q (.ref a) H) (q2 : n < xs.length → ∀ p, H p = none → Q (.ref p) (upd H p (.tup ((xs.take n).map G)))) : rSlA K (.ref a) none (some (n : Int)) H Q := by
  refine ⟨a, _, rfl, hs, fun h => q1 ?_, fun h p hp => ?_⟩
  · have h2 := h.2
    rw [sIx_nn (by omega), List.length_map] at h2
    omega
  · have e : cutV (xs.map G) none (some (n : Int)) = (xs.take n).map G := by
      rw [show cutV (xs.map G) none (some (n : Int)) = cutL (xs.map G) none (some (n : Int)) from rfl, cutL_to _ (by omega), ← List.map_take, Int.toNat_natCast]
    rw [e]
    refine q2 ?_ p hp
    rw [sIx_nn (by omega), List.length_map] at h
    have : HT.sIx (List.map G xs).length 0 none = 0 := rfl
    by_cases hx : n < xs.length
    · exact hx
    · exact absurd ⟨by rw [HT.sIx_none], by omega⟩ h
theorem v_catT1 {K : PySem.W.Frag} {H : Hp} {Q : VK} {a b : Addr} {xs ys : List V} (ha : SqT K H a xs) (hb : SqT K H b ys) (hx : xs ≠ []) (hy : ys ≠ []) (hz : xs.length + ys.length ≤ sizeLine) (q : ∀ p, H p = none → Q (.ref p) (upd H p (.tup (xs ++ ys)))) : rCatA K (.ref a) (.ref b) H Q :=
  ⟨a, b, xs, ys, rfl, rfl, ha, hb, hz, fun e => absurd e hx, fun _ e => absurd e hy, fun _ _ => q⟩
/-! ### a comprehension over a range whose items lay new objects -/
theorem lc_RS {σ : L2.St} {H : Hp} {tt : TT} {te : TE} {Q : VK} {lo : Int} {n j : Nat} (p : Nat → Bool) (f : Nat → V) (hn : n ≤ sizeLine)
    (ht : ∀ i H', i < n → Same H H' → ∀ Qb : Bool → Hp → Prop, Qb (p i) H' → tt ((σ.set j none).set j (some (.int (lo + (i : Int))))) H' Qb)
    (he : ∀ i H', i < n → p i = true → Same H H' → ∀ Qv : VK, (∀ H2, Same H' H2 → Qv (f i) H2) → te ((σ.set j none).set j (some (.int (lo + (i : Int))))) H' Qv)
    (hd : ∀ L H2, H L = none → Same H H2 → H2 L = some (.lst (((List.range n).filter p).map f)) → Q (.ref L) H2) : kLc (gName j) tt te [j] σ Q (Itr lo n) H := by
  intro L hL
  refine lc_range (fun i H' => Same H H' ∧ H' L = some (.lst (((List.range i).filter p).map f))) ⟨same_upd hL, upd_same⟩ ?_ (fun H' e => hd L H' hL e.1 e.2)
  rintro i H' hi ⟨sm, hLe⟩
  refine ⟨wipe_set, ht i _ hi sm _ ?_⟩
  have hlen : (((List.range i).filter p).map f).length < sizeLine := by
    rw [List.length_map]
    refine Nat.lt_of_le_of_lt (List.length_filter_le _ _) ?_
    rw [List.length_range]
    omega
  cases hp : p i with
  | true =>
    rw [if_pos rfl]
    refine he i _ hi hp sm _ fun H2 sm2 => ⟨_, sm2 _ _ hLe, hlen, fun b o e => ?_, ?_⟩
    · rw [upd_ne (ne_of_none e hL)]
      exact sm2 _ _ (sm _ _ e)
    · rw [upd_same, List.range_succ, List.filter_append, List.map_append]
      have : List.filter p [i] = [i] := by simp [hp]
      rw [this]
      rfl
  | false =>
    rw [if_neg Bool.false_ne_true]
    refine ⟨sm, ?_⟩
    rw [hLe, List.range_succ, List.filter_append, List.map_append]
    have : List.filter p [i] = [] := by simp [hp]
    rw [this]
    simp
end Sh

namespace Sh
open PySem PySem.Spec PyProof.Rows L2
/-! ### sets of texts -/
/-- the set at a has just the texts l, each once; its table can be walked -/
def SetX (P : Program) (w : World) (h : Heap) (a : Addr) (l : List Str) : Prop :=
  ∃ D : Froz.SD, h.get? a = some (Froz.sObj "set" D) ∧ Froz.TxOk P w D l ∧ l.Nodup ∧ l.length < scanBound ∧ Ris D.2.2.place.toList ∧
    (w.params.followText "set-order" = true ∨ D.2.2.led = true)
section
variable {P : Program} {w : World} {A : Around} {E : Value → Shared → Prop} {s : Shared} {a : Addr} {l : List Str}
theorem SetX.at {h h' : Heap} (R : SetX P w h a l) (k : ∀ o, h.get? a = some o → h'.get? a = some o) : SetX P w h' a l :=
  let ⟨D, ho, r⟩ := R
  ⟨D, k _ ho, r⟩
/-- the table behind an add is still in order -/
theorem tailTx_ris {ep : Nat} {es : Array (Int × Value)} {t : SetTable} {d : Bool} (r : Ris t.place.toList) : Ris (Froz.tailTx ep es t d).2.2.place.toList := by
  unfold Froz.tailTx
  split
  · exact relayAll_ris t es _
  · exact r
theorem tailTx_led {ep : Nat} {es : Array (Int × Value)} {t : SetTable} {d : Bool} : (Froz.tailTx ep es t d).2.2.led = t.led := by
  unfold Froz.tailTx
  split
  · exact relayAll_led t es _
  · rfl
theorem addTx_ris {D : Froz.SD} (v : Value) (n : Int) (r : Ris D.2.2.place.toList) : Ris (Froz.addTx n v D).2.2.place.toList := by
  refine tailTx_ris ?_
  have q := layNew_ris D.2.2 D.1 n v r
  split <;> exact q
theorem addTx_led {D : Froz.SD} (v : Value) (n : Int) : (Froz.addTx n v D).2.2.led = D.2.2.led := by
  refine tailTx_led.trans ?_
  have q := layNew_led D.2.2 D.1 n v
  split <;> exact q
/-- the member is there already: nothing changes -/
theorem add_again {D : Froz.SD} {k : Str} {u : Tok} {Q : Bool → Shared → Prop} (ho : s.heap.get? a = some (Froz.sObj "set" D)) (F : Froz.TxOk P w D l) (hb : l.length < scanBound) (hk : k ∈ l) (q : Q false s) :
    wpAny (model P w) A (setAddHashed a (.str k u) (hashStr w k)) Q E s := by
  obtain ⟨es, ep, t⟩ := D
  have hes : es.size < scanBound := by have z : es.size = l.length := F.sz; omega
  unfold setAddHashed setAddHashedIn
  refine wpAny_holding (wpAny_bind (wpAny_setState_of (es := es) (ep := ep) (t := t) ho rfl F.fit ?_))
  dsimp only
  rw [byScan_of (knd := strKind P w) rfl hes F.el, if_pos rfl]
  unfold setAddByScan
  refine wpAny_bind (wpAny_bind (wpAny_rule (wpAny_bind (wpAny_setScan_of (knd := strKind P w) (Froz.is_str k u) ho rfl F.fit F.el ?_))))
  cases hf : List.findIdx? (fun e => (strKind P w).is k e.2) es.toList with
  | some j => exact wpAny_pure (wpAny_pure q)
  | none =>
    obtain ⟨e, he, z⟩ := (F.mem k).mp hk
    rw [List.findIdx?_eq_none_iff.mp hf e he] at z
    exact absurd z Bool.false_ne_true
def insX (k : Str) (l : List Str) : List Str := if k ∈ l then l else k :: l
theorem insX_mem {k x : Str} : x ∈ insX k l ↔ x = k ∨ x ∈ l := by
  unfold insX
  split
  · rename_i h
    exact ⟨Or.inr, fun z => z.elim (fun e => e ▸ h) id⟩
  · exact List.mem_cons
theorem insX_len {k : Str} : (insX k l).length ≤ l.length + 1 := by
  unfold insX
  split
  · exact Nat.le_succ _
  · exact Nat.le_refl _
theorem setX_add {k : Str} {u : Tok} {Q : Bool → Shared → Prop} (R : SetX P w s.heap a l) (room : l.length + 1 < scanBound)
    (q : ∀ b h', Heap.SameBut a s.heap h' → SetX P w h' a (insX k l) → Q b { s with heap := h' }) : wpAny (model P w) A (setAddHashed a (.str k u) (hashStr w k)) Q E s := by
  obtain ⟨D, ho, F, nd, hb, hr, hl⟩ := R
  unfold insX at q
  by_cases hk : k ∈ l
  · simp only [if_pos hk] at q
    exact add_again ho F hb hk (q false s.heap (Heap.SameBut.refl a s.heap) ⟨D, ho, F, nd, hb, hr, hl⟩)
  · simp only [if_neg hk] at q
    refine Froz.add_x ho F hk room (q true _ (Heap.SameBut.update s.heap a _) ⟨_, Froz.get_upd _ ho rfl, Froz.add_ok u F, List.nodup_cons.mpr ⟨hk, nd⟩, room, addTx_ris _ _ hr, ?_⟩)
    rw [addTx_led]
    exact hl
theorem setX_typeIs (R : SetX P w s.heap a l) : s.TypeIs (.ref a) "set" := let ⟨_, ho, _⟩ := R; ⟨_, ho, rfl⟩
theorem setX_hash_add {k : Str} {u : Tok} {Q : Bool → Shared → Prop} (R : SetX P w s.heap a l) (room : l.length + 1 < scanBound)
    (q : ∀ b h', Heap.SameBut a s.heap h' → SetX P w h' a (insX k l) → Q b { s with heap := h', toks := s.toks + 1 }) : wpAny (model P w) A (setAdd a (.str k u)) Q E s := by
  unfold setAdd
  exact wpAny_holding (wpAny_bind ((strKind P w).pyHash (Froz.is_str k u) (setX_add (s := { s with toks := s.toks + 1 }) R room q)))
/-- found.add(x) -/
theorem setX_call_add {k : Str} {u : Tok} {Q : Value → Shared → Prop} (R : SetX P w s.heap a l) (room : l.length + 1 < scanBound)
    (q : ∀ h', Heap.SameBut a s.heap h' → SetX P w h' a (insX k l) → Q .none { s with heap := h', toks := s.toks + 1 }) : wpAny (model P w) A (call (.builtin "set.add") [.ref a, .str k u]) Q E s := by
  refine wpAny_call_entry F.slot_set_add (setX_typeIs R) F.entry_set_add ?_ (F.args_set_add_2 _ _)
  unfold Builtin.«set.add» Builtin.Frozenset.oneOther
  simp only [List.isEmpty_nil, bind_assoc]
  unfold Builtin.Frozenset.addrOf
  refine wpAny_bind (wpAny_pure ?_)
  try dsimp only
  refine wpAny_bind (wpAny_pure ?_)
  try dsimp only
  exact wpAny_bind (setX_hash_add R room fun b h' sb r => wpAny_pure ⟨_, rfl, q h' sb r⟩)
/-- a new one -/
theorem setX_fresh {h : Heap} (ho : h.get? a = some { cls := .type "set", dict := none, data := .set #[] 0 (.fresh 0 0 (!w.params.followText "set-order")) }) : SetX P w h a [] :=
  ⟨(#[], 0, .fresh 0 0 (!w.params.followText "set-order")), ho, Froz.TxOk.nil rfl, List.nodup_nil, by decide, List.Pairwise.nil, by
    show _ ∨ (!w.params.followText "set-order") = true
    cases w.params.followText "set-order"
    · exact .inr rfl
    · exact .inl rfl⟩
theorem perm_of_sub : ∀ (l zs : List Str), l.Nodup → (∀ x, x ∈ l → x ∈ zs) → zs.length ≤ l.length → l.Perm zs
  | [], zs, _, _, h => by
    cases zs with
    | nil => exact List.Perm.nil
    | cons => exact absurd h (by simp)
  | x :: l, zs, nd, sub, h => by
    obtain ⟨n1, n2⟩ := List.nodup_cons.mp nd
    have hx : x ∈ zs := sub x List.mem_cons_self
    have e := List.length_erase_of_mem hx
    rw [List.length_cons] at h
    have ih := perm_of_sub l (zs.erase x) n2 (fun y hy => (List.mem_erase_of_ne fun z => n1 (by rw [← z]; exact hy)).2 (sub y (List.mem_cons_of_mem _ hy))) (by omega)
    exact (ih.cons x).trans (List.perm_cons_erase hx).symm
/-- the texts of a set, in whatever order its table has them -/
theorem setX_vals {D : Froz.SD} (F : Froz.TxOk P w D l) (nd : l.Nodup) {vs : List Value} (p : vs.Perm (D.1.toList.map (·.2))) : ∃ zs, StrsAre vs zs ∧ zs.Perm l := by
  have key : ∀ us : List Value, (∀ u ∈ us, ∃ k t, u = Value.str k t ∧ k ∈ l) → ∃ zs, StrsAre us zs ∧ ∀ z ∈ zs, z ∈ l := by
    intro us
    induction us with
    | nil => exact fun _ => ⟨[], .nil, fun z hz => nomatch hz⟩
    | cons u us ih =>
      intro h
      obtain ⟨k, t, rfl, hk⟩ := h u List.mem_cons_self
      obtain ⟨zs, h1, h2⟩ := ih fun v hv => h v (List.mem_cons_of_mem _ hv)
      exact ⟨k :: zs, .cons k t h1, fun z hz => (List.mem_cons.mp hz).elim (fun e => e ▸ hk) (h2 z)⟩
  have isS : ∀ (k : Str) (u : Value), (strKind P w).is k u = true → ∃ t, u = .str k t := fun k u h => by
    cases u with
    | str x t =>
      have e : x = k := by
        have h' : Value.isStrOf k (.str x t) = true := h
        simpa [Value.isStrOf] using h'
      exact ⟨t, by rw [e]⟩
    | _ => exact absurd h Bool.false_ne_true
  obtain ⟨zs, h1, h2⟩ := key vs fun u hu => by
    obtain ⟨e, he, q⟩ := List.mem_map.mp (p.mem_iff.mp hu)
    obtain ⟨⟨k, hk, _⟩, _⟩ := F.el e he
    obtain ⟨t, et⟩ := isS k _ hk
    exact ⟨k, t, by rw [← q, et], (F.mem k).mpr ⟨e, he, hk⟩⟩
  refine ⟨zs, h1, ?_⟩
  have hlen : zs.length = l.length := by
    have q1 := h1.length
    have q2 := p.length_eq
    rw [List.length_map] at q2
    have q3 : D.1.toList.length = l.length := Array.length_toList.trans F.sz
    omega
  have sub : ∀ x, x ∈ l → x ∈ zs := fun k hk => by
    obtain ⟨e, he, z⟩ := (F.mem k).mp hk
    obtain ⟨t, et⟩ := isS k _ z
    have hm : Value.str k t ∈ vs := p.mem_iff.mpr (List.mem_map.mpr ⟨e, he, et⟩)
    have look : ∀ {us : List Value} {ys : List Str}, StrsAre us ys → Value.str k t ∈ us → k ∈ ys := by
      intro us ys r
      induction r with
      | nil => exact fun h => nomatch h
      | cons x t' _ ih =>
        intro h
        rcases List.mem_cons.mp h with e | h
        · cases e; exact List.mem_cons_self
        · exact List.mem_cons_of_mem _ (ih h)
    exact look h1 hm
  exact (perm_of_sub l zs nd sub (by omega)).symm
/-- sorted(found) -/
theorem setX_sorted {Q : Value → Shared → Prop} (R : SetX P w s.heap a l) (hh : A.handled = none)
    (q : ∀ s' p (out : Array Value) (c : Nat) (zs : List Str), (∀ b o, s.heap.get? b = some o → s'.heap.get? b = some o) → s'.gens = s.gens → s'.os = s.os → s.heap.objs.size ≤ p →
      s'.heap.get? p = some (seqObj "list" out c) → StrsAre out.toList zs → zs.Perm l → sortedS zs = true → Q (.ref p) s') :
    wpAny (model P w) A (call (.builtin "sorted") [.ref a]) Q E s := by
  obtain ⟨D, ho, F, nd, hb, hr, hl⟩ := R
  have hz0 : D.1.size < scanBound := by rw [F.sz]; exact hb
  refine Calls.call_function_entry kind_sorted plain_sorted entry_sorted (args_sorted1 _) ?_
  unfold Builtin.«sorted»
  refine wpAny_bind (m := checkCount "sorted" 1 1 _) (wpAny_pure (wpAny_bind (collect_set (A := A.in1) hh ⟨_, ho, rfl, rfl⟩ F.fit hz0 hr hl fun s1 vs k1 hz g1 o1 pm => ?_)))
  obtain ⟨zs, hS, hp⟩ := setX_vals F nd pm
  have hvl : vs.length ≤ sizeLine := by
    have e1 := hS.length
    have e2 := hp.length_eq
    have e3 : scanBound ≤ sizeLine := by decide
    omega
  refine wpAny_bind (wpAny_newList ?_ hvl)
  have hoL : (s1.heap.push (seqObj "list" vs.toArray 0)).get? s1.heap.objs.size = some (seqObj "list" vs.toArray 0) := Heap.get?_push_size _ rfl
  have e2 : wpAny (model P w) A.in1.in1 (Builtin.«list.sort» ⟨[.ref s1.heap.objs.size], []⟩) (fun r s2 => ∃ (out : Array Value) (ys : List Str), r = .done (.ret .none) ∧ s2 = { s1 with heap := sortedHeap (s1.heap.push (seqObj "list" vs.toArray 0)) s1.heap.objs.size vs out } ∧ StrsAre out.toList ys ∧ ys.Perm zs ∧ sortedS ys = true) E { s1 with heap := s1.heap.push (seqObj "list" vs.toArray 0) } := by
    refine list_sort_treeKAny strKind_oneLt (s := { s1 with heap := s1.heap.push (seqObj "list" vs.toArray 0) }) hoL hS.keysOf (fun v₁ v₂ rest e => keyKind_strs (by rw [← e]; exact hS)) hvl fun st' a1 a2 => ?_
    obtain ⟨ys, h1, h2, h3⟩ := sorted_out_str hS a1 a2
    exact ⟨_, ys, rfl, rfl, h1, h2, h3⟩
  refine wpAny_bind (wpAny_holding (wpAny_call_entry slot_list_sort ⟨_, hoL, rfl⟩ entry_list_sort (wpAny_mono e2 (fun r s2 h => ?_) fun _ _ e => e) (args_list_sort _)))
  obtain ⟨out, ys, rfl, rfl, h1, h2, h3⟩ := h
  obtain ⟨c, hc⟩ := sortedHeap_at (vs := vs) (out := out) hoL
  refine ⟨_, rfl, wpAny_pure ⟨_, rfl, q _ s1.heap.objs.size out c ys (fun b u e => ?_) g1 o1 hz hc h1 (h2.trans hp) h3⟩⟩
  have hlt := Heap.lt_size (k1 b u e)
  show (sortedHeap (s1.heap.push (seqObj "list" vs.toArray 0)) s1.heap.objs.size vs out).get? b = some u
  rw [sortedHeap_old (Nat.ne_of_lt hlt) (by rw [size_push']; exact Nat.lt_succ_of_lt hlt)]
  exact Heap.get?_push_of_some _ (k1 b u e)
end
/-! tracked -/
def SetXO (P : Program) (w : World) (a : Addr) (l : List Str) : HO := .ext fun h => SetX P w h a l
theorem setXO_new {P : Program} {w : World} {H : Hp} {h : Heap} {a : Addr} {l : List Str} (R : SetX P w h a l) : ObjOk P w H h a (SetXO P w a l) :=
  ⟨R, let ⟨_, ho, _⟩ := R; ⟨_, ho⟩, fun _ _ p k => SetX.at p k⟩
section
variable {X : Cx} {pins : List (Addr × Obj)} {σ : L2.St} {H : Hp} {s : Shared}
theorem setXO_get {a : Addr} {l : List Str} (I : Inv X pins σ H s) (ha : H a = some (SetXO X.prog X.w a l)) : SetX X.prog X.w s.heap a l := (I.hok a _ ha).1
theorem setXO_add {E : Value → Shared → Prop} {D : Addr} {l : List Str} {y : Str} {u : Tok} {Q : Value → Shared → Prop} (I : Inv X pins σ H s) (hD : H D = some (SetXO X.prog X.w D l)) (room : l.length + 1 < scanBound)
    (h : ∀ s', Inv X pins σ (upd H D (SetXO X.prog X.w D (insX y l))) s' → Q .none s') : wpAny (model X.prog X.w) X.A (call (.builtin "set.add") [.ref D, .str y u]) Q E s := by
  refine setX_call_add (setXO_get I hD) room fun h' sb new => h _ (I.write (e := D) (t' := s.toks + 1) (by rw [hD]; trivial) (.inl rfl) (fun b o hb ho => (sb.2 b hb).trans ho) ?_ (setXO_new new))
  obtain ⟨_, ho, _⟩ := new
  exact ⟨_, ho⟩
/-- sorted of a set of texts -/
def rSortSX (P : Program) (w : World) : List V → Hp → VK → Prop := fun vs H Q => ∃ (a : Addr) (l : List Str), vs = [V.ref a] ∧ H a = some (SetXO P w a l) ∧ ∀ (ys : List (List Nat)) (p : Addr), ys.Pairwise (fun a b : List Nat => a ≤ b) → ys.Nodup → (∀ y, y ∈ ys ↔ S y ∈ l) → ys.length = l.length → H p = none → Q (.ref p) (upd H p (.lst (ys.map tV)))
theorem cr_sortSX (hc : X.calm = true) : CallR X (.builtin "sorted") (rSortSX X.prog X.w) := by
  intro pins s σ H vs us Q I r h
  obtain ⟨a, l, rfl, ha, q⟩ := h
  rw [Vals.ref1 r]
  have R := setXO_get I ha
  have nd : l.Nodup := by obtain ⟨_, _, _, nd, _⟩ := R; exact nd
  have hb : l.length < scanBound := by obtain ⟨_, _, _, _, hb, _⟩ := R; exact hb
  refine setX_sorted R (I.ok.hd hc) fun s' p out c zs k g o hp hs hS pm hso => ?_
  have hpn := I.hok.fresh hp
  have nz : zs.Nodup := pm.nodup_iff.mpr nd
  have e2 : zs.length = l.length := pm.length_eq
  have hlen : (zs.map V.str).length ≤ sizeLine := by
    rw [List.length_map, e2]
    have e3 : scanBound ≤ sizeLine := by decide
    omega
  have q2 := q (zs.map (·.cps.toList)) p (sorted_le _ (by rw [map_S_inv]; exact hso)) (by
    refine List.pairwise_map.mpr (nz.imp fun {a b} hne e => hne ?_)
    rw [S_of a, S_of b, e]) (fun y => by
    rw [List.mem_map]
    constructor
    · rintro ⟨z, hz, rfl⟩
      rw [← S_of]
      exact pm.mem_iff.mp hz
    · exact fun hy => ⟨S y, pm.mem_iff.mpr hy, S_list y⟩) (by rw [List.length_map]; exact e2) hpn
  rw [tV_map, map_S_inv] at q2
  obtain ⟨h', g', d', t', o'⟩ := s'
  have hg : g' = s.gens := g
  have ho : o' = s.os := o
  subst hg ho
  have I1 : Inv X pins σ (upd H p (.lst (zs.map V.str))) { s with heap := h', toks := t' } := I.laid (t' := t') k hp ⟨hlen, out.toList, c, vals_of_strs hS, hs⟩
  exact ⟨.ref p, _, I1.call' (ch := []) rfl (Un.kept fun _ _ e => e) I1.hok I1.bare (fun _ z => nomatch z), rfl, q2⟩
end
end Sh

namespace Sh
open PySem PySem.Spec PyProof.Rows L2
/-! ### {elt for tg in iter for tg1 in iter1}, elt a text -/
section
variable {P : Program} {w : World} {elt t0 i0 t1 i1 : Expr} {scope : Scope} {pos : Pos} {it acc : Value} {env : Env}
abbrev scE (elt t0 i0 t1 i1 : Expr) (scope : Scope) (pos : Pos) : Expr := .SetComp elt [⟨t0, i0, [], 0⟩, ⟨t1, i1, [], 0⟩] scope pos
theorem sc_turn0 : compTurn (scE elt t0 i0 t1 i1 scope pos) 0 it acc env = (do
    standAt i0.pos
    let r ← pyNext it
    match r with
    | none => pure (.done .next)
    | some v =>
      letOwnedTupleGo t0 it v
      assign t0 env v
      let x ← eval i1 env
      standAt i1.pos
      let y ← foldedSetIterable i1 env x
      let it1 ← holding [y] (pyIter y)
      let _ ← runOwn (.compStart (scE elt t0 i0 t1 i1 scope pos) 1 it1 acc env) env
      again (.compLoop (scE elt t0 i0 t1 i1 scope pos) 0 it acc env)) := by rfl
theorem sc_turn1 : compTurn (scE elt t0 i0 t1 i1 scope pos) 1 it acc env = (do
    standAt i1.pos
    let r ← pyNext it
    match r with
    | none => pure (.done .next)
    | some v =>
      letOwnedTupleGo t1 it v
      assign t1 env v
      (do let x ← eval elt env
          standAt elt.pos
          let _ ← call (.builtin "set.add") [acc, x])
      again (.compLoop (scE elt t0 i0 t1 i1 scope pos) 1 it acc env)) := by rfl
/-- a clause's start, the iterator being its own -/
theorem sc_start {A : Around} {R : Result → Shared → Prop} {s : Shared} {n : Nat} (hn : n = 0 ∨ n = 1) (h0 : codeAny (model P w) A (.compLoop (scE elt t0 i0 t1 i1 scope pos) n it acc env) R s)
    (h1 : ∀ (Q : Value → Shared → Prop) (E : Value → Shared → Prop), Q it s → wpAny (model P w) A (pyIter it) Q E s) : codeAny (model P w) A (.compStart (scE elt t0 i0 t1 i1 scope pos) n it acc env) R s := by
  refine codeAny_of_tree ?_
  show wpAny _ _ ((compStart (scE elt t0 i0 t1 i1 scope pos) n it acc env).onRaise (fun x => do noteFrame x env; standAt theWindowsPlace)) _ _ s
  refine wpAny_notedAt ?_
  unfold compStart
  rcases hn with rfl | rfl
  all_goals
    refine wpAny_bind (m := ask) (wpAny_askSetting (wpAny_ite ?_))
    split
    · first
        | exact wpAny_bind (wpAny_pure (wpAny_pure ⟨rfl, h0⟩))
        | exact wpAny_pure ⟨rfl, h0⟩
    · refine wpAny_bind (wpAny_rule ?_)
      first
        | exact wpAny_bind (wpAny_standAt (wpAny_bind (h1 _ _ (wpAny_pure ⟨rfl, h0⟩))))
        | (show wpAny _ _ (standAt i0.pos >>= _) _ _ s; exact wpAny_bind (wpAny_standAt (wpAny_bind (h1 _ _ (wpAny_pure ⟨rfl, h0⟩)))))
        | (show wpAny _ _ (standAt i1.pos >>= _) _ _ s; exact wpAny_bind (wpAny_standAt (wpAny_bind (h1 _ _ (wpAny_pure ⟨rfl, h0⟩)))))
end
/-- the reading: O i is true of the heap when i items of the first source are done, O1 j when j of the second are -/
def tSc2 (P : Program) (w : World) (wi : TI) (g : TG) (wi1 : TI) (g1 : TG) (te : TE) (vs vs1 : List Nat) : TE := fun σ H Q => wi σ H fun J H1 => ∀ D, H1 D = none → ∃ (N : Nat) (O : Nat → Hp → Prop), O 0 (upd H1 D (SetXO P w D [])) ∧
  ∀ i H, O i H → (J.stop i H ∧ Q (.ref D) H) ∨ (i < N ∧ J.go i H ∧ ∀ x H', J.yld i H x H' → g x (wipe σ vs) H' fun σ2 H2 => wipe σ2 vs = wipe σ vs ∧ wi1 σ2 H2 fun J1 H4 => ∃ (N1 : Nat) (O1 : Nat → Hp → Prop), O1 0 H4 ∧
    ∀ j H, O1 j H → (J1.stop j H ∧ O (i + 1) H) ∨ (j < N1 ∧ J1.go j H ∧ ∀ x H', J1.yld j H x H' → g1 x (wipe σ2 vs1) H' fun σ3 H5 => wipe σ3 vs1 = wipe σ2 vs1 ∧
      te σ3 H5 fun y H7 => ∃ z l, y = .str z ∧ H7 D = some (SetXO P w D l) ∧ l.length + 1 < scanBound ∧ O1 (j + 1) (upd H7 D (SetXO P w D (insX z l)))))
section
variable {X : Cx} {elt t0 i0 t1 i1 : Expr} {scope : Scope} {pos : Pos} {own : List (Str × Nat)} {vs1 : List Nat} {wi wi1 : TI} {g g1 : TG} {te : TE}
theorem pe_sc2 (hc : X.calm = true) (hN : X.N.Nodup) (ok : BlkOk X.N X.env.scope scope own) (hv : ∀ i ∈ vs1, i ∈ own.map (·.2)) (hi : PI X t0 i0 wi)
    (hg : ∀ s H C cl fp, PG (X.blk s H scope (compEnvC scope cl C X.env) fp) t0 g) (hi1 : ∀ s H C cl fp, PI (X.blk s H scope (compEnvC scope cl C X.env) fp) t1 i1 wi1)
    (hg1 : ∀ s H C cl fp, PG (X.blk s H scope (compEnvC scope cl C X.env) fp) t1 g1) (he : ∀ s H C cl fp, PE (X.blk s H scope (compEnvC scope cl C X.env) fp) elt te)
    (hs : ∀ x, foldedSetIterable i0 X.env x = pure x := by intro _; rfl) (hs1 : ∀ env x, foldedSetIterable i1 env x = pure x := by intro _ _; rfl) :
    PE X (scE elt t0 i0 t1 i1 scope pos) (tSc2 X.prog X.w wi g wi1 g1 te (own.map (·.2)) vs1) := by
  refine ⟨fun pins s σ H Q I h => ?_⟩
  have hcl : ∀ y ∈ scope.names, y.2 = .free → ∃ c, X.env.cells.lookup y.1 = some c := fun y hy e => (ok.free y hy e).elim (fun k => I.ok.has _ (.inl k)) (fun k => I.ok.has _ (.inr k))
  show wpAny _ _ (comprehension _ scope X.env _ (newSet (.type "set")) false (eval i0 X.env)) _ _ _
  refine wpAny_comprehension_free (use := none) rfl hs (closure_ok hcl) ok.kind (fun y hy e => by rw [ok.uniq y hy, e]) (thn (hi.run pins s σ H _ I h) fun xv s1 h1 => thn h1 fun itv s2 h2 => ?_)
  obtain ⟨it, fp, tn, J, H2, rfl, I2, T, st2, f2, q⟩ := h2
  refine wpAny_newSet_raw fun led hled => newEnv_comp ?_
  subst hled
  -- the new set, at D
  generalize hD : s2.heap.objs.size = D
  have hDn : H2 D = none := I2.hok.fresh (Nat.le_of_eq hD)
  obtain ⟨N, O, o0, step⟩ := q D hDn
  generalize hp3 : s2.heap.push { cls := .type "set", dict := none, data := .set #[] 0 (.fresh 0 0 (!X.w.params.followText "set-order")) } = p3
  have grow : ∀ b o, s2.heap.get? b = some o → p3.get? b = some o := fun b o e => by rw [← hp3]; exact Heap.get?_push_of_some _ e
  have hz3 : p3.objs.size = D + 1 := by rw [← hp3, Heap.size_push, hD]
  have new : SetX X.prog X.w p3 D [] := setX_fresh (by rw [← hp3, ← hD]; exact Heap.get?_push_size _ rfl)
  have I3 : Inv X pins σ (upd H2 D (SetXO X.prog X.w D [])) { s2 with heap := p3 } := I2.laid (t' := s2.toks) grow (Nat.le_of_eq hD) (setXO_new new)
  have small : ∀ b ∈ fp, b < D := fun b hb => by
    obtain ⟨o, e, _⟩ := T.obj _ _ st2 b hb
    rw [← hD]
    exact Heap.lt_size e
  have f3 : ∀ b ∈ fp, FpOk X pins (upd H2 D (SetXO X.prog X.w D [])) b ∧ b < ({ s2 with heap := p3 } : Shared).heap.objs.size := fun b hb =>
    ⟨⟨by rw [upd_ne (Nat.ne_of_lt (small b hb))]; exact (f2 b hb).1, (f2 b hb).2⟩, by rw [show ({ s2 with heap := p3 } : Shared).heap.objs.size = D + 1 from hz3]; exact Nat.lt_succ_of_lt (small b hb)⟩
  have I4 := block_start I3 ok hN f3
  have st4 : tn 0 (pushCells (p3.push { cls := .type "dict", data := .dict #[] }) scope.names) := T.keep _ _ _ st2 fun b _ o e => pushCells_keeps _ _ _ _ (Heap.get?_push_of_some _ (grow b o e))
  generalize hH3 : upd H2 D (SetXO X.prog X.w D []) = H3 at I3 I4 f3 o0
  generalize hs3 : ({ s2 with heap := p3 } : Shared) = s3 at I3 I4 f3
  have e3 : s3.heap = p3 := by rw [← hs3]
  generalize hcell : cellsFrom (s3.heap.objs.size + 1) scope.names (cloFrom X.env.cells scope.names []) = cl at I4
  have pg := hg s3 H3 s3.heap.objs.size cl fp
  have pi1 := hi1 s3 H3 s3.heap.objs.size cl fp
  have pg1 := hg1 s3 H3 s3.heap.objs.size cl fp
  have pe := he s3 H3 s3.heap.objs.size cl fp
  have nfp : ∀ b ∈ fp, H3 b = none := fun b hb => (f3 b hb).1.1
  generalize hC : s3.heap.objs.size = C at I4 pg pi1 pg1 pe hcell
  show codeAny _ _ (.compStart (scE elt t0 i0 t1 i1 scope pos) 0 (.ref it) (.ref D) (compEnvC scope cl C X.env)) (compPost (model X.prog X.w) X.A X.xe none (EP X pins σ Q) (.ref D) C) { s3 with heap := pushCells (s3.heap.push { cls := .type "dict", data := .dict #[] }) scope.names }
  rw [← e3] at st4
  generalize hs4 : ({ s3 with heap := pushCells (s3.heap.push { cls := .type "dict", data := .dict #[] }) scope.names } : Shared) = s4 at I4
  have st4 : tn 0 s4.heap := by rw [← hs4]; exact st4
  have loc : (compEnvC scope cl C X.env).locals = C := rfl
  generalize compEnvC scope cl C X.env = ce at I4 pg pi1 pg1 pe loc
  have stat : ∀ {σ' : L2.St} {H' : Hp} {s' : Shared}, Inv (X.blk s3 H3 scope ce fp) [] σ' H' s' → (∀ b ∈ fp, H' b = none) → ∀ b ∈ fp, FpOk (X.blk s3 H3 scope ce fp) [] H' b := fun {σ' H' s'} I' hn b hb =>
    ⟨hn b hb, (I'.ok.exf b hb).1, I'.ok.exfs b hb, .inl hb, fun x c e => (I'.ok.exf b hb).2 x c e, fun p hp => nomatch (show p ∈ ([] : List (Addr × Obj)) from hp)⟩
  refine sc_start (.inl rfl) ?_ fun Q E q => T.self X.A 0 s4 Q E st4 q
  refine codeAny_loop rfl (fun n s' => ∃ i H', n = N - i ∧ Inv (X.blk s3 H3 scope ce fp) [] (wipe σ (own.map (·.2))) H' s' ∧ tn i s'.heap ∧ (∀ b ∈ fp, H' b = none) ∧ O i H') (fun n s5 hI => ?_) N ⟨0, H3, rfl, I4, st4, nfp, o0⟩
  obtain ⟨i, H5, rfl, I5, st5, n5, o5⟩ := hI
  show wpAny _ X.A ((compTurn (scE elt t0 i0 t1 i1 scope pos) 0 (.ref it) (.ref D) ce).onRaise (fun x => do noteFrame x ce; theTreesLotGoes x)) _ _ s5
  refine wpAny_noted ?_
  rw [sc_turn0]
  refine wpAny_bind (wpAny_standAt (wpAny_bind ?_))
  rcases step i H5 o5 with ⟨stop, qq⟩ | ⟨hlt, go, body⟩
  · refine thnF (T.done (X.blk s3 H3 scope ce fp) rfl rfl rfl hc i [] s5 _ H5 (fun _ _ => False) I5 (stat I5 n5) st5 stop) fun r s6 ⟨hr, I6⟩ => ?_
    subst hr
    refine wpAny_pure ?_
    -- the block is left
    have I7 : Inv X pins σ H5 s6 := I3.call' (ch := fp) I6.os I6.base I6.hok I6.bare fun b hb => let z := (f3 b hb).1; ⟨z.2.2.2.1, z.2.1, z.2.2.2.2.1, z.2.2.2.2.2⟩
    have nC : H5 C = none := by rw [← loc]; exact I6.free
    obtain ⟨m, hn, _⟩ := I6.loc
    have hn' : s6.heap.Ns C m := by rw [← loc]; exact hn
    obtain ⟨y0, y1, y2, y3, y4, y5⟩ := I3.fpOk (Nat.le_of_eq hC) nC
    exact ⟨m, hn', fun h' sb => ⟨.ref D, H5, I7.turned (t' := s6.toks) (fun b o hb e => (sb.2 b hb).trans e) y0 y1 y3 y4 y5, rfl, qq⟩⟩
  · refine thnF (T.item (X.blk s3 H3 scope ce fp) rfl rfl rfl hc i [] s5 _ H5 (fun _ _ => False) I5 (stat I5 n5) st5 go) fun r s6 ⟨u, hr, h6⟩ => ?_
    subst hr
    refine wpAny_bind (thnF h6 fun _ s7 ⟨x, H7, I7, r7, y7, st7, n7⟩ => ?_)
    have P7 := I7.pinned (stat I7 n7) (T.obj _ _ st7)
    refine wpAny_bind (thnF (pg.run _ s7 _ H7 x u _ P7 r7 (body x H7 y7)) fun _ s8 ⟨σ8, H8, I8, hw8, q8⟩ => ?_)
    refine wpAny_bind (thnF (pi1.run _ s8 σ8 H8 _ I8 q8) fun xv s9 h9 => wpAny_bind (wpAny_standAt (wpAny_bind (wpAny_of_eq (hs1 ce xv) (wpAny_bind (wpAny_holding (thnF h9 fun itv s10 h10 => ?_)))))))
    obtain ⟨it1, fp1, tn1, J1, H10, rfl, I10, T1, st10, f10, N1, O1, o1, step1⟩ := h10
    have kept : ∀ {σ9 : L2.St} {s' : Shared} {H' : Hp}, Inv (X.blk s3 H3 scope ce fp) ([] ++ pinsAt fp s7.heap) σ9 H' s' → ∀ b ∈ fp, ∀ o, s7.heap.get? b = some o → s'.heap.get? b = some o ∧ H' b = none := fun {σ9 s' H'} I' b hb o e =>
      let z := I'.pin (b, o) (List.mem_append_right _ (List.mem_append_right _ (mem_pinsAt hb e)))
      ⟨z.1, z.2.1⟩
    have below : ∀ (j : Nat) v, (wipe σ (own.map (·.2)))[j]? = some (some v) → (wipe σ8 vs1)[j]? = some (some v) := fun j v e => by
      rw [← hw8] at e
      obtain ⟨e1, e2⟩ := wipe_some e
      rw [wipe_out fun z => e2 (hv j z)]
      exact e1
    have inner : codeAny (model X.prog X.w) X.A (.compStart (scE elt t0 i0 t1 i1 scope pos) 1 (.ref it1) (.ref D) ce) (fun r s' => match r with
        | .ok _ => ∃ m, m < N - i ∧ ∃ i H', m = N - i ∧ Inv (X.blk s3 H3 scope ce fp) [] (wipe σ (own.map (·.2))) H' s' ∧ tn i s'.heap ∧ (∀ b ∈ fp, H' b = none) ∧ O i H'
        | .error _ => False) s10 := by
      refine sc_start (.inr rfl) ?_ fun Q E q => T1.self X.A 0 s10 Q E st10 q
      refine codeAny_loop rfl (fun n s' => ∃ j H', n = N1 - j ∧ Inv (X.blk s3 H3 scope ce fp) ([] ++ pinsAt fp s7.heap) (wipe σ8 vs1) H' s' ∧ tn1 j s'.heap ∧ (∀ b ∈ fp1, H' b = none) ∧ O1 j H') (fun n s11 hI => ?_) N1
        ⟨0, H10, rfl, I10.weak (wipe_length _ _) (fun j v e => (wipe_some e).1), st10, fun b hb => (f10 b hb).1, o1⟩
      obtain ⟨j, H11, rfl, I11, st11, n11, o11⟩ := hI
      have stat1 : ∀ b ∈ fp1, FpOk (X.blk s3 H3 scope ce fp) ([] ++ pinsAt fp s7.heap) H11 b := fun b hb => ⟨n11 b hb, (f10 b hb).2⟩
      show wpAny _ X.A ((compTurn (scE elt t0 i0 t1 i1 scope pos) 1 (.ref it1) (.ref D) ce).onRaise (fun x => do noteFrame x ce; theTreesLotGoes x)) _ _ s11
      refine wpAny_noted ?_
      rw [sc_turn1]
      refine wpAny_bind (wpAny_standAt (wpAny_bind ?_))
      rcases step1 j H11 o11 with ⟨stop1, onward⟩ | ⟨hlt1, go1, body1⟩
      · refine thnF (T1.done (X.blk s3 H3 scope ce fp) rfl rfl rfl hc j _ s11 (wipe σ8 vs1) H11 (fun _ _ => False) I11 stat1 st11 stop1) fun r s12 ⟨hr, I12⟩ => ?_
        subst hr
        refine wpAny_pure ⟨N - (i + 1), by omega, i + 1, H11, rfl, (I12.unpinned (pins := [])).weak (by rw [← hw8, wipe_length, wipe_length]) below, T.keep _ _ _ st7 fun b hb o e => (kept I12 b hb o e).1, fun b hb => ?_, onward⟩
        obtain ⟨o, e, _⟩ := T.obj _ _ st7 b hb
        exact (kept I12 b hb o e).2
      · refine thnF (T1.item (X.blk s3 H3 scope ce fp) rfl rfl rfl hc j _ s11 (wipe σ8 vs1) H11 (fun _ _ => False) I11 stat1 st11 go1) fun r s12 ⟨u1, hr, h12⟩ => ?_
        subst hr
        refine wpAny_bind (thnF h12 fun _ s13 ⟨x1, H13, I13, r13, y13, st13, n13⟩ => ?_)
        have P13 := I13.pinned (fun b hb => ⟨n13 b hb, (f10 b hb).2⟩) (T1.obj _ _ st13)
        refine wpAny_bind (thnF (pg1.run _ s13 (wipe σ8 vs1) H13 x1 u1 _ P13 r13 (body1 x1 H13 y13)) fun _ s14 ⟨σ14, H14, I14, hw14, q14⟩ => ?_)
        refine wpAny_bind (wpAny_bind (thnF (pe.run _ s14 σ14 H14 _ I14 q14) fun v s15 ⟨yv, H15, I15, r15, z, l, ez, hD15, room, o15⟩ => ?_))
        subst ez
        obtain ⟨tz, rfl⟩ := r15
        refine wpAny_bind (wpAny_standAt ?_)
        refine wpAny_bind (setXO_add (X := X.blk s3 H3 scope ce fp) I15 hD15 room fun s16 I16 => ?_)
        refine wpAny_pure (wpAny_pure ⟨rfl, ?_⟩)
        have pin1 : ∀ b ∈ fp1, ∀ o, s13.heap.get? b = some o → s16.heap.get? b = some o ∧ (upd H15 D (SetXO X.prog X.w D (insX z l))) b = none := fun b hb o e =>
          let y := I16.pin (b, o) (List.mem_append_right _ (List.mem_append_right _ (mem_pinsAt hb e)))
          ⟨y.1, y.2.1⟩
        refine ⟨N1 - (j + 1), by omega, j + 1, _, rfl, I16.unpinned.weak (by rw [← hw14, wipe_length]) (fun j v e => by rw [← hw14] at e; exact (wipe_some e).1), T1.keep _ _ _ st13 fun b hb o e => (pin1 b hb o e).1, fun b hb => ?_, o15⟩
        obtain ⟨o, e, _⟩ := T1.obj _ _ st13 b hb
        exact (pin1 b hb o e).2
    refine wpAny_bind (wpAny_runOwn ?_)
    rw [Around.mark_none]
    refine codeAny_mono inner fun r s' hr => ?_
    cases r with
    | ok f => first | exact wpAny_pure ⟨rfl, hr⟩ | exact wpAny_bind (wpAny_pure (wpAny_pure ⟨rfl, hr⟩))
    | error e => exact hr.elim
end
end Sh

namespace Sh
open PySem PySem.Spec PyProof.Rows L2
/-! ### set(xs), xs a list of texts -/
/-- the set without members, as it is laid -/
def bareSet (w : World) : Obj := { cls := .type "set", dict := none, data := .set #[] 0 (.fresh 0 0 (!w.params.followText "set-order")) }
section
variable {P : Program} {w : World} {A : Around} {E : Value → Shared → Prop} {s : Shared}
/-- what the set knows when i of the texts are in it -/
def Fed (P : Program) (w : World) (h : Heap) (D : Addr) (xs : List Str) (i : Nat) : Prop := ∃ l, SetX P w h D l ∧ l.length ≤ i ∧ ∀ x, x ∈ l ↔ x ∈ xs.take i
theorem Fed.at {h h' : Heap} {D : Addr} {xs : List Str} {i : Nat} (F : Fed P w h D xs i) (k : ∀ o, h.get? D = some o → h'.get? D = some o) : Fed P w h' D xs i :=
  let ⟨l, R, r⟩ := F
  ⟨l, R.at k, r⟩
theorem feed {I D : Addr} {fp wr : List Addr} {G : Array GenState → Array GenState → Prop} {Pv : Nat → Value → Prop} {St : Nat → Shared → Prop} {R : Result → Shared → Prop} {xs : List Str}
    (W : WalksS P w A.in1 I fp wr G xs.length Pv St) (hD : D ∉ fp) (hb : xs.length + 1 < scanBound) (hv : ∀ i v, Pv i v → ∃ x t, xs[i]? = some x ∧ v = .str x t) :
    ∀ (k i : Nat) (s : Shared), i + k = xs.length → St i s → Fed P w s.heap D xs i → (∀ s', Moved (D :: wr) G s s' → Fed P w s'.heap D xs xs.length → R (.ok (.ret .none)) s') →
      codeAny (model P w) A (.builtin "set.update.loop" ⟨[.ref D, .ref I], []⟩) R s := by
  have out : D ∉ wr := fun h => hD (W.sub _ h)
  have wider : ∀ b ∈ wr, b ∈ D :: wr := fun b hb => List.mem_cons_of_mem _ hb
  intro k
  induction k with
  | zero =>
    intro i s hi st fd q
    obtain rfl : i = xs.length := hi
    refine codeAny_builtin F.entry_set_update_loop ?_
    rw [Around.under_plainId F.plain_set_update_loop _]
    refine wpAny_bind (m := pyNext (.ref I)) (W.done s _ _ st fun s' mv => ?_)
    exact wpAny_pure (q s' (mv.mono wider) (fd.at fun o e => mv.heap D o out e))
  | succ k ih =>
    intro i s hi st fd q
    refine codeAny_builtin F.entry_set_update_loop ?_
    rw [Around.under_plainId F.plain_set_update_loop _]
    refine wpAny_bind (m := pyNext (.ref I)) (W.item i s _ _ (by omega) st fun v s1 pv st1 mv => ?_)
    obtain ⟨x, t, hx, rfl⟩ := hv i v pv
    obtain ⟨l, R1, hl, hm⟩ := fd.at (h' := s1.heap) fun o e => mv.heap D o out e
    refine wpAny_bind (m := holding [Value.str x t] (setAdd D (.str x t))) (wpAny_holding (setX_hash_add R1 (by omega) fun b h' sb R2 => ?_))
    have old : ∀ b ∈ fp, ∀ o, s1.heap.get? b = some o → h'.get? b = some o := fun b hb o e => (sb.2 b fun z => hD (z ▸ hb)).trans e
    refine wpAny_pure ⟨plainId_quiet F.plain_set_update_loop _, ih (i + 1) _ (by omega) (W.frame _ s1 _ _ st1 (Nat.le_succ _) old) ⟨_, R2, ?_, fun y => ?_⟩ fun s' mv' F' => q s' (Moved.trans W.gtrans ((mv.mono wider).then_heap (Nat.le_succ _) fun b o hb e => ?_) mv') F'⟩
    · have := insX_len (k := x) (l := l)
      omega
    · rw [insX_mem, hm y, List.take_add_one, hx, List.mem_append]
      show _ ↔ _ ∨ y ∈ [x]
      rw [List.mem_singleton]
      exact Or.comm
    · exact (sb.2 b fun z => hb (z ▸ List.mem_cons_self)).trans e
theorem set_newcode (a : Value) {Q₁ : Value → Shared → Prop} (q : Q₁ (.ref s.heap.objs.size) { s with heap := s.heap.push (bareSet w) }) :
    codeAny (model P w) A (.call (.builtin "set.__new__") ⟨[.type "set", a], []⟩) (wants Q₁ E) s := code_set_led1 a q
/-- set(xs) -/
theorem set_of_list {a : Addr} {its : Array Value} {xs : List Str} {Q : Value → Shared → Prop} (hh : A.handled = none) (hl : s.heap.IsList a its) (hS : StrsAre its.toList xs) (hb : xs.length + 1 < scanBound)
    (q : ∀ h' tk, Fed P w h' s.heap.objs.size xs xs.length → (∀ b o, s.heap.get? b = some o → h'.get? b = some o) → Q (.ref s.heap.objs.size) { s with heap := h', toks := tk }) :
    wpAny (model P w) A (call (.type "set") [.ref a]) Q E s := by
  have hsz : its.size = xs.length := by rw [← Array.length_toList]; exact hS.length
  obtain ⟨c, tl, mro⟩ := F.called_set.mro
  have made := F.called_set.made
  have sub := F.called_set.sub
  refine wpAny_call (codeAny_of_tree (show wpAny _ _ (callAny (.type "set") _) _ _ _ from wpAny_pure ⟨Code.quiet_builtin _ (by decide +kernel), codeAny_builtin F.entry_type_call ?_⟩))
  rw [Around.under_plain (weight_type_call_type "set" [.ref a] []) rfl]
  have t1 := F.called_set.notType
  have t2 := F.called_set.canCreate
  have t3 := F.typeCall_set_1 (.ref a)
  repeat (any_goals (first | assumption | wp_step))
  refine codeAny_mono (set_newcode (.ref a) (E := E) (Q₁ := fun v s1 => v = .ref s.heap.objs.size ∧ s1 = { s with heap := s.heap.push (bareSet w) }) ⟨rfl, rfl⟩) fun r s1 hr => ?_
  cases r with
  | error e => exact hr
  | ok fl =>
    cases fl with
    | ret v =>
      obtain ⟨rfl, rfl⟩ := hr
      generalize hp : s.heap.push (bareSet w) = p
      have new : p.get? s.heap.objs.size = some (bareSet w) := by rw [← hp]; exact Heap.get?_push_size _ rfl
      have psz : p.objs.size = s.heap.objs.size + 1 := by rw [← hp, Heap.size_push]
      have grow : ∀ b o, s.heap.get? b = some o → p.get? b = some o := fun b o e => by rw [← hp]; exact Heap.get?_push_of_some _ e
      have isSet : Shared.TypeIs { s with heap := p } (.ref s.heap.objs.size) "set" := ⟨_, new, rfl⟩
      have i1 := F.called_set.init.lookup
      have i2 := F.called_set.init.bind (.ref s.heap.objs.size)
      repeat (any_goals (first | assumption | wp_step))
      refine codeAny_mono (codeAny_call_builtin (R := wants (fun r s2 => r = .none ∧ ∃ h' tk, s2 = { s with heap := h', toks := tk } ∧ Fed P w h' s.heap.objs.size xs xs.length ∧ ∀ b o, s.heap.get? b = some o → h'.get? b = some o) E)
        F.called_set.init.plain F.entry_set_init (check_set_init_1 isSet ?_)) fun r2 s2 hr2 => ?_
      · obtain ⟨⟨oc, od, ot, os⟩, ho, hc, nl, hd⟩ := hl
        obtain rfl : oc = .type "list" := hc
        obtain rfl : ot = .seq its nl := hd
        have ho' := grow _ _ ho
        have k1 := F.sub_list_set
        have k2 := F.sub_list_frozenset
        have k3 : (Value.type "list" == Value.type "dict") = false := by decide
        have lp : p.IsList a its := ⟨_, ho', rfl, nl, rfl⟩
        unfold Builtin.«set.__init__» noKeywords Builtin.Frozenset.updateFrom
        generalize hnx : pyIter = NX
        wp_walk
        subst hnx
        refine wpAny_pyIter_list lp (wpAny_bind (wpAny_runValue ?_))
        have lt : a < s.heap.objs.size := Heap.lt_size ho
        have ne1 : a ≠ p.objs.size := by rw [psz]; exact Nat.ne_of_lt (Nat.lt_succ_of_lt lt)
        have ne2 : s.heap.objs.size ∉ [p.objs.size, a] := by
          intro z
          rw [psz] at z
          rcases List.mem_cons.mp z with z | z
          · exact Nat.ne_of_lt (Nat.lt_succ_self _) z
          · exact Nat.ne_of_gt lt (List.mem_singleton.mp z)
        have val : ∀ (i : Nat) (v : Value), its[i]? = some v → ∃ x t, xs[i]? = some x ∧ v = .str x t := fun i v hv => by
          have lti : i < xs.length := by rw [← hsz]; exact (Array.getElem?_eq_some_iff.mp hv).1
          obtain ⟨t, e⟩ := SS.strs_at hS i v (by rw [Array.getElem?_toList]; exact hv)
          exact ⟨xs[i], t, List.getElem?_eq_getElem lti, by rw [e, List.getD_eq_getElem?_getD, List.getElem?_eq_getElem lti]; rfl⟩
        have W := (Walks.list (prog := P) (w := w) (A := A.in1.in1.in1) (by simp [hh]) p.objs.size a ne1 its).toS
        rw [hsz] at W
        refine feed W ne2 hb val xs.length 0 _ (Nat.zero_add _) ⟨⟨_, Heap.get?_push_size _ rfl, rfl, rfl⟩, lp.push _⟩ ⟨[], setX_fresh (Heap.get?_push_of_some _ new), Nat.zero_le _, fun x => by simp⟩ fun s' mv F' => ?_
        obtain ⟨h', g', d', tk', os'⟩ := s'
        obtain rfl : g' = s.gens := mv.gens
        obtain rfl : d' = s.drawn := mv.drawn
        obtain rfl : os' = s.os := mv.os
        refine wpAny_pure (show wpAny _ _ (ret Value.none) _ _ _ from wpAny_pure ⟨rfl, h', tk', rfl, F', fun b o e => ?_⟩)
        have hb0 : b < s.heap.objs.size := Heap.lt_size e
        refine mv.heap b o (fun z => ?_) (Heap.get?_push_of_some _ (grow b o e))
        rcases List.mem_cons.mp z with z | z
        · exact Nat.ne_of_lt hb0 z
        · rw [psz] at z
          exact Nat.ne_of_lt (Nat.lt_succ_of_lt hb0) (List.mem_singleton.mp z)
      · cases r2 with
        | error e => exact hr2
        | ok fl2 =>
          cases fl2 with
          | ret r =>
            obtain ⟨rfl, h', tk, rfl, F', kk⟩ := hr2
            repeat (any_goals (first | assumption | wp_step))
            exact q _ _ F' kk
          | _ => exact hr2.elim
    | _ => exact hr.elim
end
end Sh

namespace Sh
open PySem PySem.Spec PyProof.Rows L2
section
variable {P : Program} {w : World} {K : PySem.W.Frag} {σ : L2.St} {H : Hp} {Q : VK}
/-- set(xs) -/
def rSetOfX (K : PySem.W.Frag) (P : Program) (w : World) : List V → Hp → VK → Prop := fun vs H Q => ∃ (a : Addr) (xs : List (List Nat)), vs = [V.ref a] ∧ SqL K H a (xs.map tV) ∧ xs.length + 1 < scanBound ∧
  ∀ (D : Addr) (l : List Str), H D = none → l.length ≤ xs.length → (∀ x, S x ∈ l ↔ x ∈ xs) → Q (.ref D) (upd H D (SetXO P w D l))
theorem cr_setOfX {X : Cx} (hc : X.calm = true) : CallR X (.type "set") (rSetOfX X.K X.prog X.w) := by
  intro pins s σ H vs us Q I r h
  obtain ⟨a, xs, rfl, hs, hb, q⟩ := h
  rw [tV_map] at hs
  obtain ⟨its, rv, hl, _⟩ := I.list hs
  rw [Vals.ref1 r]
  refine set_of_list (I.ok.hd hc) hl.isList rv.strs (by rw [List.length_map]; exact hb) fun h' tk F k => ?_
  obtain ⟨l, R, hlen, hm⟩ := F
  refine ⟨.ref _, upd H s.heap.objs.size (SetXO X.prog X.w s.heap.objs.size l), I.laid (t' := tk) k (Nat.le_refl _) (setXO_new R), rfl, q _ l (I.hok.fresh (Nat.le_refl _)) (by rw [List.length_map] at hlen; exact hlen) fun x => ?_⟩
  rw [hm, List.take_length, List.mem_map]
  constructor
  · rintro ⟨y, hy, e⟩
    rw [← S_inj e]; exact hy
  · exact fun hx => ⟨x, hx, rfl⟩
theorem v_setOfX {a : Addr} {xs : List (List Nat)} (hs : SqL K H a (xs.map tV)) (hb : xs.length + 1 < scanBound)
    (q : ∀ (D : Addr) (l : List Str), H D = none → l.length ≤ xs.length → (∀ x, S x ∈ l ↔ x ∈ xs) → Q (.ref D) (upd H D (SetXO P w D l))) : rSetOfX K P w [.ref a] H Q := ⟨a, xs, rfl, hs, hb, q⟩
theorem v_sortSX {a : Addr} {l : List Str} (ha : H a = some (SetXO P w a l))
    (q : ∀ (ys : List (List Nat)) (p : Addr), ys.Pairwise (fun a b : List Nat => a ≤ b) → ys.Nodup → (∀ y, y ∈ ys ↔ S y ∈ l) → ys.length = l.length → H p = none → Q (.ref p) (upd H p (.lst (ys.map tV)))) : rSortSX P w [.ref a] H Q := ⟨a, l, rfl, ha, q⟩
/-! the comprehension with two fors -/
def kSc2 (P : Program) (w : World) (g : TG) (wi1 : TI) (g1 : TG) (te : TE) (vs vs1 : List Nat) (σ : L2.St) (Q : VK) : It → Hp → Prop := fun J H1 => ∀ D, H1 D = none → ∃ (N : Nat) (O : Nat → Hp → Prop), O 0 (upd H1 D (SetXO P w D [])) ∧
  ∀ i H, O i H → (J.stop i H ∧ Q (.ref D) H) ∨ (i < N ∧ J.go i H ∧ ∀ x H', J.yld i H x H' → g x (wipe σ vs) H' fun σ2 H2 => wipe σ2 vs = wipe σ vs ∧ wi1 σ2 H2 fun J1 H4 => ∃ (N1 : Nat) (O1 : Nat → Hp → Prop), O1 0 H4 ∧
    ∀ j H, O1 j H → (J1.stop j H ∧ O (i + 1) H) ∨ (j < N1 ∧ J1.go j H ∧ ∀ x H', J1.yld j H x H' → g1 x (wipe σ2 vs1) H' fun σ3 H5 => wipe σ3 vs1 = wipe σ2 vs1 ∧
      te σ3 H5 fun y H7 => ∃ z l, y = .str z ∧ H7 D = some (SetXO P w D l) ∧ l.length + 1 < scanBound ∧ O1 (j + 1) (upd H7 D (SetXO P w D (insX z l)))))
theorem v_sc2 {wi wi1 : TI} {g g1 : TG} {te : TE} {vs vs1 : List Nat} (q : wi σ H (kSc2 P w g wi1 g1 te vs vs1 σ Q)) : tSc2 P w wi g wi1 g1 te vs vs1 σ H Q := q
/-- a tuple of texts, and behind each a range: f i m the text made of the piece i at m -/
theorem sc2_TR {wi1 : TI} {te : TE} {a : Addr} {ps : List (List Nat)} {j k c : Nat} (n : Nat → Nat) (f : Nat → Nat → List Nat) (ha : H a = some (.tup (ps.map tV))) (hc : ∀ i, i < ps.length → n i ≤ c) (hb : c * ps.length + 1 < scanBound)
    (hw : ∀ v : V, wipe ((wipe σ [j, k]).set j (some v)) [j, k] = wipe σ [j, k])
    (hi : ∀ i p H', ps[i]? = some p → Same H H' → ∀ R : It → Hp → Prop, R (Itr 0 (n i)) H' → wi1 ((wipe σ [j, k]).set j (some (tV p))) H' R)
    (he : ∀ i p m H', ps[i]? = some p → m < n i → Same H H' → ∀ Qv : VK, Qv (.str (S (f i m))) H' → te ((wipe ((wipe σ [j, k]).set j (some (tV p))) [k]).set k (some (.int (0 + (m : Int))))) H' Qv)
    (hd : ∀ D l H2, H D = none → Same H H2 → H2 D = some (SetXO P w D l) → (∀ x, S x ∈ l ↔ ∃ i m, i < ps.length ∧ m < n i ∧ x = f i m) → l.length ≤ c * ps.length → Q (.ref D) H2) :
    kSc2 P w (gName j) wi1 (gName k) te [j, k] [k] σ Q (Itt K a) H := by
  intro D hD
  refine ⟨ps.length, fun i H' => ∃ l, Same H H' ∧ H' D = some (SetXO P w D l) ∧ (∀ x, S x ∈ l ↔ ∃ i' m, i' < i ∧ m < n i' ∧ x = f i' m) ∧ l.length ≤ c * i ∧ i ≤ ps.length, ⟨[], same_upd hD, upd_same, fun x => ⟨(fun h => nomatch h), fun ⟨_, _, h, _⟩ => absurd h (Nat.not_lt_zero _)⟩, Nat.zero_le _, Nat.zero_le _⟩, ?_⟩
  rintro i H1 ⟨l, sm, hl, hm, hle, hip⟩
  by_cases hlt : i < ps.length
  · obtain ⟨p, hp⟩ : ∃ p, ps[i]? = some p := ⟨_, List.getElem?_eq_getElem hlt⟩
    have item : (ps.map tV)[i]? = some (tV p) := by rw [List.getElem?_map, hp]; rfl
    refine .inr ⟨hlt, ⟨_, tV p, SqT.of (sm _ _ ha), item⟩, ?_⟩
    rintro x H2 ⟨rfl, hx⟩
    have ex := hx _ (SqT.of (sm _ _ ha))
    rw [item] at ex
    cases Option.some.inj ex
    have hcn := hc i hlt
    have e1 : c * i + c ≤ c * ps.length := by rw [← Nat.mul_succ]; exact Nat.mul_le_mul_left c hlt
    refine ⟨hw _, hi i p _ hp sm _ ⟨n i, fun m H' => ∃ l, Same H H' ∧ H' D = some (SetXO P w D l) ∧ (∀ x, S x ∈ l ↔ (∃ i' m, i' < i ∧ m < n i' ∧ x = f i' m) ∨ ∃ m', m' < m ∧ x = f i m') ∧ l.length ≤ c * i + m ∧ m ≤ n i,
      ⟨l, sm, hl, fun x => (hm x).trans ⟨.inl, fun h => h.elim id fun ⟨_, h, _⟩ => absurd h (Nat.not_lt_zero _)⟩, hle, Nat.zero_le _⟩, ?_⟩⟩
    clear hm hle hl sm l
    rintro m H3 ⟨l, sm, hl, hm, hle, hmn⟩
    by_cases hm2 : m < n i
    · refine .inr ⟨hm2, hm2, ?_⟩
      rintro x H4 ⟨rfl, rfl⟩
      refine ⟨wipe_set, he i p m _ hp hm2 sm _ ⟨_, l, rfl, hl, by omega, insX (S (f i m)) l, same_mut sm hD, upd_same, fun x => ?_, ?_, hm2⟩⟩
      · rw [insX_mem, hm x]
        constructor
        · rintro (h | h | ⟨m', h1, h2⟩)
          · exact .inr ⟨m, Nat.lt_succ_self _, S_inj h⟩
          · exact .inl h
          · exact .inr ⟨m', Nat.lt_succ_of_lt h1, h2⟩
        · rintro (h | ⟨m', h1, h2⟩)
          · exact .inr (.inl h)
          · by_cases e : m' = m
            · subst e; exact .inl (by rw [h2])
            · exact .inr (.inr ⟨m', by omega, h2⟩)
      · have := insX_len (k := S (f i m)) (l := l)
        omega
    · have e : m = n i := by omega
      subst e
      refine .inl ⟨Nat.le_refl _, l, sm, hl, fun x => (hm x).trans ⟨?_, ?_⟩, by rw [Nat.mul_succ]; omega, hlt⟩
      · rintro (⟨i', m, h1, h2⟩ | ⟨m, h1, h2⟩)
        · exact ⟨i', m, Nat.lt_succ_of_lt h1, h2⟩
        · exact ⟨i, m, Nat.lt_succ_self _, h1, h2⟩
      · rintro ⟨i', m, h1, h2, h3⟩
        by_cases e : i' = i
        · subst e; exact .inr ⟨m, h2, h3⟩
        · exact .inl ⟨i', m, by omega, h2, h3⟩
  · have e : i = ps.length := by omega
    subst e
    exact .inl ⟨⟨_, SqT.of (sm _ _ ha), by rw [List.length_map]; exact Nat.le_refl _⟩, hd D l H1 hD sm hl hm hle⟩
end
/-- the windows of pieces -/
def Wn (ps : List (List Nat)) (g : Nat) (w : List Nat) : Prop := ∃ p, p ∈ ps ∧ ∃ i, i + g ≤ p.length ∧ w = (p.drop i).take g
/-- the grams of pieces -/
def Gm (ps : List (List Nat)) (g : Nat) (w : List Nat) : Prop := ∃ x, Wn ps g x ∧ (w = x.take (g - 1) ∨ w = x.drop 1)
/-- what is in order and has each thing once is told by its members -/
theorem told : ∀ (xs ys : List (List Nat)), xs.Pairwise (fun a b : List Nat => a ≤ b) → ys.Pairwise (fun a b : List Nat => a ≤ b) → xs.Nodup → ys.Nodup → (∀ x, x ∈ xs ↔ x ∈ ys) → xs = ys
  | [], [], _, _, _, _, _ => rfl
  | [], y :: ys, _, _, _, _, h => nomatch (h y).mpr List.mem_cons_self
  | x :: xs, [], _, _, _, _, h => nomatch (h x).mp List.mem_cons_self
  | x :: xs, y :: ys, s1, s2, n1, n2, h => by
    obtain ⟨a1, r1⟩ := List.pairwise_cons.mp s1
    obtain ⟨a2, r2⟩ := List.pairwise_cons.mp s2
    obtain ⟨b1, m1⟩ := List.nodup_cons.mp n1
    obtain ⟨b2, m2⟩ := List.nodup_cons.mp n2
    have e : x = y := by
      rcases List.mem_cons.mp ((h x).mp List.mem_cons_self) with e | k1
      · exact e
      · rcases List.mem_cons.mp ((h y).mpr List.mem_cons_self) with e | k2
        · exact e.symm
        · exact List.le_antisymm (a1 y k2) (a2 x k1)
    subst e
    rw [told xs ys r1 r2 m1 m2 fun z => ?_]
    have hz := h z
    rw [List.mem_cons, List.mem_cons] at hz
    constructor
    · intro m
      rcases hz.mp (.inr m) with e | m'
      · subst e; exact absurd m b1
      · exact m'
    · intro m
      rcases hz.mpr (.inr m) with e | m'
      · subst e; exact absurd m b2
      · exact m'
/-- a comprehension over a tuple, item by item of what the tuple stands for -/
theorem lc_MT {K : PySem.W.Frag} {σ : L2.St} {H : Hp} {tt : TT} {te : TE} {Q : VK} {α : Type} (G : α → V) {a : Addr} {xs : List α} {j : Nat} (p : α → Bool) (f : α → V) (hx : H a = some (.tup (xs.map G))) (hn : xs.length ≤ sizeLine)
    (ht : ∀ x H', x ∈ xs → Same H H' → ∀ Qb : Bool → Hp → Prop, Qb (p x) H' → tt ((σ.set j none).set j (some (G x))) H' Qb)
    (he : ∀ x H', x ∈ xs → p x = true → Same H H' → ∀ Qv : VK, Qv (f x) H' → te ((σ.set j none).set j (some (G x))) H' Qv)
    (hd : ∀ L, H L = none → Q (.ref L) (upd H L (.lst ((xs.filter p).map f)))) : kLc (gName j) tt te [j] σ Q (Itt K a) H := by
  intro L hL
  refine lc_tup (xs := xs.map G) (fun i H' => H' = upd H L (.lst (((xs.take i).filter p).map f))) rfl (fun i H' _ e => by rw [e]; exact SqT.of (same_upd hL _ _ hx)) ?_ (fun H' e => by subst e; rw [List.take_of_length_le (by rw [List.length_map]; exact Nat.le_refl _)]; exact hd L hL)
  rintro i y H' hi rfl
  obtain ⟨x, hx2, rfl⟩ : ∃ x, xs[i]? = some x ∧ y = G x := by
    rw [List.getElem?_map] at hi
    cases e : xs[i]? with
    | none => rw [e] at hi; cases hi
    | some u => rw [e] at hi; exact ⟨u, rfl, (Option.some.inj hi).symm⟩
  have sm : Same H (upd H L (.lst (((xs.take i).filter p).map f))) := same_upd hL
  have hm : x ∈ xs := List.mem_of_getElem? hx2
  have hlt : i < xs.length := (List.getElem?_eq_some_iff.mp hx2).1
  have et : xs.take (i + 1) = xs.take i ++ [x] := by rw [List.take_add_one, hx2]; rfl
  refine ⟨wipe_set, ht x _ hm sm _ ?_⟩
  have hlen : (((xs.take i).filter p).map f).length < sizeLine := by
    have h1 := List.length_filter_le p (xs.take i)
    rw [List.length_take] at h1
    rw [List.length_map]
    omega
  by_cases hp : p x = true
  · rw [hp, if_pos rfl]
    refine he x _ hm hp sm _ ⟨_, upd_same, hlen, ?_⟩
    rw [upd_upd, et, List.filter_append, List.map_append, List.filter_cons_of_pos hp]
    rfl
  · rw [if_neg hp]
    show _ = _
    rw [et, List.filter_append, List.filter_cons_of_neg hp, List.filter_nil, List.append_nil]
theorem v_ixSlast {H : Hp} {Q : VK} {l : List Nat} (hz : l.length ≤ sizeLine) (hne : l ≠ []) (q : Q (.str (S [l.getLastD 0])) H) : rIxS (.str (S l)) (.int (-1)) H Q := by
  refine ⟨S l, -1, l.getLastD 0, rfl, rfl, by rw [S_len]; exact hz, ?_, q⟩
  rw [S_list]
  have e : l = l.dropLast ++ [l.getLastD 0] := by
    have h1 := List.dropLast_concat_getLast hne
    have h2 : l.getLast hne = l.getLastD 0 := by rw [List.getLastD_eq_getLast?, List.getLast?_eq_some_getLast hne]; rfl
    rw [h2] at h1
    exact h1.symm
  generalize l.getLastD 0 = c at e
  rw [e]
  exact atI_last _ _
/-- the last letters of the windows that begin with a word and go on by one letter -/
def after (ys : List (List Nat)) (u : List Nat) : List Nat := (ys.filter fun x => decide (x.take (x.length - 1) = u)).map fun x => x.getLastD 0
theorem after_len {ys : List (List Nat)} {u : List Nat} : (after ys u).length ≤ ys.length := by
  unfold after
  rw [List.length_map]
  exact List.length_filter_le _ _
theorem after_V (ys : List (List Nat)) (u : List Nat) : (ys.filter fun x => decide (x.take (x.length - 1) = u)).map (fun x => V.str (S [x.getLastD 0])) = ((after ys u).map fun c => [c]).map fun y => V.str (S y) := by
  unfold after
  rw [List.map_map, List.map_map]
  rfl
/-! tuples of texts, compared -/
def xD (xs : List (List Nat)) : List PyData := xs.map fun x => PyData.str (S x)
theorem dp_texts {K : PySem.W.Frag} {H : Hp} : ∀ xs : List (List Nat), DpAll K H (xs.map tV) (xD xs)
  | [] => .nil
  | x :: xs => .cons (.str (S x)) (dp_texts xs)
theorem lay_texts : ∀ xs : List (List Nat), (∀ x, x ∈ xs → Lt x) → PyData.canLayAll0 (xD xs) = true
  | [], _ => rfl
  | x :: xs, h => by
    show (PyData.canLay0 (.str (S x)) && PyData.canLayAll0 (xD xs)) = true
    rw [lay_texts xs fun y hy => h y (List.mem_cons_of_mem _ hy)]
    have hx := h x List.mem_cons_self
    have e : PyData.strOk (S x) = true := by
      unfold PyData.strOk
      rw [← Array.all_toList, S_list, List.all_eq_true]
      exact fun c hc => decide_eq_true (by have := (hx c hc).2.1; omega)
    show (PyData.strOk (S x) && true) = true
    rw [e]; rfl
theorem dep_texts : ∀ xs : List (List Nat), PyData.depthAll (xD xs) = 0
  | [] => rfl
  | x :: xs => by
    show max (PyData.depth (.str (S x))) (PyData.depthAll (xD xs)) = 0
    rw [dep_texts xs]; rfl
theorem eqv_texts : ∀ xs ys : List (List Nat), PyData.eqvAll (xD xs) (xD ys) = decide (xs = ys)
  | [], [] => rfl
  | [], _ :: _ => by simp [xD, PyData.eqvAll]
  | _ :: _, [] => by simp [xD, PyData.eqvAll]
  | x :: xs, y :: ys => by
    show (PyData.eqv (.str (S x)) (.str (S y)) && PyData.eqvAll (xD xs) (xD ys)) = _
    rw [eqv_texts xs ys]
    show ((S x == S y) && decide (xs = ys)) = decide (x :: xs = y :: ys)
    have e : (S x == S y) = decide (x = y) := by
      by_cases h : x = y
      · subst h; simp
      · rw [decide_eq_false h]
        exact beq_eq_false_iff_ne.mpr fun e => h (S_inj e)
    rw [e]
    by_cases h1 : x = y <;> by_cases h2 : xs = ys <;> simp [h1, h2]
theorem shTX {xs : List (List Nat)} (h : ∀ x, x ∈ xs → Lt x) : SeqAt.shaped (.tuple (xD xs)) = true := by
  unfold SeqAt.shaped
  rw [show PyData.canLay0 (.tuple (xD xs)) = PyData.canLayAll0 (xD xs) by simp [PyData.canLay0], lay_texts xs h, show PyData.depth (.tuple (xD xs)) = PyData.depthAll (xD xs) + 1 by simp [PyData.depth], dep_texts]
  rfl
theorem v_neTX {K : PySem.W.Frag} {H : Hp} {Q : VK} {a b : Addr} {xs ys : List (List Nat)} (ha : SqT K H a (xs.map tV)) (hb : SqT K H b (ys.map tV)) (h1 : ∀ x, x ∈ xs → Lt x) (h2 : ∀ x, x ∈ ys → Lt x) (q : Q (.bl (!decide (xs = ys))) H) : rNeD K (.ref a) (.ref b) H Q :=
  ⟨.tuple (xD xs), .tuple (xD ys), .tup ha (dp_texts xs), .tup hb (dp_texts ys), shTX h1, shTX h2, by
    rw [show PyData.eqv (.tuple (xD xs)) (.tuple (xD ys)) = PyData.eqvAll (xD xs) (xD ys) by simp [PyData.eqv], eqv_texts]; exact q⟩
end Sh

namespace Sh
open PySem PySem.Spec PyProof.Rows L2
theorem hu1 {A : Around} {k : Nat} (hr : Room k A) : A.units + 1 < cLine := Nat.lt_of_le_of_lt (Nat.add_le_add_left (by decide) _) (hu64 hr)
/-- a stretch that is not come to -/
theorem pss_bot {X : Cx} {st : List Stmt} : PSs X st (fun _ _ _ => False) := ⟨fun _ _ _ _ _ _ h => h.elim⟩
theorem ps_bot {X : Cx} {st : Stmt} : PS X st (fun _ _ _ => False) := ⟨fun _ _ _ _ _ _ h => h.elim⟩
theorem pe_bot {X : Cx} {e : Expr} : PE X e (fun _ _ _ => False) := ⟨fun _ _ _ _ _ _ h => h.elim⟩
section
variable {K : PySem.W.Frag} {σ : L2.St} {H : Hp} {Q : VK} {a : Addr}
theorem v_inTX {x : List Nat} {xs : List (List Nat)} (ha : SqT K H a (xs.map tV)) (q : Q (.bl (decide (x ∈ xs))) H) : rIn K false (.str (S x)) (.ref a) H Q :=
  ⟨a, _, rfl, .inr ha, rfl, flat_tV xs, by
    show Q (.bl (inV (tV x) (xs.map tV))) H
    rw [inV_tV]; exact q⟩
theorem v_ninTX {x : List Nat} {xs : List (List Nat)} (ha : SqT K H a (xs.map tV)) (q : Q (.bl (!decide (x ∈ xs))) H) : rIn K true (.str (S x)) (.ref a) H Q :=
  ⟨a, _, rfl, .inr ha, rfl, flat_tV xs, by
    show Q (.bl (!inV (tV x) (xs.map tV))) H
    rw [inV_tV]; exact q⟩
/-! dicts with text keys -/
/-- a dict of texts: what stands for a key -/
def DX (kvs : List (Key × V)) (x : List Nat) : Option V := valV kvs (Sum.inr (S x))
theorem DX_nil (x : List Nat) : DX [] x = none := rfl
theorem DX_put (kvs : List (Key × V)) (x y : List Nat) (v : V) : DX (putK kvs (Sum.inr (S x)) v) y = if y = x then some v else DX kvs y := by
  unfold DX
  rw [valV_put]
  by_cases h : y = x
  · subst h; rw [if_pos rfl, if_pos rfl]
  · rw [if_neg h, if_neg]
    intro e
    exact h (S_inj (Sum.inr.inj e))
theorem put_len (kvs : List (Key × V)) (k : Key) (v : V) : (putK kvs k v).length ≤ kvs.length + 1 := by
  unfold putK
  split
  · rw [List.length_map]; exact Nat.le_succ _
  · rw [List.length_append]; exact Nat.le_refl _
/-- a dict comprehension over a tuple, texts to what f says -/
def kDc (g : TG) (tt : TT) (tk tv : TE) (vs : List Nat) (σ : L2.St) (Q : VK) : It → Hp → Prop := fun J H1 => ∀ D, H1 D = none → ∃ W : Nat → Nat → Hp → Prop, (∃ m, W 0 m (upd H1 D (.dK []))) ∧ ∀ i m H, W i m H →
  (J.stop i H ∧ Q (.ref D) H) ∨ (J.go i H ∧ ∃ Nx : Hp → Prop, (∀ H', Nx H' → ∃ m', m' < m ∧ W (i + 1) m' H') ∧ ∀ x H', J.yld i H x H' → g x (wipe σ vs) H' fun σ2 H2 => wipe σ2 vs = wipe σ vs ∧ tt σ2 H2 fun b H3 =>
    if b = true then tk σ2 H3 fun y H4 => tv σ2 H4 fun z H5 => ∃ kvs k, y = kV k ∧ H5 D = some (.dK kvs) ∧ kvs.length < sizeLine ∧ Nx (upd H5 D (.dK (putK kvs k z))) else Nx H3)
theorem v_dc {g : TG} {tt : TT} {tk tv : TE} {wi : TI} {vs : List Nat} (q : wi σ H (kDc g tt tk tv vs σ Q)) : tDc wi g tt tk tv vs σ H Q := q
theorem dc_MT {tt : TT} {tk tv : TE} {α : Type} (G : α → V) {xs : List α} {j : Nat} (p : α → Bool) (f : α → List Nat) (u : α → V) (hx : H a = some (.tup (xs.map G))) (hn : xs.length ≤ sizeLine)
    (ht : ∀ x H', x ∈ xs → Same H H' → ∀ Qb : Bool → Hp → Prop, Qb (p x) H' → tt ((σ.set j none).set j (some (G x))) H' Qb)
    (hk : ∀ x H', x ∈ xs → p x = true → Same H H' → ∀ Qv : VK, Qv (.str (S (f x))) H' → tk ((σ.set j none).set j (some (G x))) H' Qv)
    (hv : ∀ x H', x ∈ xs → p x = true → Same H H' → ∀ Qv : VK, Qv (u x) H' → tv ((σ.set j none).set j (some (G x))) H' Qv)
    (hd : ∀ D kvs, H D = none → kvs.length ≤ xs.length → kvs = (xs.filter p).foldl (fun k x => putK k (Sum.inr (S (f x))) (u x)) [] → Q (.ref D) (upd H D (.dK kvs))) : kDc (gName j) tt tk tv [j] σ Q (Itt K a) H := by
  intro D hD
  refine dc_tup (xs := xs.map G) (fun i H' => ∃ kvs, H' = upd H D (.dK kvs) ∧ kvs.length ≤ i ∧ kvs = ((xs.take i).filter p).foldl (fun k x => putK k (Sum.inr (S (f x))) (u x)) []) ⟨[], rfl, Nat.le_refl _, rfl⟩ (fun i H' _ ⟨kvs, e, _⟩ => by rw [e]; exact SqT.of (same_upd hD _ _ hx)) ?_ (fun H' ⟨kvs, e, hl, hk⟩ => by
    subst e
    rw [List.length_map] at hl hk
    rw [List.take_length] at hk
    exact hd D kvs hD hl hk)
  rintro i y H' hi ⟨kvs, rfl, hl, hkv⟩
  obtain ⟨x, hx2, rfl⟩ : ∃ x, xs[i]? = some x ∧ y = G x := by
    rw [List.getElem?_map] at hi
    cases e : xs[i]? with
    | none => rw [e] at hi; cases hi
    | some u => rw [e] at hi; exact ⟨u, rfl, (Option.some.inj hi).symm⟩
  have sm : Same H (upd H D (.dK kvs)) := same_upd hD
  have hm : x ∈ xs := List.mem_of_getElem? hx2
  have hlt : i < xs.length := (List.getElem?_eq_some_iff.mp hx2).1
  have et : xs.take (i + 1) = xs.take i ++ [x] := by rw [List.take_add_one, hx2]; rfl
  refine ⟨wipe_set, ht x _ hm sm _ ?_⟩
  by_cases hp : p x = true
  · rw [hp, if_pos rfl]
    refine hk x _ hm hp sm _ (hv x _ hm hp sm _ ⟨kvs, Sum.inr (S (f x)), rfl, upd_same, by omega, _, upd_upd, Nat.le_trans (put_len _ _ _) (Nat.succ_le_succ hl), ?_⟩)
    rw [et, List.filter_append, List.foldl_append, ← hkv, List.filter_cons_of_pos hp]
    rfl
  · rw [if_neg hp]
    refine ⟨kvs, rfl, Nat.le_succ_of_le hl, ?_⟩
    rw [et, List.filter_append, List.filter_cons_of_neg hp, List.filter_nil, List.append_nil]
    exact hkv
theorem v_din {td ty : TE} (q : ty σ H fun y H1 => td σ H1 fun x H2 => ∃ a o, x = .ref a ∧ DGet H2 a y o ∧ Q (.bl o.isSome) H2) : tDIn ty td σ H Q := q
theorem v_dnin {td ty : TE} (q : ty σ H fun y H1 => td σ H1 fun x H2 => ∃ a o, x = .ref a ∧ DGet H2 a y o ∧ Q (.bl (!o.isSome)) H2) : tDNotIn ty td σ H Q := q
theorem v_dget {td ty : TE} (q : td σ H fun x H1 => ty σ H1 fun y H2 => ∃ a v, x = .ref a ∧ DGet H2 a y (some v) ∧ Q v H2) : tDGet td ty σ H Q := q
end
end Sh
namespace Sh
def sCircle : List Nat := [99, 105, 114, 99, 108, 101]
def sLine : List Nat := [108, 105, 110, 101]
theorem c_circle : (PySem.Str.ofString "circle") = S sCircle := by decide +kernel
theorem c_line : (PySem.Str.ofString "line") = S sLine := by decide +kernel
end Sh
namespace Sh
open PySem PySem.Spec PyProof.Rows L2
theorem v_fsS {σ : L2.St} {H : Hp} {Q : Str → Hp → Prop} {t1 : TE} {c1 y : Str} (h1 : c1.length ≤ 1000) (hy : y.length ≤ 1000) (e1 : ∀ Qv : VK, Qv (.str y) H → t1 σ H Qv) (q : ∀ out, Q out H) :
    tJs [tC (.str c1), tFmt t1] Str.empty σ H Q := by
  have a1 := app_le emp_len h1
  have a2 := app_le a1 hy
  exact v_js (v_c (v_kJ (fits a1 (by omega)) (v_js (v_fmt (e1 _ (v_kFs (fits hy (by omega)) (v_kJ (fits a2 (by omega)) (v_jn (q _)))))))))
end Sh
namespace Sh
theorem all_dec {α : Type} (xs : List α) (P : α → Prop) [i : ∀ x, Decidable (P x)] [j : Decidable (∀ x, x ∈ xs → P x)] : ((xs.map fun x => decide (P x)).all id) = decide (∀ x, x ∈ xs → P x) := by
  rw [Bool.eq_iff_iff, List.all_eq_true, decide_eq_true_eq]
  constructor
  · intro h w hw
    exact of_decide_eq_true (h _ (List.mem_map_of_mem hw))
  · intro h b hb
    obtain ⟨w, hw, rfl⟩ := List.mem_map.mp hb
    exact decide_eq_true (h w hw)
theorem any_dec {α : Type} (xs : List α) (P : α → Prop) [i : ∀ x, Decidable (P x)] [j : Decidable (∃ x, x ∈ xs ∧ P x)] : ((xs.map fun x => decide (P x)).any id) = decide (∃ x, x ∈ xs ∧ P x) := by
  rw [Bool.eq_iff_iff, List.any_eq_true, decide_eq_true_eq]
  constructor
  · rintro ⟨b, hb, e⟩
    obtain ⟨w, hw, rfl⟩ := List.mem_map.mp hb
    exact ⟨w, hw, of_decide_eq_true e⟩
  · rintro ⟨w, hw, h⟩
    exact ⟨_, List.mem_map_of_mem hw, decide_eq_true h⟩
theorem bl_map {α : Type} (xs : List α) (f : α → Bool) : (xs.map fun x => L2.V.bl (f x)) = (xs.map f).map L2.V.bl := by rw [List.map_map]; rfl
theorem dec_iff {p q : Prop} [i : Decidable p] [j : Decidable q] (h : p ↔ q) : decide p = decide q := by
  by_cases hp : p
  · rw [decide_eq_true hp, decide_eq_true (h.mp hp)]
  · rw [decide_eq_false hp, decide_eq_false (fun x => hp (h.mpr x))]
end Sh
namespace Sh
open PySem PySem.Spec PyProof.Rows L2
/-- over a range, tests and items may lay new objects -/
theorem lc_RT {σ : L2.St} {H : Hp} {tt : TT} {te : TE} {Q : VK} {lo : Int} {n j : Nat} (p : Nat → Bool) (f : Nat → V) (hn : n ≤ sizeLine)
    (ht : ∀ i H', i < n → Same H H' → ∀ Qb : Bool → Hp → Prop, (∀ H2, Same H' H2 → Qb (p i) H2) → tt ((σ.set j none).set j (some (.int (lo + (i : Int))))) H' Qb)
    (he : ∀ i H', i < n → p i = true → Same H H' → ∀ Qv : VK, (∀ H2, Same H' H2 → Qv (f i) H2) → te ((σ.set j none).set j (some (.int (lo + (i : Int))))) H' Qv)
    (hd : ∀ L H2, H L = none → Same H H2 → H2 L = some (.lst (((List.range n).filter p).map f)) → Q (.ref L) H2) : kLc (gName j) tt te [j] σ Q (Itr lo n) H := by
  intro L hL
  refine lc_range (fun i H' => Same H H' ∧ H' L = some (.lst (((List.range i).filter p).map f))) ⟨same_upd hL, upd_same⟩ ?_ (fun H' e => hd L H' hL e.1 e.2)
  rintro i H' hi ⟨sm, hLe⟩
  refine ⟨wipe_set, ht i _ hi sm _ fun H3 sm3 => ?_⟩
  have hLe := sm3 _ _ hLe
  have sm := sm.trans sm3
  have hlen : (((List.range i).filter p).map f).length < sizeLine := by
    rw [List.length_map]
    refine Nat.lt_of_le_of_lt (List.length_filter_le _ _) ?_
    rw [List.length_range]
    omega
  cases hp : p i with
  | true =>
    rw [if_pos rfl]
    refine he i _ hi hp sm _ fun H2 sm2 => ⟨_, sm2 _ _ hLe, hlen, fun b o e => ?_, ?_⟩
    · rw [upd_ne (ne_of_none e hL)]
      exact sm2 _ _ (sm _ _ e)
    · rw [upd_same, List.range_succ, List.filter_append, List.map_append]
      have : List.filter p [i] = [i] := by simp [hp]
      rw [this]
      rfl
  | false =>
    rw [if_neg Bool.false_ne_true]
    refine ⟨sm, ?_⟩
    rw [hLe, List.range_succ, List.filter_append, List.map_append]
    have : List.filter p [i] = [] := by simp [hp]
    rw [this]
    simp
/-- over a list or a tuple, tests and items may lay new objects -/
theorem lc_MS {K : PySem.W.Frag} {σ : L2.St} {H : Hp} {tt : TT} {te : TE} {Q : VK} {α : Type} (G : α → V) {a : Addr} {xs : List α} {j : Nat} (p : α → Bool) (f : α → V) (hx : H a = some (.lst (xs.map G)) ) (hn : xs.length ≤ sizeLine)
    (ht : ∀ x H', x ∈ xs → Same H H' → ∀ Qb : Bool → Hp → Prop, (∀ H2, Same H' H2 → Qb (p x) H2) → tt ((σ.set j none).set j (some (G x))) H' Qb)
    (he : ∀ x H', x ∈ xs → p x = true → Same H H' → ∀ Qv : VK, (∀ H2, Same H' H2 → Qv (f x) H2) → te ((σ.set j none).set j (some (G x))) H' Qv)
    (hd : ∀ L H2, H L = none → Same H H2 → H2 L = some (.lst ((xs.filter p).map f)) → Q (.ref L) H2) : kLc (gName j) tt te [j] σ Q (Itl K a) H := by
  intro L hL
  refine lc_list (xs := xs.map G) (fun i H' => Same H H' ∧ H' L = some (.lst (((xs.take i).filter p).map f))) ⟨same_upd hL, upd_same⟩ (fun i H' _ e => SqL.of (e.1 _ _ hx)) ?_ (fun H' e => hd L H' hL e.1 (by have := e.2; rw [List.length_map, List.take_length] at this; exact this))
  rintro i y H' hi ⟨sm, hLe⟩
  obtain ⟨x, hx2, rfl⟩ : ∃ x, xs[i]? = some x ∧ y = G x := by
    rw [List.getElem?_map] at hi
    cases e : xs[i]? with
    | none => rw [e] at hi; cases hi
    | some u => rw [e] at hi; exact ⟨u, rfl, (Option.some.inj hi).symm⟩
  have hm : x ∈ xs := List.mem_of_getElem? hx2
  have hlt : i < xs.length := (List.getElem?_eq_some_iff.mp hx2).1
  have et : xs.take (i + 1) = xs.take i ++ [x] := by rw [List.take_add_one, hx2]; rfl
  refine ⟨wipe_set, ht x _ hm sm _ fun H3 sm3 => ?_⟩
  have hLe := sm3 _ _ hLe
  have sm := sm.trans sm3
  have hlen : (((xs.take i).filter p).map f).length < sizeLine := by
    have h1 := List.length_filter_le p (xs.take i)
    rw [List.length_take] at h1
    rw [List.length_map]
    omega
  by_cases hp : p x = true
  · rw [hp, if_pos rfl]
    refine he x _ hm hp sm _ fun H2 sm2 => ⟨_, sm2 _ _ hLe, hlen, fun b o e => ?_, ?_⟩
    · rw [upd_ne (ne_of_none e hL)]
      exact sm2 _ _ (sm _ _ e)
    · rw [upd_same, et, List.filter_append, List.map_append, List.filter_cons_of_pos hp]
      rfl
  · rw [if_neg hp]
    refine ⟨sm, ?_⟩
    rw [hLe, et, List.filter_append, List.filter_cons_of_neg hp, List.filter_nil, List.append_nil]
theorem lc_MTS {K : PySem.W.Frag} {σ : L2.St} {H : Hp} {tt : TT} {te : TE} {Q : VK} {α : Type} (G : α → V) {a : Addr} {xs : List α} {j : Nat} (p : α → Bool) (f : α → V) (hx : H a = some (.tup (xs.map G)) ) (hn : xs.length ≤ sizeLine)
    (ht : ∀ x H', x ∈ xs → Same H H' → ∀ Qb : Bool → Hp → Prop, (∀ H2, Same H' H2 → Qb (p x) H2) → tt ((σ.set j none).set j (some (G x))) H' Qb)
    (he : ∀ x H', x ∈ xs → p x = true → Same H H' → ∀ Qv : VK, (∀ H2, Same H' H2 → Qv (f x) H2) → te ((σ.set j none).set j (some (G x))) H' Qv)
    (hd : ∀ L H2, H L = none → Same H H2 → H2 L = some (.lst ((xs.filter p).map f)) → Q (.ref L) H2) : kLc (gName j) tt te [j] σ Q (Itt K a) H := by
  intro L hL
  refine lc_tup (xs := xs.map G) (fun i H' => Same H H' ∧ H' L = some (.lst (((xs.take i).filter p).map f))) ⟨same_upd hL, upd_same⟩ (fun i H' _ e => SqT.of (e.1 _ _ hx)) ?_ (fun H' e => hd L H' hL e.1 (by have := e.2; rw [List.length_map, List.take_length] at this; exact this))
  rintro i y H' hi ⟨sm, hLe⟩
  obtain ⟨x, hx2, rfl⟩ : ∃ x, xs[i]? = some x ∧ y = G x := by
    rw [List.getElem?_map] at hi
    cases e : xs[i]? with
    | none => rw [e] at hi; cases hi
    | some u => rw [e] at hi; exact ⟨u, rfl, (Option.some.inj hi).symm⟩
  have hm : x ∈ xs := List.mem_of_getElem? hx2
  have hlt : i < xs.length := (List.getElem?_eq_some_iff.mp hx2).1
  have et : xs.take (i + 1) = xs.take i ++ [x] := by rw [List.take_add_one, hx2]; rfl
  refine ⟨wipe_set, ht x _ hm sm _ fun H3 sm3 => ?_⟩
  have hLe := sm3 _ _ hLe
  have sm := sm.trans sm3
  have hlen : (((xs.take i).filter p).map f).length < sizeLine := by
    have h1 := List.length_filter_le p (xs.take i)
    rw [List.length_take] at h1
    rw [List.length_map]
    omega
  by_cases hp : p x = true
  · rw [hp, if_pos rfl]
    refine he x _ hm hp sm _ fun H2 sm2 => ⟨_, sm2 _ _ hLe, hlen, fun b o e => ?_, ?_⟩
    · rw [upd_ne (ne_of_none e hL)]
      exact sm2 _ _ (sm _ _ e)
    · rw [upd_same, et, List.filter_append, List.map_append, List.filter_cons_of_pos hp]
      rfl
  · rw [if_neg hp]
    refine ⟨sm, ?_⟩
    rw [hLe, et, List.filter_append, List.filter_cons_of_neg hp, List.filter_nil, List.append_nil]
end Sh
namespace Sh
open PySem PySem.Spec PyProof.Rows L2
/-! within a comprehension: the fragment by its own name -/
section
variable {X : Cx} {K : PySem.W.Frag}
theorem op_inK (h : X.K = K) : OpR X (compareOp .In) (rIn K false) := h ▸ op_in_seq
theorem op_ninK (h : X.K = K) : OpR X (compareOp .NotIn) (rIn K true) := h ▸ op_notIn_seq
theorem ix_listK (h : X.K = K) : IxR X (rIxL K) := h ▸ ix_list
theorem ix_tupK (h : X.K = K) : IxR X (rIxT K) := h ▸ ix_tup
theorem sl_listK (h : X.K = K) : SlR X (rSlL K) := h ▸ sl_list
theorem sl_tupAK (h : X.K = K) : SlR X (rSlA K) := h ▸ sl_tupA
theorem op_catAK (h : X.K = K) : OpR X (binaryOp .Add) (rCatA K) := h ▸ op_catA
theorem call_lenK (h : X.K = K) : CallR X (.builtin "len") (rLenQ K) := h ▸ call_lenQ
theorem op_eqDK (h : X.K = K) (hu : X.A.units + 64 < cLine) : OpR X (compareOp .Eq) (rEqD K) := h ▸ op_eqD hu
theorem op_neDK (h : X.K = K) (hu : X.A.units + 64 < cLine) : OpR X (compareOp .NotEq) (rNeD K) := h ▸ op_neD hu
theorem cr_allK (h : X.K = K) (hc : X.calm = true) : CallR X (.builtin "all") (rAll K) := h ▸ cr_all hc
theorem cr_anyK (h : X.K = K) (hc : X.calm = true) : CallR X (.builtin "any") (rAny K) := h ▸ cr_any hc
end
end Sh

namespace PySem
open Sem (wp)
open AutoSeq1 (wpAny_loadPart')
def tupIt (q : Addr) : Obj := { cls := .type "tuple_iterator", data := .fields #[.ref q, .int 0 0] }
theorem meets_enumT (q : Addr) (zs : Array Value) (m : Nat) (dq : Option Addr) (sq : Array (Option Value)) :
    Meets (Builtin.«enumerate.__new__» ⟨[.type "enumerate", .ref q], []⟩) (fun _ Z y => y.heap.get? q = some { cls := .type "tuple", dict := dq, data := .seq zs m, slots := sq } ∧
      Z (.ok (.ret (.ref (y.heap.push (tupIt q)).objs.size))) { y with heap := (y.heap.push (tupIt q)).push { cls := .type "enumerate", data := .fields #[.none, .bool false, .ref y.heap.objs.size, rawInt 0, .none, .none] } }) :=
  .of_wp fun pr wo Ar Z y both => by
    obtain ⟨hpq, gq, dr, tq, oq⟩ := y; obtain ⟨hq, both⟩ := both
    have hsubq := sub_enumerate
    have hT : Heap.IsTuple (Shared.heap ⟨hpq, gq, dr, tq, oq⟩) q zs := ⟨_, hq, rfl, m, rfl⟩
    wp_walk using wpAny_loadPart' hq
    refine wpAny_stack_any fun sta => wpAny_pure ?_
    split
    · rename_i cq _ _ _ _ _
      cases (cq == Value.type "enumerate")
      · wp_walk using wpAny_loadPart' hq, wpAny_pyIter_tuple hT
        exact ⟨_, rfl, both⟩
      · wp_walk using wpAny_loadPart' hq, wpAny_pyIter_tuple hT
        exact ⟨_, rfl, both⟩
    · wp_walk using wpAny_loadPart' hq, wpAny_pyIter_tuple hT
      exact ⟨_, rfl, both⟩
theorem call_enumT {pr : Program} {wo : World} {Ar : Around} {Er : Value → Shared → Prop} {y : Shared} {q : Addr} {zs : Array Value} {Q : Value → Shared → Prop} (hT : y.heap.IsTuple q zs)
    (go : ∀ h', IsEnum h' (y.heap.objs.size + 1) y.heap.objs.size 0 .none → h'.IsTupleIter y.heap.objs.size q 0 → (∀ b o, y.heap.get? b = some o → h'.get? b = some o) → Q (.ref (y.heap.objs.size + 1)) { y with heap := h' }) :
    wpAny (model pr wo) Ar (call (.type "enumerate") [.ref q]) Q Er y := by
  obtain ⟨⟨cq, dq, daq, sq⟩, hq, hc, m, hd⟩ := hT
  replace hc : cq = .type "tuple" := hc
  replace hd : daq = .seq zs m := hd
  subst hc hd
  refine callType_new F.called_enumerate (by decide) (F.typeCall_enumerate_1 _) (F.newCall_enumerate_1 _) (fun ob => F.args_object_init_2 ob _) F.entry_enumerate_new (meets_enumT q zs m dq sq) ⟨hq, ?_⟩
  have hz : (y.heap.push (tupIt q)).objs.size = y.heap.objs.size + 1 := Heap.size_push ..
  show _ ∧ _
  rw [hz]
  have he : IsEnum ((y.heap.push (tupIt q)).push { cls := .type "enumerate", data := .fields #[.none, .bool false, .ref y.heap.objs.size, rawInt 0, .none, .none] }) (y.heap.objs.size + 1) y.heap.objs.size 0 .none := by
    have := Heap.get?_push_size (y.heap.push (tupIt q)) (o := { cls := .type "enumerate", data := .fields #[.none, .bool false, .ref y.heap.objs.size, rawInt 0, .none, .none] }) rfl
    rw [hz] at this; exact this
  exact ⟨⟨_, he, rfl⟩, go _ he ⟨_, Heap.get?_push_of_some _ (Heap.get?_push_size _ rfl), rfl, rfl⟩ fun b o x => Heap.get?_push_of_some _ (Heap.get?_push_of_some _ x)⟩
end PySem
namespace Sh
open PySem PySem.Spec PyProof.Rows L2
/-- enumerate(tuple): at each turn a new pair of the place and the item -/
def ItT (K : PySem.W.Frag) (q : Addr) : It :=
  ⟨fun i H => ∃ (xs : List V) (x : V), SqT K H q xs ∧ xs[i]? = some x, fun i H v H' => ∃ T x, v = .ref T ∧ H T = none ∧ H' = upd H T (.tup [.int (i : Nat), x]) ∧ ∀ xs, SqT K H q xs → xs[i]? = some x, fun i H => ∃ xs : List V, SqT K H q xs ∧ xs.length = i⟩
theorem turn_enumT {P : Program} {w : World} {K : PySem.W.Frag} {elts : List Expr} {kk : Nat} {tpos : Pos} (q e it : Addr) :
    Turn P w K (.Tuple elts kk tpos) (ItT K q) [e, it] e (fun i h => (∃ old, IsEnum h e it ((i : Nat) : Int) old) ∧ h.IsTupleIter it q i ∧ e ≠ it) where
  mem := by simp
  obj := fun i h st b hb => by
    obtain ⟨⟨old, he⟩, ⟨o, ho, hc, hd⟩, _⟩ := st
    have e' : b = e ∨ b = it := by simpa using hb
    rcases e' with z | z
    · rw [z]; exact ⟨_, he, fun v q => nomatch q⟩
    · rw [z]; exact ⟨o, ho, fun v q => by rw [hd] at q; cases q⟩
  keep := fun i h h' st k => by
    obtain ⟨⟨old, he⟩, hi, hne⟩ := st
    exact ⟨⟨old, k e (by simp) _ he⟩, hi.at fun o q => k it (by simp) o q, hne⟩
  item := by
    intro X hP hw hK hc i pins s σ H E I hf st hg
    subst hP hw hK
    obtain ⟨⟨old, he⟩, hit, hne⟩ := st
    obtain ⟨xs, x, hq, hx⟩ := hg
    obtain ⟨its, rv, hT, hz⟩ := I.tuple hq
    obtain ⟨u, hu, ru⟩ := rv.get hx
    have hel : e < s.heap.objs.size := Heap.lt_size he
    have hil : it < s.heap.objs.size := by obtain ⟨_, q, _⟩ := hit; exact Heap.lt_size q
    have hqi : q ≠ it := fun z => by
      obtain ⟨o1, h1, c1, _⟩ := hit
      obtain ⟨o2, h2, c2, _⟩ := hT
      rw [z] at h2
      cases Option.some.inj (h1.symm.trans h2)
      have c3 := c1.symm.trans c2
      injection c3 with c3
      exact absurd c3 (by decide)
    have heq : e ≠ q := fun z => by
      obtain ⟨o2, h2, c2, _⟩ := hT
      rw [← z] at h2
      cases Option.some.inj (he.symm.trans h2)
      injection c2 with c3
      exact absurd c3 (by decide)
    have hut : its.toArray[i]? = some u := by simpa using hu
    refine wpAny_pyNext_enum_itemC (D := Draws.tuple (A := X.A.in1) (I.ok.hd hc) it q hqi its.toArray) he ⟨hit, hT⟩ (by have := (List.getElem?_eq_some_iff.mp hu).1; simpa using this) hne (by simp only [List.mem_cons, List.not_mem_nil, or_false, not_or]; exact ⟨hne, heq⟩) fun v h' tk hv ho hst hTn hsz hk => ?_
    rw [hut] at hv
    cases Option.some.inj hv
    refine ⟨_, rfl, wpAny_letOwnedTupleGo_enum (s := { s with heap := h', toks := tk + 1 }) ho fun h'' he' sb => ?_⟩
    have hT2 : h''.get? s.heap.objs.size = some { cls := .type "tuple", data := .seq #[.int i tk, u] } := (sb.2 _ (Nat.ne_of_gt hel)).trans hTn
    have new : ObjOk X.prog X.w (upd H s.heap.objs.size (.tup [.int (i : Nat), x])) h'' s.heap.objs.size (.tup [.int (i : Nat), x]) :=
      ⟨by show 2 ≤ sizeLine; decide, [.int i tk, u], .cons ⟨_, rfl⟩ (.cons ru .nil), ⟨_, hT2, rfl, _, rfl⟩⟩
    have I1 : Inv X pins σ (upd H s.heap.objs.size (.tup [.int (i : Nat), x])) { s with heap := h'', toks := tk + 1 } :=
      I.turnedNew (ch := [e, it]) (fun b ob hb q => (sb.2 b (fun z => hb (by simp [z]))).trans (hk b ob (fun z => hb (by simp [z])) (fun z => hb (by simp [z])) q)) hf (Nat.le_refl _) new
    refine ⟨.ref s.heap.objs.size, _, I1, rfl, ⟨_, x, rfl, I.hok.fresh (Nat.le_refl _), rfl, fun ys hy => by rw [I.tuple_inj hy hq]; exact hx⟩, ⟨⟨u, ?_⟩, hst.1.at fun o q => (sb.2 it (Ne.symm hne)).trans q, hne⟩, fun b hb => ?_⟩
    · have e1 : ((i + 1 : Nat) : Int) = (i : Int) + 1 := by omega
      rw [e1]; exact he'
    · have hb' : b < s.heap.objs.size := by
        have e' : b = e ∨ b = it := by simpa using hb
        rcases e' with z | z
        · rw [z]; exact hel
        · rw [z]; exact hil
      rw [upd_ne (Nat.ne_of_lt hb')]
      exact (hf b hb).1
  done := by
    intro X hP hw hK hc i pins s σ H E I hf st hg
    subst hP hw hK
    obtain ⟨⟨old, he⟩, hit, hne⟩ := st
    obtain ⟨xs, hq, hx⟩ := hg
    obtain ⟨its, rv, hT, hz⟩ := I.tuple hq
    obtain ⟨f0, f1, f2, f3, f4, f5⟩ := hf it (by simp)
    have hl := rv.length
    have hqi : q ≠ it := fun z => by
      obtain ⟨o1, h1, c1, _⟩ := hit
      obtain ⟨o2, h2, c2, _⟩ := hT
      rw [z] at h2
      cases Option.some.inj (h1.symm.trans h2)
      have c3 := c1.symm.trans c2
      injection c3 with c3
      exact absurd c3 (by decide)
    obtain rfl : i = its.toArray.size := by rw [← hx, hl]; simp
    exact wpAny_pyNext_enum_endD (D := Draws.tuple (A := X.A.in1) (I.ok.hd hc) it q hqi its.toArray) he ⟨hit, hT⟩ fun h' hk =>
      ⟨rfl, I.turned (t' := s.toks) (fun b o hb q => hk b o hb q) f0 f1 f3 f4 f5⟩
  self := fun A i s Q E st h => let ⟨⟨_, he⟩, _⟩ := st; wpAny_pyIter_enum he h
def iEnumT (K : PySem.W.Frag) (ta : TA) : TI := fun σ H R => ta σ H fun vs H1 => ∃ a xs, vs = [.ref a] ∧ SqT K H1 a xs ∧ R (ItT K a) H1
theorem pi_enumT {X : Cx} {K : PySem.W.Frag} {e : Expr} {ta : TA} {p pos tpos : Pos} {elts : List Expr} {kk : Nat} (hK : X.K = K) (hg : Gl X "enumerate") (hm : X.mg "enumerate" = none) (ha : PA X [e] ta) (hs : starEach [e] X.env = [(false, eval e X.env)] := by rfl) :
    PI X (.Tuple elts kk tpos) (.Call (.Name "enumerate" p) [e] [] pos) (iEnumT K ta) := by
  subst hK
  refine ⟨fun pins s σ H R I h => ?_⟩
  refine Call_ (ld_blt I hg hm boot_enumerate (PyProof.Rows.callWith_type1 (thn (ha.run pos pins s σ H _ I h) fun us s1 ⟨vs, H1, I1, r1, q1⟩ => ?_) hs rfl))
  obtain ⟨a, xs, ex, hq, q⟩ := q1
  subst ex
  rw [Vals.ref1 r1]
  obtain ⟨its, rv, hT, hz⟩ := I1.tuple hq
  refine call_enumT hT fun h' he hit hk => wpAny_pyIter_enum he ?_
  have I2 : Inv X pins σ H1 { s1 with heap := h' } := I1.kept (t' := s1.toks) hk
  refine ⟨s1.heap.objs.size + 1, [s1.heap.objs.size + 1, s1.heap.objs.size], _, _, H1, rfl, I2, turn_enumT a (s1.heap.objs.size + 1) s1.heap.objs.size, ⟨⟨.none, he⟩, hit, Nat.succ_ne_self _⟩, fun b hb => ?_, q⟩
  have e' : b = s1.heap.objs.size + 1 ∨ b = s1.heap.objs.size := by simpa using hb
  have hle : s1.heap.objs.size ≤ b := by
    rcases e' with z | z
    · rw [z]; exact Nat.le_add_right _ _
    · rw [z]; exact Nat.le_refl _
  exact I1.fpOk hle (I1.hok.fresh hle)
section
variable {K : PySem.W.Frag} {σ : L2.St} {H : Hp} {D : Ends} {tu : TS} {tt : TT} {te : TE} {Q : VK} {R : It → Hp → Prop} {ta : TA}
def kET (K : PySem.W.Frag) (R : It → Hp → Prop) : List V → Hp → Prop := fun vs H1 => ∃ a xs, vs = [.ref a] ∧ SqT K H1 a xs ∧ R (ItT K a) H1
theorem v_iET (q : ta σ H (kET K R)) : iEnumT K ta σ H R := q
theorem v_kET {a : Addr} {xs : List V} (h : SqT K H a xs) (q : R (ItT K a) H) : kET K R [.ref a] H := ⟨a, xs, rfl, h, q⟩
/-- for a, b in enumerate(a tuple) -/
theorem f_enumT {a : Addr} {xs : List V} {gs : TGs} (Pv : Nat → L2.St → Hp → Prop) (h0 : Pv 0 σ H) (hl : ∀ i σ H, i ≤ xs.length → Pv i σ H → SqT K H a xs)
    (hs : ∀ i x T σ H, xs[i]? = some x → Pv i σ H → H T = none → gs [.int (i : Int), x] σ (upd H T (.tup [.int (i : Int), x])) fun σ2 H2 => tu { D with nx := Pv (i + 1), ct := Pv (i + 1), bk := D.nx } σ2 H2)
    (hd : ∀ σ H, Pv xs.length σ H → D.nx σ H) : kFor (gTup K 2 gs) tu D σ (ItT K a) H := by
  refine ⟨fun i m σ H => m = xs.length - i ∧ i ≤ xs.length ∧ Pv i σ H, ⟨xs.length, by simp, Nat.zero_le _, h0⟩, ?_⟩
  rintro i m σ H ⟨rfl, hi, p⟩
  have q := hl i σ H hi p
  by_cases hlt : i < xs.length
  · refine .inr ⟨⟨xs, xs[i], q, by simp [hlt]⟩, Pv (i + 1), fun σ' H' p' => ⟨xs.length - (i + 1), by omega, rfl, hlt, p'⟩, fun x H' y => ?_⟩
    obtain ⟨T, x, e, hT, h2, h1⟩ := y
    subst e
    subst h2
    exact ⟨T, _, rfl, SqT.of upd_same, rfl, hs i x T σ H (h1 xs q) p hT⟩
  · have e : i = xs.length := by omega
    subst e
    exact .inl ⟨⟨xs, q, rfl⟩, hd σ H p⟩
theorem wipe_two {σ : L2.St} {j k : Nat} (h : j ≠ k) (x y : Option V) : wipe (((wipe σ [j, k]).set j x).set k y) [j, k] = wipe σ [j, k] := by
  apply List.ext_getElem?
  intro i
  simp only [wipe, List.foldl_cons, List.foldl_nil, List.getElem?_set, List.length_set]
  by_cases h1 : k = i <;> by_cases h2 : j = i <;> simp_all
/-- a comprehension over enumerate(a tuple) -/
theorem lc_ET {α : Type} (G : α → V) {a : Addr} {xs : List α} {j k : Nat} (hjk : j ≠ k) (p : Nat → α → Bool) (f : Nat → α → V) (hx : H a = some (.tup (xs.map G))) (hn : xs.length ≤ sizeLine)
    (ht : ∀ i x H', xs[i]? = some x → Same H H' → ∀ Qb : Bool → Hp → Prop, (∀ H2, Same H' H2 → Qb (p i x) H2) → tt (((wipe σ [j, k]).set j (some (.int (i : Int)))).set k (some (G x))) H' Qb)
    (he : ∀ i x H', xs[i]? = some x → p i x = true → Same H H' → ∀ Qv : VK, (∀ H2, Same H' H2 → Qv (f i x) H2) → te (((wipe σ [j, k]).set j (some (.int (i : Int)))).set k (some (G x))) H' Qv)
    (hd : ∀ L H2, H L = none → Same H H2 → H2 L = some (.lst ((xs.zipIdx.filter fun z => p z.2 z.1).map fun z => f z.2 z.1)) → Q (.ref L) H2) :
    kLc (gTup K 2 (gCons (gName j) (gCons (gName k) gNil))) tt te [j, k] σ Q (ItT K a) H := by
  intro L hL
  have nm : ∀ (i : Nat) (v : V) (τ : L2.St) (H' : Hp) (R : L2.St → Hp → Prop), R (τ.set i (some v)) H' → gName i v τ H' R := fun _ _ _ _ _ q => q
  refine ⟨fun i m H' => m = xs.length - i ∧ i ≤ xs.length ∧ Same H H' ∧ H' L = some (.lst (((xs.zipIdx.take i).filter fun z => p z.2 z.1).map fun z => f z.2 z.1)), ⟨xs.length, by simp, Nat.zero_le _, same_upd hL, upd_same⟩, ?_⟩
  rintro i m H' ⟨rfl, hi, sm, hLe⟩
  by_cases hlt : i < xs.length
  · have hx2 : xs[i]? = some xs[i] := List.getElem?_eq_getElem hlt
    have hit : (xs.map G)[i]? = some (G xs[i]) := by rw [List.getElem?_map, hx2]; rfl
    refine .inr ⟨⟨_, _, SqT.of (sm _ _ hx), hit⟩, fun H' => i + 1 ≤ xs.length ∧ Same H H' ∧ H' L = some (.lst (((xs.zipIdx.take (i + 1)).filter fun z => p z.2 z.1).map fun z => f z.2 z.1)), fun H' h => ⟨xs.length - (i + 1), by omega, rfl, h.1, h.2⟩, fun v H2 hy => ?_⟩
    obtain ⟨T, x, rfl, hT, rfl, hy⟩ := hy
    have ex := hy _ (SqT.of (sm _ _ hx))
    rw [hit] at ex
    cases Option.some.inj ex
    have sT := sm.trans (same_upd (o := .tup [.int (i : Int), G xs[i]]) hT)
    have hLe := same_upd (o := .tup [.int (i : Int), G xs[i]]) hT _ _ hLe
    refine ⟨T, _, rfl, SqT.of upd_same, rfl, _, _, rfl, nm _ _ _ _ _ ⟨_, _, rfl, nm _ _ _ _ _ ⟨rfl, wipe_two hjk _ _, ?_⟩⟩⟩
    generalize upd H' T (.tup [.int (i : Int), G xs[i]]) = H3 at sT hLe ⊢
    refine ht i xs[i] _ hx2 sT _ fun H4 s4 => ?_
    have hLe := s4 _ _ hLe
    have sT := sT.trans s4
    have hz : xs.zipIdx[i]? = some (xs[i], i) := by rw [List.getElem?_zipIdx, hx2]; simp
    have et : xs.zipIdx.take (i + 1) = xs.zipIdx.take i ++ [(xs[i], i)] := by rw [List.take_add_one, hz]; rfl
    have hlen : (((xs.zipIdx.take i).filter fun z => p z.2 z.1).map fun z => f z.2 z.1).length < sizeLine := by
      have h1 := List.length_filter_le (fun z : α × Nat => p z.2 z.1) (xs.zipIdx.take i)
      rw [List.length_take, List.length_zipIdx] at h1
      rw [List.length_map]
      omega
    by_cases hp : p i xs[i] = true
    · rw [hp, if_pos rfl]
      refine he i xs[i] _ hx2 hp sT _ fun H5 s5 => ⟨_, s5 _ _ hLe, hlen, hlt, fun b o e => ?_, ?_⟩
      · rw [upd_ne (ne_of_none e hL)]
        exact s5 _ _ (sT _ _ e)
      · have e1 : [(xs[i], i)].filter (fun z => p z.2 z.1) = [(xs[i], i)] := by simp [hp]
        rw [upd_same, et, List.filter_append, List.map_append, e1]
        rfl
    · have e1 : [(xs[i], i)].filter (fun z => p z.2 z.1) = [] := by simp [hp]
      rw [if_neg hp]
      refine ⟨hlt, sT, ?_⟩
      rw [hLe, et, List.filter_append, e1, List.append_nil]
  · have e : i = xs.length := by omega
    subst e
    refine .inl ⟨⟨_, SqT.of (sm _ _ hx), by rw [List.length_map]⟩, hd L H' hL sm ?_⟩
    rw [hLe, List.take_of_length_le (by rw [List.length_zipIdx]; exact Nat.le_refl _)]
end
end Sh
namespace Sh
open PySem PySem.Spec PyProof.Rows L2
/-! ### sorted of what reads as data -/
theorem each_of {R : Value → V × PyData → Prop} : ∀ {bs : List (V × PyData)} {us : List Value}, Vals (bs.map (·.1)) us → (∀ b u, b ∈ bs → RelV b.1 u → R u b) → PySem.W.EachIs R us bs
  | [], _, h, _ => by cases h; exact .nil
  | b :: bs, _, h, k => by
    cases h with
    | cons r t => exact .cons (k b _ List.mem_cons_self r) (each_of t fun b' u hb => k b' u (List.mem_cons_of_mem _ hb))
theorem vals_of_each : ∀ {bs : List (V × PyData)} {us : List Value}, PySem.W.EachIs (fun u b => RelV b.1 u) us bs → Vals (bs.map (·.1)) us
  | _, _, .nil => .nil
  | _, _, .cons r t => .cons r (vals_of_each t)
def rSortD (K : PySem.W.Frag) : List V → Hp → VK → Prop := fun vs H Q => ∃ (a : Addr) (bs : List (V × PyData)), vs = [V.ref a] ∧ SqL K H a (bs.map (·.1)) ∧ (∀ b, b ∈ bs → Dp K H b.1 b.2) ∧ PySem.W.AllAlike (bs.map (·.2)) ∧ PySem.W.Sortable (bs.map (·.2)) ∧ (∀ b, b ∈ bs → b.2.depth ≤ 60) ∧ bs.length ≤ sizeLine ∧
  ∀ p, H p = none → Q (.ref p) (upd H p (.lst ((bs.mergeSort (PySem.W.dataLe false fun b => b.2)).map (·.1))))
theorem cr_sortD {X : Cx} (hu : X.A.units + 64 < cLine) : CallR X (.builtin "sorted") (rSortD X.K) := by
  intro pins s σ H vs us Q I r h
  obtain ⟨a, bs, rfl, hs, hd, hal, hk, hdp, hz, q⟩ := h
  obtain ⟨its, rv, hl, _⟩ := I.list hs
  rw [Vals.ref1 r]
  refine PySem.W.sorted_data (R := fun u b => RelV b.1 u) (bs := bs) (enc := fun b => b.2) (vs := its) hl.isList (each_of rv fun b u _ r => r) (each_of rv fun b u hb r => Dp.reads I b.2 b.1 u (hd b hb) r) hal hk hz (fun b hb => by have := hdp b hb; omega) fun out hlen e => ?_
  obtain ⟨ep, he'⟩ := PyProof.Rows.sortedAll_at s.heap its out.toArray
  have rv2 := vals_of_each e
  have hl2 : ((bs.mergeSort (PySem.W.dataLe false fun b => b.2)).map (·.1)).length ≤ sizeLine := by rw [List.length_map, List.length_mergeSort]; exact hz
  exact ⟨.ref _, upd H (s.heap.objs.size + 1) (.lst ((bs.mergeSort (PySem.W.dataLe false fun b => b.2)).map (·.1))), I.laid (t' := s.toks) (fun _ _ => PyProof.Rows.sortedAll_old) (Nat.le_succ _) ⟨hl2, out, ep, rv2, he'⟩, rfl, q _ (I.hok.fresh (Nat.le_succ _))⟩
/-! int tuples as data -/
theorem lt_intTup (ns ms : List Int) : PySem.W.dataLt (.tuple (iD ns)) (.tuple (iD ms)) = PySem.W.listLt ns ms :=
  PySem.W.DatumOrd.lt_eq (α := PySem.W.Tup Int) ⟨ns⟩ ⟨ms⟩
theorem listLt_iff : ∀ ns ms : List Int, PySem.W.listLt ns ms = decide (ns < ms)
  | [], [] => by simp [PySem.W.listLt]
  | [], _ :: _ => by simp [PySem.W.listLt]
  | _ :: _, [] => by simp [PySem.W.listLt]
  | n :: ns, m :: ms => by
    have ih := listLt_iff ns ms
    unfold PySem.W.listLt
    by_cases h : n = m
    · subst h
      simp [ih, List.cons_lt_cons_iff]
    · have hlt : PySem.W.DatumOrd.lt n m = decide (n < m) := rfl
      rw [if_neg h, hlt]
      exact dec_iff (by rw [List.cons_lt_cons_iff]; exact ⟨.inl, fun x => x.elim id fun y => absurd y.1 h⟩)
theorem alike_iD (ns ms : List Int) : PySem.W.alike (.tuple (iD ns)) (.tuple (iD ms)) = true := PySem.W.DatumOrd.alike (α := PySem.W.Tup Int) ⟨ns⟩ ⟨ms⟩
end Sh

namespace Sh
open PySem PySem.Spec PyProof.Rows L2
/-! ### data that are equal -/
theorem shaped_lay {d : PyData} (h : SeqAt.shaped d = true) : d.canLay0 = true := by
  unfold SeqAt.shaped at h
  exact (Bool.and_eq_true _ _ ▸ h).1
theorem v_neSame {K : PySem.W.Frag} {H : Hp} {Q : VK} {x y : V} {d : PyData} (hx : Dp K H x d) (hy : Dp K H y d) (hs : SeqAt.shaped d = true) (q : Q (.bl false) H) : rNeD K x y H Q :=
  ⟨d, d, hx, hy, hs, hs, by rw [PySem.SeqAt.eqv_refl d (shaped_lay hs)]; exact q⟩
theorem v_eqSame {K : PySem.W.Frag} {H : Hp} {Q : VK} {x y : V} {d : PyData} (hx : Dp K H x d) (hy : Dp K H y d) (hs : SeqAt.shaped d = true) (q : Q (.bl true) H) : rEqD K x y H Q :=
  ⟨d, d, hx, hy, hs, hs, by rw [PySem.SeqAt.eqv_refl d (shaped_lay hs)]; exact q⟩
/-- shaped, by its two parts -/
structure Shp (d : PyData) (n : Nat) : Prop where
  lay : d.canLay0 = true
  dep : d.depth ≤ n
structure ShpA (ds : List PyData) (n : Nat) : Prop where
  lay : PyData.canLayAll0 ds = true
  dep : PyData.depthAll ds ≤ n
theorem ShpA.nil {n : Nat} : ShpA [] n := ⟨by simp [PyData.canLayAll0], by simp [PyData.depthAll]⟩
theorem ShpA.cons {d : PyData} {ds : List PyData} {n : Nat} (h : Shp d n) (t : ShpA ds n) : ShpA (d :: ds) n :=
  ⟨by simp [PyData.canLayAll0, h.lay, t.lay], by simp only [PyData.depthAll]; exact Nat.max_le.mpr ⟨h.dep, t.dep⟩⟩
theorem ShpA.of {n : Nat} : ∀ {ds : List PyData}, (∀ d, d ∈ ds → Shp d n) → ShpA ds n
  | [], _ => .nil
  | d :: _, h => .cons (h d List.mem_cons_self) (ShpA.of fun x hx => h x (List.mem_cons_of_mem _ hx))
theorem Shp.tup {ds : List PyData} {n : Nat} (h : ShpA ds n) : Shp (.tuple ds) (n + 1) := ⟨by simp [PyData.canLay0, h.lay], by simp only [PyData.depth]; exact Nat.succ_le_succ h.dep⟩
theorem Shp.lst {ds : List PyData} {n : Nat} (h : ShpA ds n) : Shp (.list ds) (n + 1) := ⟨by simp [PyData.canLay0, h.lay], by simp only [PyData.depth]; exact Nat.succ_le_succ h.dep⟩
theorem Shp.int {n : Nat} (i : Int) : Shp (.int i) n := ⟨by simp [PyData.canLay0], by simp [PyData.depth]⟩
theorem Shp.none {n : Nat} : Shp .none n := ⟨by simp [PyData.canLay0], by simp [PyData.depth]⟩
theorem Shp.bool {n : Nat} (b : Bool) : Shp (.bool b) n := ⟨by simp [PyData.canLay0], by simp [PyData.depth]⟩
theorem strOk_S {x : List Nat} (h : ∀ c, c ∈ x → c < 55000) : PyData.strOk (S x) = true := by
  unfold PyData.strOk
  rw [← Array.all_toList, S_list, List.all_eq_true]
  exact fun c hc => decide_eq_true (by have := h c hc; omega)
theorem Shp.str {n : Nat} {x : List Nat} (h : ∀ c, c ∈ x → c < 55000) : Shp (.str (S x)) n := ⟨by simp [PyData.canLay0, strOk_S h], by simp [PyData.depth]⟩
theorem Shp.shaped {d : PyData} {n : Nat} (h : Shp d n) (hn : n ≤ 60) : SeqAt.shaped d = true := by
  unfold SeqAt.shaped
  rw [h.lay, Bool.true_and]
  have := h.dep
  exact decide_eq_true (by omega)
theorem Lt.chars {x : List Nat} (h : Lt x) : ∀ c, c ∈ x → c < 55000 := fun c hc => by have := (h c hc).2.1; omega
/-! lists of int tuples: where they lie, and what they are -/
def LTup (H : Hp) (as : List (Addr × List Int)) : Prop := ∀ z, z ∈ as → H z.1 = some (.tup (z.2.map V.int))
theorem LTup.same {H H' : Hp} {as : List (Addr × List Int)} (h : LTup H as) (s : Same H H') : LTup H' as := fun z hz => s _ _ (h z hz)
abbrev rV (z : Addr × List Int) : V := .ref z.1
theorem LTup.dp {K : PySem.W.Frag} {H : Hp} : ∀ {as : List (Addr × List Int)}, LTup H as → DpAll K H (as.map rV) ((as.map (·.2)).map fun e => .tuple (iD e))
  | [], _ => .nil
  | z :: as, h => .cons (.tup (SqT.of (h z List.mem_cons_self)) (dp_ints z.2)) (LTup.dp fun y hy => h y (List.mem_cons_of_mem _ hy))
theorem shp_iD (e : List Int) {n : Nat} : ShpA (iD e) n := ShpA.of fun d hd => by
  obtain ⟨i, _, rfl⟩ := List.mem_map.mp hd
  exact Shp.int i
theorem shp_edges (es : List (List Int)) : ShpA (es.map fun e => .tuple (iD e)) 1 := ShpA.of fun d hd => by
  obtain ⟨e, _, rfl⟩ := List.mem_map.mp hd
  exact Shp.tup (shp_iD e)
theorem shp_texts {xs : List (List Nat)} {n : Nat} (h : ∀ x, x ∈ xs → Lt x) : ShpA (xD xs) n := ShpA.of fun d hd => by
  obtain ⟨x, hx, rfl⟩ := List.mem_map.mp hd
  exact Shp.str (h x hx).chars
/-- int tuples in order: sorted leaves them -/
theorem sort_tups {as : List (Addr × List Int)} (h : (as.map (·.2)).Pairwise (fun a b : List Int => a ≤ b)) :
    ((as.map fun z => (rV z, PyData.tuple (iD z.2))).mergeSort (PySem.W.dataLe false fun b => b.2)).map (·.1) = as.map rV := by
  rw [List.mergeSort_of_pairwise]
  · rw [List.map_map]; rfl
  · rw [List.pairwise_map] at h ⊢
    refine h.imp fun {a b} hab => ?_
    show PySem.W.dataLe false _ _ _ = true
    rw [PySem.W.dataLe_eq]
    show (!PySem.W.dataLt (.tuple (iD b.2)) (.tuple (iD a.2))) = true
    rw [lt_intTup, listLt_iff, Bool.not_eq_true', decide_eq_false_iff_not]
    exact List.not_lt.mpr hab
theorem v_sortTups {K : PySem.W.Frag} {H : Hp} {Q : VK} {a : Addr} {as : List (Addr × List Int)} (hs : SqL K H a (as.map rV)) (hT : LTup H as) (hz : as.length ≤ sizeLine) (hne : ∀ z, z ∈ as → z.2 ≠ []) (h : (as.map (·.2)).Pairwise (fun a b : List Int => a ≤ b))
    (q : ∀ p, H p = none → Q (.ref p) (upd H p (.lst (as.map rV)))) : rSortD K [.ref a] H Q := by
  refine ⟨a, as.map fun z => (rV z, PyData.tuple (iD z.2)), rfl, by rw [List.map_map]; exact hs, fun b hb => ?_, ?_, ?_, fun b hb => ?_, by rw [List.length_map]; exact hz, fun p hp => by rw [sort_tups h]; exact q p hp⟩
  · obtain ⟨z, hz, rfl⟩ := List.mem_map.mp hb
    exact .tup (SqT.of (hT z hz)) (dp_ints z.2)
  · rw [List.map_map]
    exact PySem.W.AllAlike.of (enc := fun z : Addr × List Int => PyData.tuple (iD z.2)) fun z y => alike_iD z.2 y.2
  · refine .inl fun d hd => ?_
    rw [List.map_map] at hd
    obtain ⟨z, hz, rfl⟩ := List.mem_map.mp hd
    cases e : z.2 with
    | nil => exact absurd e (hne z hz)
    | cons i r => exact ⟨.int i, iD r, by show PyData.tuple (iD z.2) = _; rw [e]; rfl⟩
  · obtain ⟨z, hz, rfl⟩ := List.mem_map.mp hb
    have := (Shp.tup (n := 0) (shp_iD z.2)).dep
    show (PyData.tuple (iD z.2)).depth ≤ 60
    omega
end Sh
namespace Sh
open PySem PySem.Spec PyProof.Rows L2
theorem v_any {K : PySem.W.Frag} {H : Hp} {Q : VK} {a : Addr} {bs : List Bool} (hs : SqL K H a (bs.map V.bl)) (q : Q (.bl (bs.any id)) H) : rAny K [.ref a] H Q := ⟨a, bs, rfl, hs, q⟩
end Sh
namespace Sh
open PySem PySem.Spec PyProof.Rows L2
theorem pg_tupK {X : Cx} {K : PySem.W.Frag} {pos : Pos} {es : List Expr} {k : Nat} {t : TGs} {n : Nat} (hK : X.K = K) (hc : X.calm = true) (h : PGs X es t)
    (hn : (assignEach es X.env).length = n := by rfl) (hst : (assignEach es X.env).findIdx? (·.1) = none := by rfl) : PG X (.Tuple es k pos) (gTup K n t) := hK ▸ pg_tup hc h hn hst
end Sh
namespace Sh
open PySem PySem.Spec PyProof.Rows L2
theorem LTup.upd {H : Hp} {as : List (Addr × List Int)} {l : Addr} {xs : List V} {o : HO} (h : LTup H as) (hl : H l = some (.lst xs)) : LTup (L2.upd H l o) as := fun z hz => by
  have e : z.1 ≠ l := fun e => by
    have := h z hz
    rw [e, hl] at this
    cases this
  rw [upd_ne e]
  exact h z hz
theorem LTup.app {H : Hp} {as bs : List (Addr × List Int)} (h : LTup H as) (h2 : LTup H bs) : LTup H (as ++ bs) := fun z hz => (List.mem_append.mp hz).elim (h z) (h2 z)
/-- a comprehension over a list, whose items are new tuples of ints -/
theorem lc_LA {K : PySem.W.Frag} {σ : L2.St} {H : Hp} {te : TE} {Q : VK} {α : Type} (G : α → V) {a : Addr} {xs : List α} {j : Nat} (g : α → List Int) (hx : H a = some (.lst (xs.map G))) (hn : xs.length ≤ sizeLine)
    (he : ∀ x H', x ∈ xs → Same H H' → ∀ Qv : VK, (∀ T, H' T = none → Qv (.ref T) (upd H' T (.tup ((g x).map V.int)))) → te ((σ.set j none).set j (some (G x))) H' Qv)
    (hd : ∀ L as H2, H L = none → Same H H2 → H2 L = some (.lst (as.map rV)) → LTup H2 as → as.map (·.2) = xs.map g → Q (.ref L) H2) : kLc (gName j) tYes te [j] σ Q (Itl K a) H := by
  intro L hL
  refine lc_list (xs := xs.map G) (fun i H' => ∃ as, Same H H' ∧ H' L = some (.lst (as.map rV)) ∧ LTup H' as ∧ as.map (·.2) = (xs.take i).map g) ⟨[], same_upd hL, upd_same, (fun z hz => nomatch hz), rfl⟩ (fun i H' _ ⟨as, e, _⟩ => SqL.of (e _ _ hx)) ?_ (fun H' ⟨as, e1, e2, e3, e4⟩ => hd L as H' hL e1 e2 e3 (by rw [List.length_map, List.take_length] at e4; exact e4))
  rintro i y H' hi ⟨as, sm, hLe, lt, ea⟩
  obtain ⟨x, hx2, rfl⟩ : ∃ x, xs[i]? = some x ∧ y = G x := by
    rw [List.getElem?_map] at hi
    cases e : xs[i]? with
    | none => rw [e] at hi; cases hi
    | some u => rw [e] at hi; exact ⟨u, rfl, (Option.some.inj hi).symm⟩
  have hm : x ∈ xs := List.mem_of_getElem? hx2
  have hlt : i < xs.length := (List.getElem?_eq_some_iff.mp hx2).1
  have et : xs.take (i + 1) = xs.take i ++ [x] := by rw [List.take_add_one, hx2]; rfl
  refine ⟨wipe_set, v_yes ?_⟩
  rw [if_pos rfl]
  refine he x _ hm sm _ fun T hT => ?_
  have sT := same_upd (o := .tup ((g x).map V.int)) hT
  have hLe2 := sT _ _ hLe
  have ln : as.length = min i xs.length := by
    have := congrArg List.length ea
    rw [List.length_map, List.length_map, List.length_take] at this
    exact this
  refine ⟨_, hLe2, by rw [List.length_map]; omega, as ++ [(T, g x)], fun b o e => ?_, ?_, ?_, ?_⟩
  · rw [upd_ne (ne_of_none e hL)]
    exact sT _ _ (sm _ _ e)
  · rw [upd_same, List.map_append]; rfl
  · refine LTup.upd (LTup.app (lt.same sT) fun z hz => ?_) hLe2
    rw [List.mem_singleton.mp hz]
    exact upd_same
  · rw [List.map_append, ea, et, List.map_append]; rfl
end Sh
namespace Sh
open PySem PySem.Spec PyProof.Rows L2
theorem cutL_whole {α : Type} {xs : List α} {lo hi : Option Int} (h : HT.sIx xs.length 0 lo = 0 ∧ HT.sIx xs.length xs.length hi = xs.length) : cutL xs lo hi = xs := by
  unfold cutL
  rw [h.1, h.2, List.drop_zero, Nat.sub_zero, List.take_length]
theorem v_slTA {K : PySem.W.Frag} {H : Hp} {Q : VK} {a : Addr} {xs : List V} {lo hi : Option Int} (h : H a = some (.tup xs)) (q : ∀ R H', Same H H' → H' R = some (.tup (cutL xs lo hi)) → Q (.ref R) H') : rSlA K (.ref a) lo hi H Q :=
  ⟨a, xs, rfl, SqT.of h, fun w => q a H (Same.refl _) (by rw [cutL_whole w]; exact h), fun _ p hp => q p _ (same_upd hp) upd_same⟩
theorem v_catTA {K : PySem.W.Frag} {H : Hp} {Q : VK} {a b : Addr} {xs ys : List V} (ha : H a = some (.tup xs)) (hb : H b = some (.tup ys)) (hz : xs.length + ys.length ≤ sizeLine) (q : ∀ R H', Same H H' → H' R = some (.tup (xs ++ ys)) → Q (.ref R) H') : rCatA K (.ref a) (.ref b) H Q :=
  ⟨a, b, xs, ys, rfl, rfl, SqT.of ha, SqT.of hb, hz, fun e => q b H (Same.refl _) (by rw [e]; exact hb), fun _ e => q a H (Same.refl _) (by rw [e, List.append_nil]; exact ha), fun _ _ p hp => q p _ (same_upd hp) upd_same⟩
/-- a list times a number -/
def repA {α : Type} (n : Nat) (l : List α) : List α := (List.replicate n l).flatten
theorem repA_len {α : Type} (n : Nat) (l : List α) : (repA n l).length = l.length * n := by
  unfold repA
  induction n with
  | zero => rfl
  | succ n ih => rw [List.replicate_succ, List.flatten_cons, List.length_append, ih, Nat.mul_succ]; omega
theorem repA_mem {α : Type} {n : Nat} {l : List α} {c : α} (h : c ∈ repA n l) : c ∈ l := by
  unfold repA at h
  obtain ⟨x, hx, hc⟩ := List.mem_flatten.mp h
  rw [(List.mem_replicate.mp hx).2] at hc
  exact hc
theorem repA_map {α β : Type} (f : α → β) (n : Nat) (l : List α) : repA n (l.map f) = (repA n l).map f := by
  unfold repA
  rw [List.map_flatten, List.map_replicate]
theorem v_repT {K : PySem.W.Frag} {H : Hp} {Q : VK} {α : Type} (G : α → V) {a : Addr} {xs : List α} {n : Nat} {j : Int} (e : j = (n : Int)) (h : H a = some (.tup (xs.map G))) (hne : xs ≠ []) (h2 : 2 ≤ n) (h3 : n ≤ 1000) (hl : xs.length ≤ 1000)
    (q : ∀ p, H p = none → Q (.ref p) (upd H p (.tup ((repA n xs).map G)))) : rRepT K (.ref a) (.int j) H Q := by
  subst e
  refine ⟨a, (n : Int), xs.map G, rfl, rfl, SqT.of h, fun e => hne (List.map_eq_nil_iff.mp e), by omega, by omega, by rw [List.length_map]; exact hl, fun p hp => ?_⟩
  have := q p hp
  rw [← repA_map] at this
  exact this
end Sh

namespace Sh
open PySem PySem.Spec PyProof.Rows L2
/-! ### set(xs), xs a list of ints -/
theorem ints_at {us : List Value} {ns : List Int} (h : IntsAre us ns) : ∀ (i : Nat) (v : Value), us[i]? = some v → ∃ t, v = .int (ns.getD i 0) t := by
  induction h with
  | nil => exact fun i v e => by simp at e
  | cons n t _ ih =>
    intro i v e
    cases i with
    | zero => exact ⟨t, by simpa using e.symm⟩
    | succ i =>
      obtain ⟨t', e'⟩ := ih i v (by simpa using e)
      exact ⟨t', by simpa using e'⟩
theorem setR_fresh' {w : World} {h : Heap} {a : Addr} (ho : h.get? a = some (bareSet w)) : L2.SetR w h a (fun _ => false) 0 :=
  ⟨_, #[], 0, _, ho, ⟨rfl, rfl, rfl⟩, rfl, (fun e he => nomatch he), List.nodup_nil, (fun k => by simp), (by decide), (by rfl), rfl, List.Pairwise.nil, by
    show _ ∨ (!w.params.followText "set-order") = true
    cases w.params.followText "set-order"
    · exact .inr rfl
    · exact .inl rfl⟩
section
variable {P : Program} {w : World} {A : Around} {E : Value → Shared → Prop} {s : Shared}
/-- what the set knows when i of the ints are in it -/
def FedI (w : World) (h : Heap) (D : Addr) (xs : List Int) (i : Nat) : Prop := ∃ (f : Int → Bool) (n : Nat), L2.SetR w h D f n ∧ n ≤ i ∧ ∀ x, f x = true ↔ x ∈ xs.take i
theorem FedI.at {h h' : Heap} {D : Addr} {xs : List Int} {i : Nat} (F : FedI w h D xs i) (k : ∀ o, h.get? D = some o → h'.get? D = some o) : FedI w h' D xs i :=
  let ⟨f, n, R, r⟩ := F
  ⟨f, n, SetR.at R k, r⟩
theorem setR_hash_addI {a : Addr} {f : Int → Bool} {n : Nat} {k : Int} {u : Tok} {Q : Bool → Shared → Prop} (R : L2.SetR w s.heap a f n) (room : n + 1 < scanBound)
    (q : ∀ b h', Heap.SameBut a s.heap h' → L2.SetR w h' a (fun j => f j || decide (j = k)) (if f k = true then n else n + 1) → Q b { s with heap := h', toks := s.toks + 1 }) : wpAny (model P w) A (setAdd a (.int k u)) Q E s := by
  unfold setAdd
  exact wpAny_holding (wpAny_bind ((intKind P w).pyHash (intKind_is P w k u) (setR_add_hashed (s := { s with toks := s.toks + 1 }) R room fun h' sb r => q _ h' sb r)))
theorem feedI {I D : Addr} {fp wr : List Addr} {G : Array GenState → Array GenState → Prop} {Pv : Nat → Value → Prop} {St : Nat → Shared → Prop} {R : Result → Shared → Prop} {xs : List Int}
    (W : WalksS P w A.in1 I fp wr G xs.length Pv St) (hD : D ∉ fp) (hb : xs.length + 1 < scanBound) (hv : ∀ i v, Pv i v → ∃ x t, xs[i]? = some x ∧ v = .int x t) :
    ∀ (k i : Nat) (s : Shared), i + k = xs.length → St i s → FedI w s.heap D xs i → (∀ s', Moved (D :: wr) G s s' → FedI w s'.heap D xs xs.length → R (.ok (.ret .none)) s') →
      codeAny (model P w) A (.builtin "set.update.loop" ⟨[.ref D, .ref I], []⟩) R s := by
  have out : D ∉ wr := fun h => hD (W.sub _ h)
  have wider : ∀ b ∈ wr, b ∈ D :: wr := fun b hb => List.mem_cons_of_mem _ hb
  intro k
  induction k with
  | zero =>
    intro i s hi st fd q
    obtain rfl : i = xs.length := hi
    refine codeAny_builtin F.entry_set_update_loop ?_
    rw [Around.under_plainId F.plain_set_update_loop _]
    refine wpAny_bind (m := pyNext (.ref I)) (W.done s _ _ st fun s' mv => ?_)
    exact wpAny_pure (q s' (mv.mono wider) (fd.at fun o e => mv.heap D o out e))
  | succ k ih =>
    intro i s hi st fd q
    refine codeAny_builtin F.entry_set_update_loop ?_
    rw [Around.under_plainId F.plain_set_update_loop _]
    refine wpAny_bind (m := pyNext (.ref I)) (W.item i s _ _ (by omega) st fun v s1 pv st1 mv => ?_)
    obtain ⟨x, t, hx, rfl⟩ := hv i v pv
    obtain ⟨f, n, R1, hl, hm⟩ := fd.at (h' := s1.heap) fun o e => mv.heap D o out e
    refine wpAny_bind (m := holding [Value.int x t] (setAdd D (.int x t))) (wpAny_holding (setR_hash_addI R1 (by omega) fun b h' sb R2 => ?_))
    have old : ∀ b ∈ fp, ∀ o, s1.heap.get? b = some o → h'.get? b = some o := fun b hb o e => (sb.2 b fun z => hD (z ▸ hb)).trans e
    refine wpAny_pure ⟨plainId_quiet F.plain_set_update_loop _, ih (i + 1) _ (by omega) (W.frame _ s1 _ _ st1 (Nat.le_succ _) old) ⟨_, _, R2, ?_, fun y => ?_⟩ fun s' mv' F' => q s' (Moved.trans W.gtrans ((mv.mono wider).then_heap (Nat.le_succ _) fun b o hb e => ?_) mv') F'⟩
    · split <;> omega
    · rw [Bool.or_eq_true, decide_eq_true_eq, hm y, List.take_add_one, hx, List.mem_append]
      show _ ↔ _ ∨ y ∈ [x]
      rw [List.mem_singleton]
    · exact (sb.2 b fun z => hb (z ▸ List.mem_cons_self)).trans e
/-- set(xs), xs a list of ints -/
theorem set_of_listI {a : Addr} {its : Array Value} {xs : List Int} {Q : Value → Shared → Prop} (hh : A.handled = none) (hl : s.heap.IsList a its) (hS : IntsAre its.toList xs) (hb : xs.length + 1 < scanBound)
    (q : ∀ h' tk, FedI w h' s.heap.objs.size xs xs.length → (∀ b o, s.heap.get? b = some o → h'.get? b = some o) → Q (.ref s.heap.objs.size) { s with heap := h', toks := tk }) :
    wpAny (model P w) A (call (.type "set") [.ref a]) Q E s := by
  have hsz : its.size = xs.length := by rw [← Array.length_toList]; exact hS.length
  obtain ⟨c, tl, mro⟩ := F.called_set.mro
  have made := F.called_set.made
  have sub := F.called_set.sub
  refine wpAny_call (codeAny_of_tree (show wpAny _ _ (callAny (.type "set") _) _ _ _ from wpAny_pure ⟨Code.quiet_builtin _ (by decide +kernel), codeAny_builtin F.entry_type_call ?_⟩))
  rw [Around.under_plain (weight_type_call_type "set" [.ref a] []) rfl]
  have t1 := F.called_set.notType
  have t2 := F.called_set.canCreate
  have t3 := F.typeCall_set_1 (.ref a)
  repeat (any_goals (first | assumption | wp_step))
  refine codeAny_mono (set_newcode (.ref a) (E := E) (Q₁ := fun v s1 => v = .ref s.heap.objs.size ∧ s1 = { s with heap := s.heap.push (bareSet w) }) ⟨rfl, rfl⟩) fun r s1 hr => ?_
  cases r with
  | error e => exact hr
  | ok fl =>
    cases fl with
    | ret v =>
      obtain ⟨rfl, rfl⟩ := hr
      generalize hp : s.heap.push (bareSet w) = p
      have new : p.get? s.heap.objs.size = some (bareSet w) := by rw [← hp]; exact Heap.get?_push_size _ rfl
      have psz : p.objs.size = s.heap.objs.size + 1 := by rw [← hp, Heap.size_push]
      have grow : ∀ b o, s.heap.get? b = some o → p.get? b = some o := fun b o e => by rw [← hp]; exact Heap.get?_push_of_some _ e
      have isSet : Shared.TypeIs { s with heap := p } (.ref s.heap.objs.size) "set" := ⟨_, new, rfl⟩
      have i1 := F.called_set.init.lookup
      have i2 := F.called_set.init.bind (.ref s.heap.objs.size)
      repeat (any_goals (first | assumption | wp_step))
      refine codeAny_mono (codeAny_call_builtin (R := wants (fun r s2 => r = .none ∧ ∃ h' tk, s2 = { s with heap := h', toks := tk } ∧ FedI w h' s.heap.objs.size xs xs.length ∧ ∀ b o, s.heap.get? b = some o → h'.get? b = some o) E)
        F.called_set.init.plain F.entry_set_init (check_set_init_1 isSet ?_)) fun r2 s2 hr2 => ?_
      · obtain ⟨⟨oc, od, ot, os⟩, ho, hc, nl, hd⟩ := hl
        obtain rfl : oc = .type "list" := hc
        obtain rfl : ot = .seq its nl := hd
        have ho' := grow _ _ ho
        have k1 := F.sub_list_set
        have k2 := F.sub_list_frozenset
        have k3 : (Value.type "list" == Value.type "dict") = false := by decide
        have lp : p.IsList a its := ⟨_, ho', rfl, nl, rfl⟩
        unfold Builtin.«set.__init__» noKeywords Builtin.Frozenset.updateFrom
        generalize hnx : pyIter = NX
        wp_walk
        subst hnx
        refine wpAny_pyIter_list lp (wpAny_bind (wpAny_runValue ?_))
        have lt : a < s.heap.objs.size := Heap.lt_size ho
        have ne1 : a ≠ p.objs.size := by rw [psz]; exact Nat.ne_of_lt (Nat.lt_succ_of_lt lt)
        have ne2 : s.heap.objs.size ∉ [p.objs.size, a] := by
          intro z
          rw [psz] at z
          rcases List.mem_cons.mp z with z | z
          · exact Nat.ne_of_lt (Nat.lt_succ_self _) z
          · exact Nat.ne_of_gt lt (List.mem_singleton.mp z)
        have val : ∀ (i : Nat) (v : Value), its[i]? = some v → ∃ x t, xs[i]? = some x ∧ v = .int x t := fun i v hv => by
          have lti : i < xs.length := by rw [← hsz]; exact (Array.getElem?_eq_some_iff.mp hv).1
          obtain ⟨t, e⟩ := ints_at hS i v (by rw [Array.getElem?_toList]; exact hv)
          exact ⟨xs[i], t, List.getElem?_eq_getElem lti, by rw [e, List.getD_eq_getElem?_getD, List.getElem?_eq_getElem lti]; rfl⟩
        have W := (Walks.list (prog := P) (w := w) (A := A.in1.in1.in1) (by simp [hh]) p.objs.size a ne1 its).toS
        rw [hsz] at W
        refine feedI W ne2 hb val xs.length 0 _ (Nat.zero_add _) ⟨⟨_, Heap.get?_push_size _ rfl, rfl, rfl⟩, lp.push _⟩ ⟨_, 0, SetR.at (setR_fresh' new) fun o e => Heap.get?_push_of_some _ e, Nat.zero_le _, fun x => by simp⟩ fun s' mv F' => ?_
        obtain ⟨h', g', d', tk', os'⟩ := s'
        obtain rfl : g' = s.gens := mv.gens
        obtain rfl : d' = s.drawn := mv.drawn
        obtain rfl : os' = s.os := mv.os
        refine wpAny_pure (show wpAny _ _ (ret Value.none) _ _ _ from wpAny_pure ⟨rfl, h', tk', rfl, F', fun b o e => ?_⟩)
        have hb0 : b < s.heap.objs.size := Heap.lt_size e
        refine mv.heap b o (fun z => ?_) (Heap.get?_push_of_some _ (grow b o e))
        rcases List.mem_cons.mp z with z | z
        · exact Nat.ne_of_lt hb0 z
        · rw [psz] at z
          exact Nat.ne_of_lt (Nat.lt_succ_of_lt hb0) (List.mem_singleton.mp z)
      · cases r2 with
        | error e => exact hr2
        | ok fl2 =>
          cases fl2 with
          | ret r =>
            obtain ⟨rfl, h', tk, rfl, F', kk⟩ := hr2
            repeat (any_goals (first | assumption | wp_step))
            exact q _ _ F' kk
          | _ => exact hr2.elim
    | _ => exact hr.elim
end
end Sh
namespace Sh
open PySem PySem.Spec PyProof.Rows L2
section
variable {P : Program} {w : World} {K : PySem.W.Frag} {σ : L2.St} {H : Hp} {Q : VK}
/-- set(xs) of a list of ints -/
def rSetOfI (K : PySem.W.Frag) (w : World) : List V → Hp → VK → Prop := fun vs H Q => ∃ (a : Addr) (xs : List Int), vs = [V.ref a] ∧ SqL K H a (xs.map V.int) ∧ xs.length + 1 < scanBound ∧
  ∀ (D : Addr) (f : Int → Bool) (n : Nat), H D = none → n ≤ xs.length → (∀ x, f x = true ↔ x ∈ xs) → Q (.ref D) (upd H D (SetO w D f n))
theorem cr_setOfI {X : Cx} (hc : X.calm = true) : CallR X (.type "set") (rSetOfI X.K X.w) := by
  intro pins s σ H vs us Q I r h
  obtain ⟨a, xs, rfl, hs, hb, q⟩ := h
  obtain ⟨its, rv, hl, _⟩ := I.list hs
  rw [Vals.ref1 r]
  refine set_of_listI (I.ok.hd hc) hl.isList rv.ints hb fun h' tk F k => ?_
  obtain ⟨f, n, R, hlen, hm⟩ := F
  refine ⟨.ref _, upd H s.heap.objs.size (SetO X.w s.heap.objs.size f n), I.laid (t' := tk) k (Nat.le_refl _) (setO_new R), rfl, q _ f n (I.hok.fresh (Nat.le_refl _)) hlen fun x => ?_⟩
  rw [hm, List.take_length]
/-- one rule of two -/
theorem call_or {X : Cx} {f : Value} {r1 r2 : List V → Hp → VK → Prop} (h1 : CallR X f r1) (h2 : CallR X f r2) : CallR X f (fun vs H Q => r1 vs H Q ∨ r2 vs H Q) := by
  intro pins s σ H vs us Q I r h
  exact h.elim (h1 pins s σ H vs us Q I r) (h2 pins s σ H vs us Q I r)
theorem v_sortSI {a : Addr} {f : Int → Bool} {n : Nat} (ha : H a = some (SetO w a f n)) (hn : n < 64)
    (q : ∀ (ns : List Int) (p : Addr), ns.Pairwise (· < ·) → (∀ k : Int, k ∈ ns ↔ f k = true) → ns.length = n → H p = none → Q (.ref p) (upd H p (.lst (ns.map V.int)))) : rSortedSet w [.ref a] H Q := ⟨a, f, n, rfl, ha, hn, q⟩
end
end Sh

namespace Sh
open PySem PySem.Spec PyProof.Rows L2
section
variable {K : PySem.W.Frag} {σ : L2.St} {H : Hp} {tt : TT} {te tk tv : TE} {Q : VK} {α β : Type}
/-- where the keys have their places -/
theorem put_zip (f : α → Key) (inj : ∀ x y, f x = f y → x = y) : ∀ (ds : List α) (n : Nat) (kvs : List (Key × V)), ds.Nodup → ∀ x i, ds[i]? = some x → valV ((ds.zipIdx n).foldl (fun k z => putK k (f z.1) (.int (z.2 : Nat))) kvs) (f x) = some (.int ((n + i : Nat) : Int))
  | [], _, _, _, x, i, h => by simp at h
  | d :: ds, n, kvs, nd, x, i, h => by
    rw [List.zipIdx_cons, List.foldl_cons]
    obtain ⟨h1, h2⟩ := List.nodup_cons.mp nd
    cases i with
    | zero =>
      have e : d = x := by simpa using h
      subst e
      have keep : ∀ (es : List α) (m : Nat) (kv : List (Key × V)), d ∉ es → valV ((es.zipIdx m).foldl (fun k z => putK k (f z.1) (.int (z.2 : Nat))) kv) (f d) = valV kv (f d) := by
        intro es
        induction es with
        | nil => exact fun m kv _ => rfl
        | cons e es ih =>
          intro m kv hn
          rw [List.zipIdx_cons, List.foldl_cons, ih _ _ (fun z => hn (List.mem_cons_of_mem _ z)), valV_put, if_neg]
          intro z
          exact hn (by rw [inj _ _ z]; exact List.mem_cons_self)
      rw [keep ds (n + 1) _ h1, valV_put, if_pos rfl]
      rfl
    | succ i =>
      have := put_zip f inj ds (n + 1) (putK kvs (f d) (.int (n : Nat))) h2 x i (by simpa using h)
      rw [this]
      congr 2
      omega
/-- {key: place for place, key in enumerate(a list)} -/
theorem dc_E (G : α → V) (f : α → Key) (inj : ∀ x y, f x = f y → x = y) {a : Addr} {ds : List α} {j k : Nat} (hjk : j ≠ k) (hx : H a = some (.lst (ds.map G))) (hn : ds.length ≤ sizeLine) (nd : ds.Nodup)
    (hk : ∀ (i : Nat) x H', ds[i]? = some x → Same H H' → ∀ Qv : VK, Qv (kV (f x)) H' → tk (((wipe σ [j, k]).set j (some (.int (i : Int)))).set k (some (G x))) H' Qv)
    (hv : ∀ (i : Nat) x H', ds[i]? = some x → Same H H' → ∀ Qv : VK, Qv (.int (i : Int)) H' → tv (((wipe σ [j, k]).set j (some (.int (i : Int)))).set k (some (G x))) H' Qv)
    (hd : ∀ D kvs H2, H D = none → Same H H2 → H2 D = some (.dK kvs) → kvs.length ≤ ds.length → (∀ (i : Nat) x, ds[i]? = some x → valV kvs (f x) = some (.int (i : Int))) → Q (.ref D) H2) :
    kDc (gTup K 2 (gCons (gName j) (gCons (gName k) gNil))) tYes tk tv [j, k] σ Q (Ite K a) H := by
  intro D hD
  have nm : ∀ (i : Nat) (v : V) (τ : L2.St) (H' : Hp) (R : L2.St → Hp → Prop), R (τ.set i (some v)) H' → gName i v τ H' R := fun _ _ _ _ _ q => q
  let kv : Nat → List (Key × V) := fun i => (ds.zipIdx.take i).foldl (fun k z => putK k (f z.1) (.int (z.2 : Nat))) []
  refine ⟨fun i m H' => m = ds.length - i ∧ i ≤ ds.length ∧ Same H H' ∧ H' D = some (.dK (kv i)) ∧ (kv i).length ≤ i, ⟨ds.length, by simp, Nat.zero_le _, same_upd hD, upd_same, Nat.le_refl _⟩, ?_⟩
  rintro i m H' ⟨rfl, hi, sm, hDe, hl⟩
  by_cases hlt : i < ds.length
  · have hx2 : ds[i]? = some ds[i] := List.getElem?_eq_getElem hlt
    have hit : (ds.map G)[i]? = some (G ds[i]) := by rw [List.getElem?_map, hx2]; rfl
    refine .inr ⟨⟨_, _, SqL.of (sm _ _ hx), hit⟩, fun H' => i + 1 ≤ ds.length ∧ Same H H' ∧ H' D = some (.dK (kv (i + 1))) ∧ (kv (i + 1)).length ≤ i + 1, fun H' h => ⟨ds.length - (i + 1), by omega, rfl, h.1, h.2⟩, fun v H2 hy => ?_⟩
    obtain ⟨T, x, rfl, hT, rfl, hy⟩ := hy
    have ex := hy _ (SqL.of (sm _ _ hx))
    rw [hit] at ex
    cases Option.some.inj ex
    have sT := sm.trans (same_upd (o := .tup [.int (i : Int), G ds[i]]) hT)
    have hDe := same_upd (o := .tup [.int (i : Int), G ds[i]]) hT _ _ hDe
    refine ⟨T, _, rfl, SqT.of upd_same, rfl, _, _, rfl, nm _ _ _ _ _ ⟨_, _, rfl, nm _ _ _ _ _ ⟨rfl, wipe_two hjk _ _, v_yes ?_⟩⟩⟩
    generalize upd H' T (.tup [.int (i : Int), G ds[i]]) = H3 at sT hDe ⊢
    rw [if_pos rfl]
    refine hk i ds[i] _ hx2 sT _ (hv i ds[i] _ hx2 sT _ ⟨_, f ds[i], rfl, hDe, by omega, hlt, fun b o e => ?_, ?_, ?_⟩)
    · rw [upd_ne (ne_of_none e hD)]
      exact sT _ _ e
    all_goals
      have hz : ds.zipIdx[i]? = some (ds[i], i) := by rw [List.getElem?_zipIdx, hx2]; simp
      have et : ds.zipIdx.take (i + 1) = ds.zipIdx.take i ++ [(ds[i], i)] := by rw [List.take_add_one, hz]; rfl
      have ek : kv (i + 1) = putK (kv i) (f ds[i]) (.int (i : Int)) := by
        show (ds.zipIdx.take (i + 1)).foldl _ _ = _
        rw [et, List.foldl_append]
        rfl
      rw [ek]
    · exact upd_same
    · have := put_len (kv i) (f ds[i]) (.int (i : Int))
      omega
  · have e : i = ds.length := by omega
    subst e
    refine .inl ⟨⟨_, SqL.of (sm _ _ hx), by rw [List.length_map]; exact Nat.le_refl _⟩, hd D _ H' hD sm hDe hl fun i x h => ?_⟩
    have := put_zip f inj ds 0 [] nd x i h
    rw [Nat.zero_add] at this
    show valV ((ds.zipIdx.take ds.length).foldl _ _) _ = _
    rw [List.take_of_length_le (by rw [List.length_zipIdx]; exact Nat.le_refl _)]
    exact this
/-- a comprehension over zip(a list, a list) -/
theorem lc_Z (G : α → V) (F : β → V) {a b : Addr} {xs : List α} {ys : List β} {j k : Nat} (hjk : j ≠ k) (f : α → β → V) (hx : H a = some (.lst (xs.map G))) (hy : H b = some (.lst (ys.map F))) (hl : xs.length = ys.length) (hn : xs.length ≤ sizeLine)
    (he : ∀ (i : Nat) x y H', xs[i]? = some x → ys[i]? = some y → Same H H' → ∀ Qv : VK, Qv (f x y) H' → te (((wipe σ [j, k]).set j (some (G x))).set k (some (F y))) H' Qv)
    (hd : ∀ L H2, H L = none → Same H H2 → H2 L = some (.lst ((xs.zip ys).map fun z => f z.1 z.2)) → Q (.ref L) H2) :
    kLc (gTup K 2 (gCons (gName j) (gCons (gName k) gNil))) tYes te [j, k] σ Q (Itz K a b) H := by
  intro L hL
  have nm : ∀ (i : Nat) (v : V) (τ : L2.St) (H' : Hp) (R : L2.St → Hp → Prop), R (τ.set i (some v)) H' → gName i v τ H' R := fun _ _ _ _ _ q => q
  refine ⟨fun i m H' => m = xs.length - i ∧ i ≤ xs.length ∧ Same H H' ∧ H' L = some (.lst (((xs.zip ys).take i).map fun z => f z.1 z.2)), ⟨xs.length, by simp, Nat.zero_le _, same_upd hL, upd_same⟩, ?_⟩
  rintro i m H' ⟨rfl, hi, sm, hLe⟩
  by_cases hlt : i < xs.length
  · have hlt2 : i < ys.length := by omega
    have hx2 : xs[i]? = some xs[i] := List.getElem?_eq_getElem hlt
    have hy2 : ys[i]? = some ys[i] := List.getElem?_eq_getElem hlt2
    have hit : (xs.map G)[i]? = some (G xs[i]) := by rw [List.getElem?_map, hx2]; rfl
    have hit2 : (ys.map F)[i]? = some (F ys[i]) := by rw [List.getElem?_map, hy2]; rfl
    refine .inr ⟨⟨_, _, _, _, SqL.of (sm _ _ hx), SqL.of (sm _ _ hy), hit, hit2⟩, fun H' => i + 1 ≤ xs.length ∧ Same H H' ∧ H' L = some (.lst (((xs.zip ys).take (i + 1)).map fun z => f z.1 z.2)), fun H' h => ⟨xs.length - (i + 1), by omega, rfl, h.1, h.2⟩, fun v H2 hyy => ?_⟩
    obtain ⟨T, x, y, rfl, hT, rfl, h1, h2⟩ := hyy
    have ex := h1 _ (SqL.of (sm _ _ hx))
    rw [hit] at ex
    cases Option.some.inj ex
    have ey := h2 _ (SqL.of (sm _ _ hy))
    rw [hit2] at ey
    cases Option.some.inj ey
    have sT := sm.trans (same_upd (o := .tup [G xs[i], F ys[i]]) hT)
    have hLe := same_upd (o := .tup [G xs[i], F ys[i]]) hT _ _ hLe
    refine ⟨T, _, rfl, SqT.of upd_same, rfl, _, _, rfl, nm _ _ _ _ _ ⟨_, _, rfl, nm _ _ _ _ _ ⟨rfl, wipe_two hjk _ _, v_yes ?_⟩⟩⟩
    generalize upd H' T (.tup [G xs[i], F ys[i]]) = H3 at sT hLe ⊢
    rw [if_pos rfl]
    have hlen : (((xs.zip ys).take i).map fun z => f z.1 z.2).length < sizeLine := by
      rw [List.length_map, List.length_take, List.length_zip]
      omega
    have hz : (xs.zip ys)[i]? = some (xs[i], ys[i]) := List.getElem?_zip_eq_some.mpr ⟨hx2, hy2⟩
    have et : (xs.zip ys).take (i + 1) = (xs.zip ys).take i ++ [(xs[i], ys[i])] := by rw [List.take_add_one, hz]; rfl
    refine he i xs[i] ys[i] _ hx2 hy2 sT _ ⟨_, hLe, hlen, hlt, fun b o e => ?_, ?_⟩
    · rw [upd_ne (ne_of_none e hL)]
      exact sT _ _ e
    · rw [upd_same, et, List.map_append]
      rfl
  · have e : i = xs.length := by omega
    subst e
    refine .inl ⟨⟨_, _, SqL.of (sm _ _ hx), SqL.of (sm _ _ hy), .inl (by rw [List.length_map]; exact Nat.le_refl _)⟩, hd L H' hL sm ?_⟩
    rw [hLe, List.take_of_length_le (by rw [List.length_zip]; omega)]
theorem v_iZ {ta : TA} {R : It → Hp → Prop} (q : ta σ H fun vs H1 => ∃ a b xs ys, vs = [.ref a, .ref b] ∧ SqL K H1 a xs ∧ SqL K H1 b ys ∧ R (Itz K a b) H1) : iZip K ta σ H R := q
/-- [c] * n -/
theorem v_repL1 {a : Addr} {v : V} {n : Nat} {j : Int} (e : j = (n : Int)) (h : H a = some (.lst [v])) (hn : n ≤ 16777216) (q : ∀ p, H p = none → Q (.ref p) (upd H p (.lst (List.replicate n v)))) : rRep (.ref a) (.int j) H Q := by
  subst e
  refine ⟨a, (n : Int), [v], rfl, rfl, h, by omega, by omega, ?_, fun p hp => ?_⟩
  · rw [sizeLine_eq]; simp; omega
  · have e : (List.replicate (n : Int).toNat [v]).flatten = List.replicate n v := by
      rw [Int.toNat_natCast]
      clear q hn h hp
      induction n with
      | zero => rfl
      | succ n ih => rw [List.replicate_succ, List.flatten_cons, ih, List.replicate_succ]; rfl
    rw [e]
    exact q p hp
theorem v_maxL {a : Addr} {ns : List Int} (hs : SqL K H a (ns.map V.int)) (hne : ns ≠ []) (q : ∀ m, m ∈ ns → (∀ y, y ∈ ns → y ≤ m) → Q (.int m) H) : rMax K [.ref a] H Q := ⟨a, ns, rfl, hs, List.length_pos_iff.mpr hne, q⟩
end
end Sh
namespace Sh
open PySem PySem.Spec PyProof.Rows L2
theorem mo_max {K : PySem.W.Frag} : MoC (rMax K) := fun x H Q Q' m ⟨a, b, c, d, e, q⟩ => ⟨a, b, c, d, e, fun z h1 h2 => m _ _ (q z h1 h2)⟩
end Sh

namespace Sh
open PySem PySem.Spec PyProof.Rows L2
/-! ### sorted of a tuple of ints -/
theorem sorted_tupI {prog : Program} {w : World} {A : Around} {E : Value → Shared → Prop} {s : Shared} {a : Addr} {its : List Value} {ns : List Int} {Q : Value → Shared → Prop} (hT : IsTup s.heap a its.toArray) (hI : IntsAre its ns) (hL : its.length ≤ sizeLine)
    (q : ∀ (h1 h' : Heap) (p : Addr) (out : Array Value) (c : Nat) (ns' : List Int), (∀ b o, s.heap.get? b = some o → h1.get? b = some o) → (∀ b o, h1.get? b = some o → h'.get? b = some o) → h1.objs.size ≤ p → h'.get? p = some (seqObj "list" out c) → IntsAre out.toList ns' → ns'.Perm ns → ns'.Pairwise (· ≤ ·) → Q (.ref p) { s with heap := h' }) :
    wpAny (model prog w) A (call (.builtin "sorted") [.ref a]) Q E s := by
  obtain ⟨o, ho, hc, n, hd⟩ := hT
  refine Calls.call_function_entry kind_sorted plain_sorted entry_sorted (args_sorted1 _) ?_
  unfold Builtin.«sorted»
  refine wpAny_bind (m := checkCount "sorted" 1 1 _) (wpAny_pure (wpAny_bind (wpAny_collect_seq a (.inr rfl) ho hc hd (fun h1 k1 => ?_) (by simpa using hL))))
  refine wpAny_bind (wpAny_newList ?_ (by simpa using hL))
  have hoL : (h1.push (seqObj "list" its.toArray 0)).get? h1.objs.size = some (seqObj "list" its.toArray 0) := Heap.get?_push_size _ rfl
  have e2 : wpAny (model prog w) A.in1.in1 (Builtin.«list.sort» ⟨[.ref h1.objs.size], []⟩) (fun r s2 => ∃ (out : Array Value) (ys : List Int), r = .done (.ret .none) ∧ s2 = { s with heap := sortedHeap (h1.push (seqObj "list" its.toArray 0)) h1.objs.size its out } ∧ IntsAre out.toList ys ∧ ys.Perm ns ∧ ys.Pairwise (· ≤ ·)) E { s with heap := h1.push (seqObj "list" its.toArray 0) } :=
    list_sort_treeAny (s := { s with heap := h1.push (seqObj "list" its.toArray 0) }) hoL hI hL fun out ys y1 y2 y3 => ⟨out, ys, rfl, rfl, y1, y2, y3⟩
  refine wpAny_bind (wpAny_holding (wpAny_call_entry slot_list_sort ⟨_, hoL, rfl⟩ entry_list_sort (wpAny_mono e2 (fun r s2 h => ?_) fun _ _ e => e) (args_list_sort _)))
  obtain ⟨out, ys, rfl, rfl, y1, y2, y3⟩ := h
  obtain ⟨c, hcx⟩ := sortedHeap_at (vs := its) (out := out) hoL
  refine ⟨_, rfl, wpAny_pure ⟨_, rfl, q h1 _ h1.objs.size out c ys k1 (fun b u e => ?_) (Nat.le_refl _) hcx y1 y2 y3⟩⟩
  have hlt := Heap.lt_size e
  show (sortedHeap (h1.push (seqObj "list" its.toArray 0)) h1.objs.size its out).get? b = some u
  rw [sortedHeap_old (Nat.ne_of_lt hlt) (by rw [size_push']; exact Nat.lt_succ_of_lt hlt)]
  exact Heap.get?_push_of_some _ e
def rSortIT (K : PySem.W.Frag) : List V → Hp → VK → Prop := fun vs H Q => ∃ (a : Addr) (ns : List Int), vs = [V.ref a] ∧ SqT K H a (ns.map V.int) ∧ ∀ (ns' : List Int) (p : Addr), ns'.Perm ns → ns'.Pairwise (· ≤ ·) → H p = none → Q (.ref p) (upd H p (.lst (ns'.map V.int)))
theorem cr_sortIT {X : Cx} : CallR X (.builtin "sorted") (rSortIT X.K) := by
  intro pins s σ H vs us Q I r h
  obtain ⟨a, ns, rfl, hs, q⟩ := h
  obtain ⟨its, rv, hT, hz⟩ := I.tuple hs
  rw [Vals.ref1 r]
  have hz2 : its.length ≤ sizeLine := by rw [← rv.length]; exact hz
  refine sorted_tupI hT rv.ints hz2 fun h1 h' p out c ns' k1 k hp hg hi pm pw => ?_
  have hlen : (ns'.map V.int).length ≤ sizeLine := by
    rw [List.length_map, pm.length_eq]
    rw [List.length_map] at hz
    exact hz
  have I1 : Inv X pins σ H { s with heap := h1 } := I.kept (t' := s.toks) k1
  have hn : H p = none := I1.hok.fresh hp
  exact ⟨.ref p, upd H p (.lst (ns'.map V.int)), I1.laid (t' := s.toks) k hp ⟨hlen, out.toList, c, vals_of_ints hi, hg⟩, rfl, q ns' p pm pw hn⟩
theorem v_sortIT {K : PySem.W.Frag} {H : Hp} {Q : VK} {a : Addr} {ns : List Int} (hs : SqT K H a (ns.map V.int)) (q : ∀ (ns' : List Int) (p : Addr), ns'.Perm ns → ns'.Pairwise (· ≤ ·) → H p = none → Q (.ref p) (upd H p (.lst (ns'.map V.int)))) : rSortIT K [.ref a] H Q := ⟨a, ns, rfl, hs, q⟩
end Sh

namespace Sh
open PySem PySem.Spec PyProof.Rows L2
/-! ### sorted of a dict with text keys; sum, max, index of tuples of ints -/
def rSortDX : List V → Hp → VK → Prop := fun vs H Q => ∃ (a : Addr) (kvs : List (Key × V)) (ks : List (List Nat)), vs = [V.ref a] ∧ H a = some (.dK kvs) ∧ kvs.map (·.1) = ks.map (fun k => Sum.inr (S k)) ∧ ks.length ≤ 100000 ∧
  ∀ (ys : List (List Nat)) (p : Addr), ys.Perm ks → ys.Pairwise (fun a b : List Nat => a ≤ b) → H p = none → Q (.ref p) (upd H p (.lst (ys.map tV)))
theorem cr_sortDX {X : Cx} (hcalm : X.calm = true) : CallR X (.builtin "sorted") rSortDX := by
  intro pins s σ H xs us Q I r q
  obtain ⟨a, kvs, ks0, rfl, hd, hks, hbig, q⟩ := q
  rw [Vals.ref1 r]
  generalize hk0 : ks0.map S = ks
  have hks : kvs.map (·.1) = ks.map Sum.inr := by rw [hks, ← hk0, List.map_map]; rfl
  have hkl : ks.length ≤ 100000 := by rw [← hk0, List.length_map]; exact hbig
  obtain ⟨z, lo, vs, rel, dd⟩ := dk_rd I.hok (.inl hd)
  obtain ⟨ep, hat⟩ := dd.dictAt
  have hkeys : vs.map (·.1) = ks.map Sum.inr := rel.keys.symm.trans hks
  have hl : vs.length = ks.length := by
    have := congrArg List.length hkeys
    simpa using this
  have hsl : ks.length ≤ sizeLine := by rw [sizeLine_eq]; omega
  refine Calls.call_function_entry kind_sorted plain_sorted entry_sorted (args_sorted1 _) ?_
  unfold Builtin.«sorted»
  refine wpAny_bind (m := checkCount "sorted" 1 1 _) (wpAny_pure (wpAny_bind (PySem.W.kdu_collect (A := X.A.in1) (PySem.W.kdl_dict (knd := mixKind X.prog X.w) (kvs := vs) (ep := ep) lo) (I.ok.hd hcalm) hat (by omega) fun h1 tk acc k1 got => ?_)))
  have hal : acc.toList.length = ks.length := by rw [Array.length_toList, got.1, hl]
  have hS : StrsAre acc.toList ks := L2.strs_at hal fun j v e => by
    obtain ⟨k, x, e1, e2⟩ := got.2 j v (by rw [← Array.getElem?_toList]; exact e)
    have e3 : (vs.map (·.1))[j]? = some k := by rw [List.getElem?_map, e1]; all_goals rfl
    rw [hkeys, List.getElem?_map] at e3
    cases e4 : ks[j]? with
    | none => rw [e4] at e3; cases e3
    | some y =>
      rw [e4] at e3
      obtain rfl : Sum.inr y = k := Option.some.inj e3
      obtain ⟨t, ev⟩ := Value.isStrOf_shape (x := y) (v := v) e2
      exact ⟨y, t, rfl, ev⟩
  have hvl : acc.toList.length ≤ sizeLine := by omega
  refine wpAny_bind (wpAny_newList ?_ hvl)
  have hoL : (h1.push (seqObj "list" acc.toList.toArray 0)).get? h1.objs.size = some (seqObj "list" acc.toList.toArray 0) := Heap.get?_push_size _ rfl
  have e2 : wpAny (model X.prog X.w) X.A.in1.in1 (Builtin.«list.sort» ⟨[.ref h1.objs.size], []⟩) (fun r s2 => ∃ (out : Array Value) (ys : List Str), r = .done (.ret .none) ∧ s2 = { s with heap := sortedHeap (h1.push (seqObj "list" acc.toList.toArray 0)) h1.objs.size acc.toList out, toks := tk } ∧ StrsAre out.toList ys ∧ ys.Perm ks ∧ sortedS ys = true) X.xe { s with heap := h1.push (seqObj "list" acc.toList.toArray 0), toks := tk } := by
    refine list_sort_treeKAny strKind_oneLt (s := { s with heap := h1.push (seqObj "list" acc.toList.toArray 0), toks := tk }) hoL hS.keysOf (fun v₁ v₂ rest e => keyKind_strs (by rw [← e]; exact hS)) hvl fun st' a1 a2 => ?_
    obtain ⟨ys, g1, g2, g3⟩ := sorted_out_str hS a1 a2
    exact ⟨_, ys, rfl, rfl, g1, g2, g3⟩
  refine wpAny_bind (wpAny_holding (wpAny_call_entry slot_list_sort ⟨_, hoL, rfl⟩ entry_list_sort (wpAny_mono e2 (fun r s2 h => ?_) fun _ _ e => e) (args_list_sort _)))
  obtain ⟨out, ys, rfl, rfl, g1, g2, g3⟩ := h
  obtain ⟨c, hcx⟩ := sortedHeap_at (vs := acc.toList) (out := out) hoL
  have I1 : Inv X pins σ H { s with heap := h1, toks := tk } := I.kept k1
  have hpm : (ys.map (·.cps.toList)).Perm ks0 := by
    have := g2.map (fun z : Str => z.cps.toList)
    rw [← hk0, List.map_map] at this
    have e : (ks0.map ((fun z : Str => z.cps.toList) ∘ S)) = ks0 := by
      conv => rhs; rw [← List.map_id ks0]
      exact List.map_congr_left fun x _ => S_list x
    rw [e] at this
    exact this
  have hlen : (ys.map V.str).length ≤ sizeLine := by rw [List.length_map, g2.length_eq]; exact hsl
  have q2 := q (ys.map (·.cps.toList)) h1.objs.size hpm (sorted_le _ (by rw [map_S_inv]; exact g3)) (I1.hok.fresh (Nat.le_refl _))
  rw [tV_map, map_S_inv] at q2
  refine ⟨_, rfl, wpAny_pure ⟨_, rfl, .ref h1.objs.size, upd H h1.objs.size (.lst (ys.map V.str)), I1.laid (t' := tk) (fun b u e => ?_) (Nat.le_refl _) (show ObjOk X.prog X.w _ _ _ (.lst (ys.map V.str)) from ⟨hlen, out.toList, c, vals_of_strs g1, hcx⟩), rfl, q2⟩⟩
  have hb := Heap.lt_size e
  show (sortedHeap (h1.push (seqObj "list" acc.toList.toArray 0)) h1.objs.size acc.toList out).get? b = some u
  rw [sortedHeap_old (Nat.ne_of_lt hb) (by rw [size_push']; exact Nat.lt_succ_of_lt hb)]
  exact Heap.get?_push_of_some _ e
theorem v_sortDX {H : Hp} {Q : VK} {a : Addr} {kvs : List (Key × V)} {ks : List (List Nat)} (h : H a = some (.dK kvs)) (hk : kvs.map (·.1) = ks.map (fun k => Sum.inr (S k))) (hl : ks.length ≤ 100000)
    (q : ∀ (ys : List (List Nat)) (p : Addr), ys.Perm ks → ys.Pairwise (fun a b : List Nat => a ≤ b) → H p = none → Q (.ref p) (upd H p (.lst (ys.map tV)))) : rSortDX [.ref a] H Q := ⟨a, kvs, ks, rfl, h, hk, hl, q⟩
/-- sum(t) -/
def rSumT (K : PySem.W.Frag) : List V → Hp → VK → Prop := fun vs H Q => ∃ (a : Addr) (ns : List Int), vs = [V.ref a] ∧ SqT K H a (ns.map V.int) ∧ Q (.int ns.sum) H
theorem cr_sumT {X : Cx} (hc : X.calm = true) : CallR X (.builtin "sum") (rSumT X.K) := by
  intro pins s σ H vs us Q I r h
  obtain ⟨a, ns, rfl, hs, q⟩ := h
  obtain ⟨its, rv, hT, _⟩ := I.tuple hs
  rw [Vals.ref1 r]
  have hi := rv.ints
  obtain ⟨xs, hx⟩ := hi.allInts.items
  have hn : numsOf its.toArray.toList = ns := by rw [show its.toArray.toList = its from rfl, hi.numsOf]
  have hl : s.heap.IsTuple a its.toArray := hT
  rw [hx] at hl hn
  rw [nums_intItems] at hn
  refine PySem.W.ktm_sumG (I.ok.hd hc) hl fun h' tk t' k => ⟨.int ns.sum, H, I.kept (t' := tk) k, ⟨t', ?_⟩, q⟩
  rw [preSum_eq, List.take_of_length_le (by simp), hn]
/-- max(t) -/
def rMaxT (K : PySem.W.Frag) : List V → Hp → VK → Prop := fun vs H Q => ∃ (a : Addr) (ns : List Int), vs = [V.ref a] ∧ SqT K H a (ns.map V.int) ∧ ns ≠ [] ∧ ∀ m, m ∈ ns → (∀ y, y ∈ ns → y ≤ m) → Q (.int m) H
theorem max_fold : ∀ (ys : List Int) (x : Int), PySem.W.maxOf x ys ∈ x :: ys ∧ ∀ y ∈ x :: ys, y ≤ PySem.W.maxOf x ys := by
  intro ys
  induction ys with
  | nil =>
    intro x
    exact ⟨List.mem_singleton.mpr rfl, fun y hy => by rw [List.mem_singleton.mp hy]; exact Int.le_refl _⟩
  | cons z ys ih =>
    intro x
    have e : PySem.W.maxOf x (z :: ys) = PySem.W.maxOf (if PySem.W.DatumOrd.lt x z = true then z else x) ys := rfl
    have hlt : PySem.W.DatumOrd.lt x z = decide (x < z) := rfl
    rw [e, hlt]
    by_cases h : x < z
    · rw [if_pos (decide_eq_true h)]
      obtain ⟨i1, i2⟩ := ih z
      refine ⟨List.mem_cons_of_mem _ i1, fun y hy => ?_⟩
      rcases List.mem_cons.mp hy with rfl | hy
      · have := i2 z List.mem_cons_self
        omega
      · exact i2 y hy
    · rw [if_neg (by rw [decide_eq_true_eq]; exact h)]
      obtain ⟨i1, i2⟩ := ih x
      refine ⟨?_, fun y hy => ?_⟩
      · rcases List.mem_cons.mp i1 with e | i1
        · rw [e]; exact List.mem_cons_self
        · exact List.mem_cons_of_mem _ (List.mem_cons_of_mem _ i1)
      · rcases List.mem_cons.mp hy with rfl | hy
        · exact i2 y List.mem_cons_self
        · rcases List.mem_cons.mp hy with rfl | hy
          · have := i2 x List.mem_cons_self
            omega
          · exact i2 y (List.mem_cons_of_mem _ hy)
theorem hold_ints {h : Heap} : ∀ {xs : List Int} {us : List Value}, IntsAre us xs → PySem.W.HoldAll h us xs := by
  intro xs us r
  induction r with
  | nil => exact PySem.W.HoldAll.nil
  | cons x t _ ih => exact PySem.W.HoldAll.cons (PySem.W.holds_int x t) ih
theorem cr_maxT {X : Cx} (hc : X.calm = true) (hu : X.A.units + 64 < cLine) : CallR X (.builtin "max") (rMaxT X.K) := by
  intro pins s σ H vs us Q I r h
  obtain ⟨a, ns, rfl, hs, hne, q⟩ := h
  obtain ⟨its, rv, hT, _⟩ := I.tuple hs
  rw [Vals.ref1 r]
  cases ns with
  | nil => exact absurd rfl hne
  | cons x xs =>
    have hh := hold_ints (h := s.heap) rv.ints
    refine PySem.W.max_tuple_datum (x := x) (xs := xs) (I.ok.hd hc) (show s.heap.IsTuple a its.toArray from hT) hh (by show _ + 1 + 0 < _; omega) fun i v h' tk hi hv hk => ?_
    obtain ⟨m1, m2⟩ := max_fold xs x
    have hv2 : ∃ t, v = .int (PySem.W.maxOf x xs) t := by
      obtain ⟨as, r⟩ := hv
      have r' : Reads h' v (.int (PySem.W.maxOf x xs)) as := r
      cases r'
      exact ⟨_, rfl⟩
    obtain ⟨t, rfl⟩ := hv2
    exact ⟨.int _, H, I.kept (t' := tk) hk, ⟨t, rfl⟩, q _ m1 m2⟩
theorem v_maxT {K : PySem.W.Frag} {H : Hp} {Q : VK} {a : Addr} {ns : List Int} (hs : SqT K H a (ns.map V.int)) (hne : ns ≠ []) (q : ∀ m, m ∈ ns → (∀ y, y ∈ ns → y ≤ m) → Q (.int m) H) : rMaxT K [.ref a] H Q := ⟨a, ns, rfl, hs, hne, q⟩
/-! ### a tuple whose object is known: its methods -/
/-- tuple(xs), the object told -/
def rTupF (K : PySem.W.Frag) : List V → Hp → VK → Prop := fun vs H Q => ∃ p ys, vs = [.ref p] ∧ SqL K H p ys ∧ ∀ l o, H l = none → o.cls = .type "tuple" → o.dict = none → Q (.ref l) (upd H l (.frz o (.tup ys)))
theorem call_tupF {X : Cx} : CallR X (.type "tuple") (rTupF X.K) := by
  intro pins s σ H xs us Q I r h
  obtain ⟨p, ys, rfl, hq, q⟩ := h
  rw [Vals.ref1 r]
  obtain ⟨its, r', pl, hz⟩ := I.list hq
  have hlen := r'.length
  refine call_tuple_list pl.isList (fun h' kp => ?_) (by simp only [List.size_toArray] <;> omega)
  have I1 : Inv X pins σ H { s with heap := h' } := I.kept (t' := s.toks) kp
  have new : ObjOk X.prog X.w (upd H h'.objs.size (.frz { cls := .type "tuple", data := .seq its.toArray } (.tup ys))) (h'.push { cls := .type "tuple", data := .seq its.toArray }) h'.objs.size (.frz { cls := .type "tuple", data := .seq its.toArray } (.tup ys)) :=
    ⟨Heap.get?_push_size _ rfl, hz, its, r', IsTup.new _ _⟩
  exact ⟨.ref h'.objs.size, _, I1.laid (t' := s.toks) (fun b o e => Heap.get?_push_of_some _ e) (Nat.le_refl _) new, rfl, q _ _ (I1.hok.fresh (Nat.le_refl _)) rfl rfl⟩
theorem v_tupF {K : PySem.W.Frag} {H : Hp} {Q : VK} {p : Addr} {ys : List V} (hs : SqL K H p ys) (q : ∀ l o, H l = none → o.cls = .type "tuple" → o.dict = none → Q (.ref l) (upd H l (.frz o (.tup ys)))) : rTupF K [.ref p] H Q := ⟨p, ys, rfl, hs, q⟩
/-- t.index(i), there -/
def tTidx (to : TE) (t : TA) : TE := fun σ H Q => to σ H fun x H1 => ∃ (a : Addr) (o : Obj) (ns : List Int), x = .ref a ∧ H1 a = some (.frz o (.tup (ns.map V.int))) ∧ o.cls = .type "tuple" ∧ o.dict = none ∧
  t σ H1 fun ys H2 => ∃ i, ys = [.int i] ∧ H2 a = some (.frz o (.tup (ns.map V.int))) ∧ i ∈ ns ∧ Q (.int (ns.idxOf i : Nat)) H2
theorem pe_tidx {X : Cx} {o e : Expr} {to : TE} {t : TA} {apos cpos : Pos} (ho : PE X o to) (ha : PA X [e] t)
    (hbase : attributeBase o "index" X.env (eval o X.env) = eval o X.env := by rfl)
    (hfew : ((backTo cpos (starEach [e] X.env)).all (fun x => !x.1) && (backToKw cpos (keywordEach [] X.env)).all (fun x => x.1.isSome)
      && decide (([e] : List Expr).length + ([] : List Keyword).length + (if ([] : List Keyword).isEmpty then 0 else 1) < 30)) = true := by rfl)
    (hline : (apos.endLine == cpos.line) = true := by rfl) (hs : starEach [e] X.env = (false, eval e X.env) :: starEach [] X.env := by rfl) (hplain : (backTo cpos (starEach [] X.env)).any (·.1) = false := by rfl) :
    PE X (.Call (.Attribute o "index" apos) [e] [] cpos) (tTidx to t) := by
  refine ⟨fun pins s σ H Q I h => ?_⟩
  refine wpAny_Call_method_late hbase hfew hline rfl (thn (ho.run pins s σ H _ I h) fun v s1 ⟨x, H1, I1, r1, a, ob, ns, ex, hH, hc, hd, q1⟩ => ?_)
  subst ex
  obtain rfl : v = Value.ref a := r1
  have hob : s1.heap.get? a = some ob := (I1.hok a _ hH).1
  refine ⟨"tuple", "tuple.index", PySem.F.plainAttrs_tuple, PySem.F.slot_tuple_index, PySem.F.type_tuple_index, ⟨ob, hob, hc⟩, fun b e => ?_, ?_⟩
  · cases e; exact ⟨ob, hob, hd⟩
  have hA := ha.run cpos pins s1 σ H1 _ I1 q1
  rw [hs] at hA ⊢
  refine Calls.callWith_builtin (by show (false || (backTo cpos (starEach [] X.env)).any (·.1)) = false; rw [hplain] <;> rfl) (Calls.evalArgs_plain ?_)
  refine thn hA fun us s2 ⟨vs, H2, I2, r2, i, ev, hH2, hi, q⟩ => ?_
  subst ev
  obtain ⟨u, rfl, tk, rfl⟩ := r2.one
  obtain ⟨its, rv, hT, _⟩ := I2.tuple (.inl (.inr ⟨ob, hH2⟩))
  exact PySem.SeqAt.tuple_index_ints (show s2.heap.IsTuple a its.toArray from hT) rv.ints hi ⟨.int (ns.idxOf i : Nat), H2, I2.tok _, ⟨_, rfl⟩, q⟩
end Sh
namespace Sh
open PySem PySem.Spec PyProof.Rows L2
theorem v_dget2 {σ : L2.St} {H : Hp} {Q : VK} {td ty tx : TE} (q : td σ H fun x H1 => ∃ a, x = .ref a ∧ IsD H1 a ∧ ty σ H1 fun y H2 => tx σ H2 fun z H3 => ∃ o, DGet H3 a y o ∧ Q (o.getD z) H3) : tDGet2 td ty tx σ H Q := q
theorem isD_K {H : Hp} {a : Addr} {kvs : List (Key × V)} (h : H a = some (.dK kvs)) : IsD H a := .inl ⟨kvs, .inl h⟩
end Sh

namespace Sh
open PySem PySem.Spec PyProof.Rows L2
/-! ### str.count of a letter, within -/
theorem occ_one (s : Str) (c hi limit : Nat) (hh : hi ≤ s.length) : ∀ (n i : Nat) (st : Array Nat × Nat), st.snd ≤ i → st.fst.size + n ≤ limit →
    (forIn (List.range' i n) st (StrLaws.occBody s ⟨#[c]⟩ hi limit)).run.fst.size = st.fst.size + (List.range' i n).countP fun k => decide (k + 1 ≤ hi ∧ s.cps.toList[k]? = some c)
  | 0, i, st, _, _ => by simp
  | n + 1, i, st, h1, h2 => by
    rw [List.range'_succ, List.forIn_cons, List.countP_cons]
    unfold StrLaws.occBody
    have e1 : (⟨#[c]⟩ : Str).length = 1 := rfl
    have key := StrLaws.subAt_one s c i
    rw [e1] at key
    by_cases hc : i + 1 ≤ hi ∧ s.cps.toList[i]? = some c
    · have c1 : ((st.fst.size < limit ∧ st.snd ≤ i) ∧ i + (⟨#[c]⟩ : Str).length ≤ hi) ∧ Builtin.Str.subAt s ⟨#[c]⟩ i = true := ⟨⟨⟨by omega, h1⟩, hc.1⟩, (key.mpr hc.2).2⟩
      rw [if_pos c1, if_pos (decide_eq_true hc)]
      have ih := occ_one s c hi limit hh n (i + 1) (st.fst.push i, i + (⟨#[c]⟩ : Str).length) (Nat.le_refl _) (by simp only [Array.size_push]; omega)
      rw [Array.size_push] at ih
      rw [show st.fst.size + (List.countP (fun k => decide (k + 1 ≤ hi ∧ s.cps.toList[k]? = some c)) (List.range' (i + 1) n) + 1) = st.fst.size + 1 + List.countP (fun k => decide (k + 1 ≤ hi ∧ s.cps.toList[k]? = some c)) (List.range' (i + 1) n) by omega]
      exact ih
    · have c2 : ¬ (((st.fst.size < limit ∧ st.snd ≤ i) ∧ i + (⟨#[c]⟩ : Str).length ≤ hi) ∧ Builtin.Str.subAt s ⟨#[c]⟩ i = true) := fun h => hc ⟨h.1.2, key.mp ⟨by have := h.1.2; rw [e1] at this; omega, h.2⟩⟩
      rw [if_neg c2, if_neg (by rw [decide_eq_true_eq]; exact hc)]
      exact occ_one s c hi limit hh n (i + 1) (st.fst, st.snd) (by show st.snd ≤ _; omega) (by show st.fst.size + n ≤ _; omega)
theorem countP_places (l : List Nat) (c : Nat) : ∀ h : Nat, h ≤ l.length → (List.range h).countP (fun k => decide (l[k]? = some c)) = (l.take h).count c
  | 0, _ => by simp
  | h + 1, hl => by
    rw [List.range_succ, List.countP_append, countP_places l c h (by omega), List.take_succ, List.count_append, List.getElem?_eq_getElem (by omega)]
    congr 1
    rw [List.countP_cons, List.countP_nil, Nat.zero_add, List.getElem?_eq_getElem (by omega)]
    show _ = List.count c [l[h]]
    rw [List.count_singleton]
    by_cases e : l[h] = c <;> simp [e]
theorem count_within (a : List Nat) (c : Nat) {j : Int} (h0 : 0 ≤ j) (hj : j ≤ a.length) : Txt.countIn (S a) (S [c]) 0 j = (((a.take j.toNat).count c : Nat) : Int) := by
  have hl : (S a).length = a.length := S_len a
  have e0 : fromIndex (S a).length 0 = 0 := rfl
  have e1 : toIndexW (S a).length j = j.toNat := by
    unfold toIndexW
    rw [hl, if_neg (by omega)]
    omega
  unfold Txt.countIn
  rw [e0, e1, StrLaws.occ_eq, Array.length_toList]
  have := occ_one (S a) c j.toNat ((S a).length + 1) (by rw [hl]; omega) (j.toNat + 1 - 0) 0 (#[], 0) (Nat.le_refl _) (by rw [hl]; simp; omega)
  rw [show (S [c]) = (⟨#[c]⟩ : Str) from rfl, this, ← List.range_eq_range', Nat.sub_zero, List.range_succ, List.countP_append]
  have hz : List.countP (fun k => decide (k + 1 ≤ j.toNat ∧ (S a).cps.toList[k]? = some c)) [j.toNat] = 0 := by
    simp
    intro h
    omega
  rw [hz, ← countP_places a c j.toNat (by omega)]
  have hc : List.countP (fun k => decide (k + 1 ≤ j.toNat ∧ (S a).cps.toList[k]? = some c)) (List.range j.toNat) = List.countP (fun k => decide (a[k]? = some c)) (List.range j.toNat) := by
    refine List.countP_congr fun k hk => ?_
    rw [List.mem_range] at hk
    rw [decide_eq_true_eq, decide_eq_true_eq]
    exact ⟨fun h => h.2, fun h => ⟨by omega, h⟩⟩
  rw [hc]
  simp
def rCnt4 : V → List V → Hp → VK → Prop := fun x xs H Q => ∃ (a b : Str) (i j : Int), x = .str a ∧ xs = [.str b, .int i, .int j] ∧ Q (.int (Txt.countIn a b i j)) H
theorem mt_cnt4 {X : Cx} : MtR X "str.count" rCnt4 := mt_count4
theorem v_cnt4 {H : Hp} {Q : VK} {a : List Nat} {c : Nat} {j : Int} (h0 : 0 ≤ j) (hj : j ≤ a.length) (q : Q (.int (((a.take j.toNat).count c : Nat) : Int)) H) : rCnt4 (.str (S a)) [.str (S [c]), .int 0, .int j] H Q :=
  ⟨S a, S [c], 0, j, rfl, rfl, by rw [count_within a c h0 hj]; exact q⟩
/-! ### tuples whose object is known: a display, a sum -/
def tTupF (t : TA) : TE := fun σ H Q => t σ H fun xs H1 => xs.length ≤ sizeLine ∧ ∀ p o, H1 p = none → o.cls = .type "tuple" → o.dict = none → Q (.ref p) (upd H1 p (.frz o (.tup xs)))
theorem pe_tupF {X : Cx} {es : List Expr} {t : TA} {pos x1} (h : PA X es t) : PE X (.Tuple es x1 pos) (tTupF t) := by
  refine ⟨fun pins s σ H Q I hq => ?_⟩
  refine wpAny_Tuple_spliced (thn (h.run pos pins s σ H _ I hq) fun us s1 ⟨xs, H1, I1, r, z, q⟩ => ⟨by rw [← r.length]; exact z, ?_⟩)
  have hf : H1 s1.heap.objs.size = none := I1.hok.fresh (Nat.le_refl _)
  have new : ObjOk X.prog X.w (upd H1 s1.heap.objs.size (.frz { cls := .type "tuple", data := .seq us.toArray } (.tup xs))) (s1.heap.push { cls := .type "tuple", data := .seq us.toArray }) s1.heap.objs.size (.frz { cls := .type "tuple", data := .seq us.toArray } (.tup xs)) :=
    ⟨Heap.get?_push_size _ rfl, z, us, r, IsTup.new _ _⟩
  exact ⟨.ref s1.heap.objs.size, _, I1.laid (t' := s1.toks) (fun b u e => Heap.get?_push_of_some _ e) (Nat.le_refl _) new, rfl, q _ _ hf rfl rfl⟩
def rCatF (K : PySem.W.Frag) : R2 := fun x y H Q => ∃ a b oa xs ys, x = .ref a ∧ y = .ref b ∧ H a = some (.frz oa (.tup xs)) ∧ oa.cls = .type "tuple" ∧ oa.dict = none ∧ SqT K H b ys ∧ xs ≠ [] ∧ xs.length + ys.length ≤ sizeLine ∧
  ∀ R o H', Same H H' → H' R = some (.frz o (.tup (xs ++ ys))) → o.cls = .type "tuple" → o.dict = none → Q (.ref R) H'
theorem op_catF {X : Cx} : OpR X (binaryOp .Add) (rCatF X.K) := by
  intro pins s σ H x y v u Q I rx ry h
  obtain ⟨a, b, oa, xs, ys, rfl, rfl, ha, hc, hd, hb, hx, hz, q⟩ := h
  cases rx
  cases ry
  obtain ⟨its, r1, p1, _⟩ := I.tuple (xs := xs) (.inl (.inr ⟨oa, ha⟩))
  obtain ⟨its2, r2, p2, _⟩ := I.tuple hb
  refine HT.cat_tup p1 p2 (fun z => hx (r1.nil_iff.mp z)) (fun z => ⟨.ref a, H, I, rfl, q a oa H (Same.refl _) (by rw [r2.nil_iff.mp z, List.append_nil]; exact ha) hc hd⟩) (fun z => ?_) (by rw [← r1.length, ← r2.length]; exact hz)
  have hf : H s.heap.objs.size = none := I.hok.fresh (Nat.le_refl _)
  have new : ObjOk X.prog X.w (upd H s.heap.objs.size (.frz { cls := .type "tuple", data := .seq (its ++ its2).toArray } (.tup (xs ++ ys)))) (s.heap.push { cls := .type "tuple", data := .seq (its ++ its2).toArray }) s.heap.objs.size (.frz { cls := .type "tuple", data := .seq (its ++ its2).toArray } (.tup (xs ++ ys))) :=
    ⟨Heap.get?_push_size _ rfl, by rw [List.length_append]; exact hz, _, r1.append r2, IsTup.new _ _⟩
  exact ⟨.ref s.heap.objs.size, _, I.laid (t' := s.toks) (fun b ob q => Heap.get?_push_of_some _ q) (Nat.le_refl _) new, rfl, q _ _ _ (same_upd hf) upd_same rfl rfl⟩
end Sh
namespace Sh
open PySem PySem.Spec PyProof.Rows L2 RT
/-! ### for c in reversed(a text) -/
theorem norev_str : typeLookup (.type "str") "__reversed__" = pure none := by rw [typeLookup_type, builtinLookup_eq_fast]; kernel_rfl
theorem get_str : typeLookup (.type "str") "__getitem__" = pure (some (.builtin "str.__getitem__")) := by rw [typeLookup_type, builtinLookup_eq_fast]; kernel_rfl
def rvObj (x : Str) (t : Tok) (i : Int) : Obj := { cls := .type "reversed", data := .fields #[.str x t, rawInt i] }
def IsRv (h : Heap) (a : Addr) (x : Str) (t : Tok) (i : Int) : Prop := ∃ o, h.get? a = some o ∧ o.cls = .type "reversed" ∧ o.data = .fields #[.str x t, rawInt i]
section
variable {prog : Program} {w : World} {A : Around} {E : Value → Shared → Prop} {s : Shared}
theorem code_revS {x : Str} {t : Tok} {Q₁ : Value → Shared → Prop} (hz : x.length ≤ sizeLine)
    (h : Q₁ (.ref s.heap.objs.size) { s with heap := s.heap.push (rvObj x t ((x.length : Int) - 1)), toks := s.toks + 1 + 1 }) :
    codeAny (model prog w) A (.call (.builtin "reversed.__new__") ⟨[.type "reversed", .str x t], []⟩) (wants Q₁ E) s := by
  have hT : s.TypeIs (.str x t) "str" := typeIs_str s x t
  have hn := line63
  refine codeAny_of_tree ?_
  show wpAny _ A.in1 (do checkBuiltinCall "reversed.__new__" ⟨[.type "reversed", .str x t], []⟩; again (.builtin "reversed.__new__" ⟨[.type "reversed", .str x t], []⟩)) _ _ s
  refine wpAny_bind (wpAny_of_eq (F.newCall_reversed_1 _) (wpAny_pure ⟨plainId_quiet F.plain_reversed_new _, codeAny_builtin F.entry_reversed_new ?_⟩))
  rw [Around.under_plainId F.plain_reversed_new _]
  unfold Builtin.«reversed.__new__»
  refine wpAny_bind (wpAny_of_eq (newClass_reversed _) ?_)
  try dsimp only
  refine wpAny_bind (wpAny_of_eq (a := ()) (by first | rfl | kernel_rfl) ?_)
  try dsimp only
  refine wpAny_bind (wpAny_of_eq (a := ()) (by first | rfl | kernel_rfl) ?_)
  try dsimp only
  refine wpAny_bind (wpAny_specialOf hT norev_str ?_)
  try dsimp only
  refine wpAny_bind ?_
  wp_delta
  refine wpAny_bind (wpAny_isInstance (T := "str") (U := "dict") (b := false) hT PySem.F.sub_str_dict ?_)
  try dsimp only
  try rw [if_neg Bool.false_ne_true]
  try dsimp only
  refine wpAny_bind (wpAny_specialOf hT get_str ?_)
  try dsimp only
  try rw [if_pos (by decide +kernel)]
  refine wpAny_pure ?_
  try dsimp only
  try rw [if_neg (by decide)]
  try dsimp only
  refine wpAny_bind (len_str (by omega) ?_)
  refine wpAny_bind (wpAny_of_eq (a := some ((x.length : Nat) : Int)) rfl ?_)
  try dsimp only
  refine wpAny_bind ?_
  show wpAny _ _ (newObj (.type "reversed") (.fields #[.str x t, rawInt ((x.length : Int) - 1)])) _ _ _
  refine wpAny_newObj_type ?_
  exact wpAny_pure h
theorem call_revS {x : Str} {t : Tok} {Q : Value → Shared → Prop} (hz : x.length ≤ sizeLine)
    (h : Q (.ref s.heap.objs.size) { s with heap := s.heap.push (rvObj x t ((x.length : Int) - 1)), toks := s.toks + 1 + 1 }) : wpAny (model prog w) A (call (.type "reversed") [.str x t]) Q E s := by
  refine callType_codes (Q₁ := fun obj s₁ => s₁.TypeIs obj "reversed" ∧ Q obj s₁) called_rt (F.typeCall_reversed_1 _) F.entry_object_init
    (code_revS (A := A.in1) hz ⟨⟨_, Heap.get?_push_size _ rfl, rfl⟩, h⟩) fun obj s₁ h₁ => ?_
  exact ⟨h₁.1, F.args_object_init_2 obj _, object_init_meets called_rt.init.lookup called_rt.made (by decide) prog w A.in1 _ s₁ ⟨h₁.1, rfl, h₁.2⟩⟩
theorem next_rv_item {it : Addr} {x : Str} {t : Tok} {i : Nat} {c : Nat} {Q : Option Value → Shared → Prop} (hit : IsRv s.heap it x t (i : Int)) (hx : x.cps[i]? = some c) (hsz : x.length ≤ sizeLine)
    (hQ : ∀ h' u, IsRv h' it x t ((i : Int) - 1) → Heap.SameBut it s.heap h' → Q (some (.str ⟨#[c]⟩ u)) { s with heap := h', toks := s.toks + 1 + 1 }) : wpAny (model prog w) A (pyNext (.ref it)) Q E s := by
  obtain ⟨o, ho, hc, hd⟩ := id hit
  have hi : i < x.length := (Array.getElem?_eq_some_iff.mp hx).1
  have hT : s.TypeIs (.str x t) "str" := typeIs_str s x t
  have hiT : s.TypeIs (.ref it) "reversed" := ⟨o, ho, hc⟩
  rw [sizeLine_eq] at hsz
  unfold pyNext
  refine wpAny_bind (wpAny_attempt (wpAny_callSpecial?_slot (name := Str.ofString "__next__") hiT slot_rt_next
    (wpAny_call_entry slot_rt_next hiT entry_rt_next ?_ (args_rt_next _))))
  unfold Builtin.«reversed.__next__»
  refine wpAny_bind (wpAny_of_eq (a := (Value.ref it, [])) rfl ?_)
  try dsimp only
  refine wpAny_bind (wpAny_field ho hd (x := .str x t) rfl ?_)
  try dsimp only
  refine wpAny_bind (wpAny_field ho hd (x := rawInt (i : Int)) rfl ?_)
  show wpAny _ _ (if (i : Int) < 0 then _ else _) _ _ s
  rw [if_neg (by omega)]
  try dsimp only
  refine wpAny_bind (wpAny_specialOf hT get_str ?_)
  try dsimp only
  try rw [if_neg (by decide)]
  try dsimp only
  refine wpAny_bind (wpAny_mkInt ?_)
  refine wpAny_bind (wpAny_attempt ?_)
  have fin : seqIndex? (i : Int) x.length = some i := seqIndex_of (by omega) (by omega)
  refine getItem_str (s := { s with toks := s.toks + 1 }) (c := c) (by
    have e1 : decide ((i : Int) < -(2 ^ 63 : Int)) = false := decide_eq_false (by omega)
    have e2 : decide ((i : Int) ≥ 2 ^ 63) = false := decide_eq_false (by omega)
    rw [e1, e2, Bool.or_false]) (by rw [fin]; exact hx) ?_
  try dsimp only
  refine wpAny_bind (wpAny_field (s := { s with toks := s.toks + 1 + 1 }) ho hd (x := rawInt (i : Int)) rfl ?_)
  try dsimp only
  refine wpAny_bind (wpAny_setField (s := { s with toks := s.toks + 1 + 1 }) ho hd (by simp) ?_)
  first
  | refine wpAny_pure ⟨_, rfl, wpAny_pure (hQ _ _ ?_ (Heap.SameBut.update ..))⟩
  | refine wpAny_bind (wpAny_pure (wpAny_pure ⟨_, rfl, wpAny_pure (hQ _ _ ?_ (Heap.SameBut.update ..))⟩))
  exact ⟨_, Heap.get?_update_self _ ho (Obj.isFreed_of_fields (Obj.data_mapFields hd _)), (Obj.cls_mapFields ..).trans hc, by
    rw [Obj.data_mapFields hd]; simp⟩
theorem next_rv_end {it : Addr} {x : Str} {t : Tok} {Q : Option Value → Shared → Prop} (hh : A.handled = none) (hit : IsRv s.heap it x t (-1))
    (hQ : ∀ h', Heap.ExtBut it s.heap h' → Q none { s with heap := h' }) : wpAny (model prog w) A (pyNext (.ref it)) Q E s := by
  obtain ⟨o, ho, hc, hd⟩ := id hit
  have hiT : s.TypeIs (.ref it) "reversed" := ⟨o, ho, hc⟩
  unfold pyNext
  refine wpAny_bind (wpAny_attempt (wpAny_callSpecial?_slot (name := Str.ofString "__next__") hiT slot_rt_next
    (wpAny_call_entry slot_rt_next hiT entry_rt_next ?_ (args_rt_next _))))
  unfold Builtin.«reversed.__next__»
  refine wpAny_bind (wpAny_of_eq (a := (Value.ref it, [])) rfl ?_)
  try dsimp only
  refine wpAny_bind (wpAny_field ho hd (x := .str x t) rfl ?_)
  try dsimp only
  refine wpAny_bind (wpAny_field ho hd (x := rawInt (-1)) rfl ?_)
  show wpAny _ _ (if (-1 : Int) < 0 then _ else _) _ _ s
  rw [if_pos (by decide)]
  try dsimp only
  refine wpAny_bind (wpAny_rule ?_)
  refine wpAny_bind ?_
  wp_delta
  refine wpAny_bind (wpAny_setField ho hd (by simp) ?_)
  have ho2 := Heap.get?_update_self (Obj.mapFields (·.setIfInBounds 1 (rawInt (-1)))) ho (Obj.isFreed_of_fields (Obj.data_mapFields hd _))
  refine wpAny_setField (s := { s with heap := s.heap.update it (Obj.mapFields (·.setIfInBounds 1 (rawInt (-1)))) }) ho2 (Obj.data_mapFields hd _) (by simp) ?_
  try dsimp only
  first
  | show wpAny _ _ (newExc (.type "StopIteration") [] >>= _) _ _ _
  | (refine wpAny_bind ?_; show wpAny _ _ (newExc (.type "StopIteration") [] >>= _) _ _ _)
  | (refine wpAny_bind ?_; wp_delta; show wpAny _ _ (newExc (.type "StopIteration") [] >>= _) _ _ _)
  refine wpAny_bind ?_
  simp only [newExc, newTuple]
  refine wpAny_bind (wpAny_newObj_type ?_ (by size_fits))
  refine wpAny_bind (m := firstArgMember _ _) (wpAny_of_eq (a := Value.none) (by first | rfl | (simp only [firstArgMember]; rfl)) ?_)
  refine wpAny_newObj_type ?_ (by size_fits)
  simp only [raiseNew]
  refine wpAny_bind (wpAny_handled ?_)
  first | rw [show A.in1.handled = none from hh] | rw [hh]
  refine wpAny_bind (wpAny_pure (wpAny_throw ?_))
  refine wpAny_bind (wpAny_isInstance (T := "StopIteration") (b := true) ⟨_, Heap.get?_push_size _ rfl, rfl⟩ isSubtype_stop ?_)
  refine wpAny_pure (hQ _ ?_)
  refine ((?_ : Heap.ExtBut it s.heap _).push _).push _
  exact fun b ob hb e => (Heap.get?_update_other _ _ (Ne.symm hb)).trans ((Heap.get?_update_other _ _ (Ne.symm hb)).trans e)
theorem iter_rv {it : Addr} {x : Str} {t : Tok} {i : Int} {Q : Value → Shared → Prop} (hit : IsRv s.heap it x t i) (h : Q (.ref it) s) : wpAny (model prog w) A (pyIter (.ref it)) Q E s := by
  have hiT : s.TypeIs (.ref it) "reversed" := let ⟨o, ho, hc, _⟩ := hit; ⟨o, ho, hc⟩
  refine wpAny_pyIter_slot hiT slot_rt_iter (wpAny_call_entry slot_rt_iter hiT entry_rt_iter ?_ (args_rt_iter _))
  show wpAny _ _ (ret (.ref it)) _ _ s
  exact wpAny_pure ⟨_, rfl, "reversed", _, hiT, slot_rt_next.lookup, h⟩
end
def ItRv (x : Str) : It := ⟨fun i _ => i < x.length, fun i H v H' => H' = H ∧ ∃ c, x.cps[x.length - 1 - i]? = some c ∧ v = .str ⟨#[c]⟩, fun i _ => x.length ≤ i⟩
theorem turn_rv {P : Program} {w : World} {K : PySem.W.Frag} {tg : Expr} (it : Addr) (x : Str) (t : Tok) (hz : x.length ≤ sizeLine) : Turn P w K tg (ItRv x) [it] it (fun i h => i ≤ x.length ∧ IsRv h it x t ((x.length : Int) - 1 - (i : Nat))) where
  mem := by simp
  obj := fun i h st b hb => by
    have e : b = it := by simpa using hb
    subst e
    obtain ⟨_, o, e, c, d⟩ := st
    exact ⟨o, e, fun v z => by rw [d] at z; cases z⟩
  keep := fun i h h' st k => ⟨st.1, let ⟨o, ho, r⟩ := st.2; ⟨o, k it (by simp) o ho, r⟩⟩
  item := by
    intro X hP hw hK hc i pins s σ H E I hf st hg
    subst hP hw hK
    obtain ⟨f0, f1, f2, f3, f4, f5⟩ := hf it (by simp)
    obtain ⟨_, hit⟩ := st
    have hin : i < x.length := hg
    have e1 : (x.length : Int) - 1 - ((i : Nat) : Int) = ((x.length - 1 - i : Nat) : Int) := by omega
    rw [e1] at hit
    obtain ⟨c, hcx⟩ : ∃ c, x.cps[x.length - 1 - i]? = some c := ⟨_, Array.getElem?_eq_getElem (by show x.length - 1 - i < x.length; omega)⟩
    refine next_rv_item hit hcx hz fun h' u st' sb => ?_
    have e2 : ((x.length - 1 - i : Nat) : Int) - 1 = (x.length : Int) - 1 - ((i + 1 : Nat) : Int) := by omega
    rw [e2] at st'
    have I1 : Inv X pins σ H { s with heap := h', toks := s.toks + 1 + 1 } := I.turned (t' := s.toks + 1 + 1) (fun b o hb e => (sb.2 b hb).trans e) f0 f1 f3 f4 f5
    obtain ⟨o, e, c', d⟩ := id st'
    exact ⟨_, rfl, go_of (s := { s with heap := h', toks := s.toks + 1 + 1 }) e c' d (by decide) ⟨.str ⟨#[c]⟩, H, I1, ⟨u, rfl⟩, ⟨rfl, c, hcx, rfl⟩, ⟨hin, st'⟩, fun b hb => (hf b hb).1⟩⟩
  done := by
    intro X hP hw hK hc i pins s σ H E I hf st hg
    subst hP hw hK
    obtain ⟨f0, f1, f2, f3, f4, f5⟩ := hf it (by simp)
    obtain ⟨hin, hit⟩ := st
    have hge : x.length ≤ i := hg
    have e1 : (x.length : Int) - 1 - ((i : Nat) : Int) = -1 := by omega
    rw [e1] at hit
    exact next_rv_end (I.ok.hd hc) hit fun h' eb => ⟨rfl, I.turned (t' := s.toks) (fun b o hb e => eb b o hb e) f0 f1 f3 f4 f5⟩
  self := fun A i s Q E st h => iter_rv st.2 h
def iRevS (te : TE) : TI := fun σ H R => te σ H fun v H1 => ∃ x, v = .str x ∧ x.length ≤ sizeLine ∧ R (ItRv x) H1
theorem pi_revS {X : Cx} {tg e : Expr} {te : TE} {p pos : Pos} (hg : Gl X "reversed") (hm : X.mg "reversed" = none) (he : PE X e te) (hs : starEach [e] X.env = (false, eval e X.env) :: starEach [] X.env := by rfl) : PI X tg (.Call (.Name "reversed" p) [e] [] pos) (iRevS te) := by
  refine ⟨fun pins s σ H R I h => ?_⟩
  refine Call_ (ld_blt I hg hm PyProof.Rows.boot_reversed (PyProof.Rows.callWith_type1 (args_cons (thn (he.run pins s σ H _ I h) fun u s1 ⟨v, H1, I1, r1, q1⟩ => args_nil ?_) hs) hs rfl))
  obtain ⟨x, ev, hz, q⟩ := q1
  subst ev
  obtain ⟨t, rfl⟩ := r1
  refine call_revS hz (iter_rv (x := x) (t := t) (i := (x.length : Int) - 1) ⟨_, Heap.get?_push_size _ rfl, rfl, rfl⟩ ?_)
  refine pi_one (tk := s1.toks + 1 + 1) I1 _ (turn_rv _ x t hz) ⟨Nat.zero_le _, ?_⟩ q
  rw [show (x.length : Int) - 1 - ((0 : Nat) : Int) = (x.length : Int) - 1 by simp]
  exact ⟨_, Heap.get?_push_size _ rfl, rfl, rfl⟩
theorem v_irevS {σ : L2.St} {H : Hp} {te : TE} {R : It → Hp → Prop} (q : te σ H fun v H1 => ∃ x, v = .str x ∧ x.length ≤ sizeLine ∧ R (ItRv x) H1) : iRevS te σ H R := q
/-- the turns of reversed(a text) -/
theorem f_revS {l : List Nat} {g : TG} {tb : TS} {D : Ends} {σ : L2.St} {H : Hp} (Pv : Nat → L2.St → Hp → Prop) (h0 : Pv 0 σ H)
    (hs : ∀ i σ H (hi : i < l.length), Pv i σ H → g (.str (S [l[l.length - 1 - i]])) σ H fun σ2 H2 => tb { D with nx := Pv (i + 1), ct := Pv (i + 1), bk := D.nx } σ2 H2) (hd : ∀ σ H, Pv l.length σ H → D.nx σ H) :
    kFor g tb D σ (ItRv (S l)) H := by
  have hl : (S l).length = l.length := S_len l
  refine ⟨fun i m σ H => m = l.length - i ∧ i ≤ l.length ∧ Pv i σ H, ⟨l.length, by simp, Nat.zero_le _, h0⟩, ?_⟩
  rintro i m σ H ⟨rfl, hi, p⟩
  by_cases hlt : i < l.length
  · refine .inr ⟨by show i < (S l).length; omega, Pv (i + 1), fun σ' H' p' => ⟨l.length - (i + 1), by omega, rfl, hlt, p'⟩, fun x H' y => ?_⟩
    obtain ⟨e, c, hc, ev⟩ := y
    subst e
    have e2 : (S l).cps[(S l).length - 1 - i]? = some l[l.length - 1 - i] := by
      rw [hl]
      show l.toArray[_]? = _
      rw [List.getElem?_toArray, List.getElem?_eq_getElem (by omega)]
    rw [e2] at hc
    cases hc
    rw [ev]
    exact hs i σ _ hlt p
  · have e : i = l.length := by omega
    subst e
    exact .inl ⟨by show (S l).length ≤ _; omega, hd σ H p⟩
end Sh
namespace Sh
open PySem PySem.Spec PyProof.Rows L2
/-! ### sorted of a text -/
def rSortS : List V → Hp → VK → Prop := fun vs H Q => ∃ (l : List Nat), vs = [V.str (S l)] ∧ l.length ≤ 100000 ∧ ∀ (ys : List (List Nat)) (p : Addr), ys.Perm (l.map fun c => [c]) → ys.Pairwise (fun a b : List Nat => a ≤ b) → H p = none → Q (.ref p) (upd H p (.lst (ys.map tV)))
theorem cr_sortS {X : Cx} (hcalm : X.calm = true) : CallR X (.builtin "sorted") rSortS := by
  intro pins s σ H xs us Q I r q
  obtain ⟨l, rfl, hbig, q⟩ := q
  obtain ⟨u, rfl, t, rfl⟩ := vals1 r
  generalize hk0 : (l.map fun c => S [c]) = ks
  have hkl : ks.length ≤ 100000 := by rw [← hk0, List.length_map]; exact hbig
  have hsl : ks.length ≤ sizeLine := by rw [sizeLine_eq]; omega
  refine Calls.call_function_entry kind_sorted plain_sorted entry_sorted (args_sorted1 _) ?_
  unfold Builtin.«sorted»
  refine wpAny_bind (m := checkCount "sorted" 1 1 _) (wpAny_pure (wpAny_bind (wpAny_collect_str (A := X.A.in1) (I.ok.hd hcalm) (S l) t (fun s' acc k1 eg ed eo got => ?_) (by show (S l).length ≤ sizeLine; rw [S_len, sizeLine_eq]; omega))))
  obtain ⟨h1, gg, dr, tk, os⟩ := s'
  obtain rfl : gg = s.gens := eg
  obtain rfl : dr = s.drawn := ed
  obtain rfl : os = s.os := eo
  have k1 : ∀ b o, s.heap.get? b = some o → h1.get? b = some o := k1
  have hcs : (S l).cps.size = l.length := by show l.toArray.size = _; simp
  have hal : acc.toList.length = ks.length := by rw [Array.length_toList, got.1, hcs, ← hk0, List.length_map]
  have hS : StrsAre acc.toList ks := L2.strs_at hal fun j v e => by
    obtain ⟨c, u, e1, e2⟩ := got.2 j v (by rw [← Array.getElem?_toList]; exact e)
    refine ⟨S [c], u, ?_, e2⟩
    rw [← hk0, List.getElem?_map]
    have e3 : l[j]? = some c := by
      have : l.toArray[j]? = some c := e1
      rwa [List.getElem?_toArray] at this
    rw [e3]
    rfl
  have hvl : acc.toList.length ≤ sizeLine := by omega
  refine wpAny_bind (wpAny_newList ?_ hvl)
  have hoL : (h1.push (seqObj "list" acc.toList.toArray 0)).get? h1.objs.size = some (seqObj "list" acc.toList.toArray 0) := Heap.get?_push_size _ rfl
  have e2 : wpAny (model X.prog X.w) X.A.in1.in1 (Builtin.«list.sort» ⟨[.ref h1.objs.size], []⟩) (fun r s2 => ∃ (out : Array Value) (ys : List Str), r = .done (.ret .none) ∧ s2 = { s with heap := sortedHeap (h1.push (seqObj "list" acc.toList.toArray 0)) h1.objs.size acc.toList out, toks := tk } ∧ StrsAre out.toList ys ∧ ys.Perm ks ∧ sortedS ys = true) X.xe { s with heap := h1.push (seqObj "list" acc.toList.toArray 0), toks := tk } := by
    refine list_sort_treeKAny strKind_oneLt (s := { s with heap := h1.push (seqObj "list" acc.toList.toArray 0), toks := tk }) hoL hS.keysOf (fun v₁ v₂ rest e => keyKind_strs (by rw [← e]; exact hS)) hvl fun st' a1 a2 => ?_
    obtain ⟨ys, g1, g2, g3⟩ := sorted_out_str hS a1 a2
    exact ⟨_, ys, rfl, rfl, g1, g2, g3⟩
  refine wpAny_bind (wpAny_holding (wpAny_call_entry slot_list_sort ⟨_, hoL, rfl⟩ entry_list_sort (wpAny_mono e2 (fun r s2 h => ?_) fun _ _ e => e) (args_list_sort _)))
  obtain ⟨out, ys, rfl, rfl, g1, g2, g3⟩ := h
  obtain ⟨c, hcx⟩ := sortedHeap_at (vs := acc.toList) (out := out) hoL
  have I1 : Inv X pins σ H { s with heap := h1, toks := tk } := I.kept k1
  have hpm : (ys.map (·.cps.toList)).Perm (l.map fun c => [c]) := by
    have := g2.map (fun z : Str => z.cps.toList)
    rw [← hk0, List.map_map] at this
    exact this
  have hlen : (ys.map V.str).length ≤ sizeLine := by rw [List.length_map, g2.length_eq]; exact hsl
  have q2 := q (ys.map (·.cps.toList)) h1.objs.size hpm (sorted_le _ (by rw [map_S_inv]; exact g3)) (I1.hok.fresh (Nat.le_refl _))
  rw [tV_map, map_S_inv] at q2
  refine ⟨_, rfl, wpAny_pure ⟨_, rfl, .ref h1.objs.size, upd H h1.objs.size (.lst (ys.map V.str)), I1.laid (t' := tk) (fun b u e => ?_) (Nat.le_refl _) (show ObjOk X.prog X.w _ _ _ (.lst (ys.map V.str)) from ⟨hlen, out.toList, c, vals_of_strs g1, hcx⟩), rfl, q2⟩⟩
  have hb := Heap.lt_size e
  show (sortedHeap (h1.push (seqObj "list" acc.toList.toArray 0)) h1.objs.size acc.toList out).get? b = some u
  rw [sortedHeap_old (Nat.ne_of_lt hb) (by rw [size_push']; exact Nat.lt_succ_of_lt hb)]
  exact Heap.get?_push_of_some _ e
theorem v_sortS {H : Hp} {Q : VK} {l : List Nat} (hl : l.length ≤ 100000) (q : ∀ (ys : List (List Nat)) (p : Addr), ys.Perm (l.map fun c => [c]) → ys.Pairwise (fun a b : List Nat => a ≤ b) → H p = none → Q (.ref p) (upd H p (.lst (ys.map tV)))) : rSortS [.str (S l)] H Q := ⟨l, rfl, hl, q⟩
end Sh
namespace Sh
open PySem PySem.Spec PyProof.Rows L2
theorem sqF {K : PySem.W.Frag} {H : Hp} {a : Addr} {o : Obj} {xs : List V} (h : H a = some (.frz o (.tup xs))) : SqT K H a xs := .inl (.inr ⟨o, h⟩)
/-- a comprehension over a tuple whose object is known -/
theorem lc_MF {K : PySem.W.Frag} {σ : L2.St} {H : Hp} {tt : TT} {te : TE} {Q : VK} {α : Type} (G : α → V) {a : Addr} {o : Obj} {xs : List α} {j : Nat} (p : α → Bool) (f : α → V) (hx : H a = some (.frz o (.tup (xs.map G)))) (hn : xs.length ≤ sizeLine)
    (ht : ∀ x H', x ∈ xs → Same H H' → ∀ Qb : Bool → Hp → Prop, Qb (p x) H' → tt ((σ.set j none).set j (some (G x))) H' Qb)
    (he : ∀ x H', x ∈ xs → p x = true → Same H H' → ∀ Qv : VK, Qv (f x) H' → te ((σ.set j none).set j (some (G x))) H' Qv)
    (hd : ∀ L, H L = none → Q (.ref L) (upd H L (.lst ((xs.filter p).map f)))) : kLc (gName j) tt te [j] σ Q (Itt K a) H := by
  intro L hL
  refine lc_tup (xs := xs.map G) (fun i H' => H' = upd H L (.lst (((xs.take i).filter p).map f))) rfl (fun i H' _ e => by rw [e]; exact sqF (same_upd hL _ _ hx)) ?_ (fun H' e => by subst e; rw [List.take_of_length_le (by rw [List.length_map]; exact Nat.le_refl _)]; exact hd L hL)
  rintro i y H' hi rfl
  obtain ⟨x, hx2, rfl⟩ : ∃ x, xs[i]? = some x ∧ y = G x := by
    rw [List.getElem?_map] at hi
    cases e : xs[i]? with
    | none => rw [e] at hi; cases hi
    | some u => rw [e] at hi; exact ⟨u, rfl, (Option.some.inj hi).symm⟩
  have sm : Same H (upd H L (.lst (((xs.take i).filter p).map f))) := same_upd hL
  have hm : x ∈ xs := List.mem_of_getElem? hx2
  have hlt : i < xs.length := (List.getElem?_eq_some_iff.mp hx2).1
  have et : xs.take (i + 1) = xs.take i ++ [x] := by rw [List.take_add_one, hx2]; rfl
  refine ⟨wipe_set, ht x _ hm sm _ ?_⟩
  have hlen : (((xs.take i).filter p).map f).length < sizeLine := by
    have h1 := List.length_filter_le p (xs.take i)
    rw [List.length_take] at h1
    rw [List.length_map]
    omega
  by_cases hp : p x = true
  · rw [hp, if_pos rfl]
    refine he x _ hm hp sm _ ⟨_, upd_same, hlen, ?_⟩
    rw [upd_upd, et, List.filter_append, List.map_append, List.filter_cons_of_pos hp]
    rfl
  · rw [if_neg hp]
    show _ = _
    rw [et, List.filter_append, List.filter_cons_of_neg hp, List.filter_nil, List.append_nil]
end Sh

namespace Sh
open PySem PySem.Spec PyProof.Rows L2
/-! ### an f-string with wide numbers -/
def Wd (i : Int) : Prop := -2000000 ≤ i ∧ i ≤ 2000000
theorem num_lenW {i : Int} (h : Wd i) : (Str.ofString (toString i)).length ≤ 2000002 := by
  have := PyProof.Rows.len_str_of_int i
  unfold Wd at h
  omega
theorem num_logW {i : Int} (h : Wd i) : i.natAbs.log2 < 1920 := by
  unfold Wd at h
  have : i.natAbs < 2 ^ 21 := by omega
  exact Nat.lt_of_lt_of_le (PySem.Flt.log2_lt_of (by decide) this) (by decide)
theorem fitsW {a : Str} {n : Nat} (h : a.length ≤ n) (h2 : n ≤ 16000000) : a.length ≤ sizeLine := Nat.le_trans h (sz_of (by omega))
section
variable {σ : L2.St} {H : Hp} {c1 c2 : Str} {t1 t2 : TE} {i j : Int} {Q : Str → Hp → Prop}
theorem v_fs4W (h1 : c1.length ≤ 1000) (h2 : c2.length ≤ 1000) (hi : Wd i) (hj : Wd j) (e1 : ∀ Qv : VK, Qv (.int i) H → t1 σ H Qv) (e2 : ∀ Qv : VK, Qv (.int j) H → t2 σ H Qv) (q : ∀ out, Q out H) :
    tJs [tC (.str c1), tFmt t1, tC (.str c2), tFmt t2] Str.empty σ H Q := by
  have a1 := app_le emp_len h1
  have a2 := app_le a1 (num_lenW hi)
  have a3 := app_le a2 h2
  have a4 := app_le a3 (num_lenW hj)
  exact v_js (v_c (v_kJ (fitsW a1 (by omega)) (v_js (v_fmt (e1 _ (v_kF (num_logW hi) (v_kJ (fitsW a2 (by omega)) (v_js (v_c (v_kJ (fitsW a3 (by omega)) (v_js (v_fmt (e2 _ (v_kF (num_logW hj) (v_kJ (fitsW a4 (by omega)) (v_jn (q _)))))))))))))))))
end
end Sh
namespace Sh
open PySem PySem.Spec PyProof.Rows L2
/-! ### a op b op c op d, as a test -/
def tCh3 (r r' r'' : R2) (ta tb tc td : TE) : TT := fun σ H Qb => ta σ H fun x H1 => tb σ H1 fun y H2 => r x y H2 (kB fun k H3 => kIf k (tc σ H3 fun z H4 => r' y z H4 (kB fun k2 H5 => kIf k2 (td σ H5 fun u H6 => r'' z u H6 (kB Qb)) (Qb false H5))) (Qb false H3))
theorem pt_chain3 {X : Cx} {a b c d : Expr} {ta tb tc td : TE} {pos : Pos} {op op' op'' : CmpOp} {r r' r'' : R2} (ho : OpR X (compareOp op) r) (ho' : OpR X (compareOp op') r') (ho2 : OpR X (compareOp op'') r'') (ha : PE X a ta) (hb : PE X b tb) (hc : PE X c tc) (hd : PE X d td)
    (hm : lastMarks [op, op', op''] [b, c, d] = false := by with_unfolding_all rfl) : PT X (.Compare a [op, op', op''] [b, c, d] pos) (tCh3 r r' r'' ta tb tc td) := by
  refine ⟨fun pins s σ H Q I h => ?_⟩
  refine isTrue_chain (thn (ha.run pins s σ H _ I h) fun v s1 ⟨x, H1, I1, r1, q1⟩ => test_link (thn (hb.run pins s1 σ H1 _ I1 q1) fun u s2 ⟨y, H2, I2, r2, q2⟩ =>
    thn (ho pins s2 σ H2 x y v u _ I2 r1 r2 q2) fun d s3 ⟨z, H3, I3, r3, k, e, q3⟩ => ?_)) hm
  subst e
  cases r3
  refine wpAny_truthy_bool ?_
  cases k with
  | false => exact ite_ff ⟨H3, I3, q3⟩
  | true =>
    refine ite_tt (test_link (thn (hc.run pins s3 σ H3 _ I3 q3) fun w' s4 ⟨z', H4, I4, r4, q4⟩ => thn (ho' pins s4 σ H4 y z' u w' _ I4 r2 r4 q4) fun d' s5 ⟨z2, H5, I5, r5, k2, e2, q5⟩ => ?_))
    subst e2
    cases r5
    refine wpAny_truthy_bool ?_
    cases k2 with
    | false => exact ite_ff ⟨H5, I5, q5⟩
    | true =>
      refine ite_tt (test_last (thn (hd.run pins s5 σ H5 _ I5 q5) fun w2 s6 ⟨z3, H6, I6, r6, q6⟩ => thn (ho2 pins s6 σ H6 z' z3 w' w2 _ I6 r4 r6 q6) fun d2 s7 ⟨z4, H7, I7, r7, k3, e3, q7⟩ => ?_))
      subst e3
      cases r7
      exact wpAny_truthy_bool ⟨H7, I7, q7⟩
end Sh
namespace Sh
open PySem PySem.Spec PyProof.Rows L2
/-! ### x in a list or a tuple of data -/
def rInD (K : PySem.W.Frag) : R2 := fun x y H Q => ∃ (p : Addr) (xs : List V) (ds : List PyData) (d : PyData), y = .ref p ∧ (SqL K H p xs ∨ SqT K H p xs) ∧ DpAll K H xs ds ∧ Dp K H x d ∧ PyData.plainAll ds = true ∧ d.plain = true ∧ d.depth ≤ 60 ∧ Q (.bl (ds.any fun e => PyData.eqv e d)) H
theorem op_inD {X : Cx} (hu : X.A.units + 64 < cLine) : OpR X (compareOp .In) (rInD X.K) := by
  intro pins s σ H x y v u Q I rx ry h
  obtain ⟨p, xs, ds, d, rfl, hq, hds, hx, h1, h2, h3, q⟩ := h
  obtain ⟨bs, r2⟩ := Dp.reads I d x v hx rx
  have hm : X.A.units + 1 + min (PyData.depthAll ds) d.depth < cLine := by
    have := Nat.min_le_right (PyData.depthAll ds) d.depth
    omega
  rcases hq with hq | hq
  · obtain ⟨as, r1⟩ := Dp.reads I (.list ds) (.ref p) u (.lst hq hds) ry
    exact PySem.SeqAt.in_list_data r1 r2 h1 h2 hm ⟨.bl _, H, I, rfl, q⟩
  · obtain ⟨as, r1⟩ := Dp.reads I (.tuple ds) (.ref p) u (.tup hq hds) ry
    exact PySem.SeqAt.in_tuple_data r1 r2 h1 h2 hm ⟨.bl _, H, I, rfl, q⟩
end Sh

namespace Sh
open PySem PySem.Spec PyProof.Rows L2
/-! ### a range held by a name, walked -/
def iRngV (tl : TE) : TI := fun σ H R => tl σ H fun x H1 => ∃ (a : Addr) (i j : Int), x = .ref a ∧ H1 a = some (.rng i j) ∧ (-(2 ^ 62) ≤ i ∧ i < 2 ^ 62 ∧ -(2 ^ 62) ≤ j ∧ j < 2 ^ 62) ∧ R (Itr i (j - i).toNat) H1
theorem pi_rngV {X : Cx} {tg l : Expr} {tl : TE} (hl : PE X l tl) : PI X tg l (iRngV tl) := by
  refine ⟨fun pins s σ H R I h => ?_⟩
  refine thn (hl.run pins s σ H _ I h) fun v s1 ⟨x, H1, I1, r1, q1⟩ => ?_
  obtain ⟨a, lo, hi, rfl, ha, ⟨h1, h2, h3, h4⟩, q⟩ := q1
  cases r1
  obtain ⟨t1, t2, t3, ho⟩ := I1.hok a _ ha
  refine wpAny_pyIter_range (r := a) (a := lo) (b := hi) (c := 1) ho (small_one h1 h2 h3 h4) ?_
  refine ⟨s1.heap.objs.size, [s1.heap.objs.size], _, _, H1, rfl, I1.kept fun b o e => Heap.get?_push_of_some _ e, turn_range _ lo (hi - lo).toNat, ?_, fun b hb => ?_, q⟩
  · have e1 : lo + ((0 : Nat) : Int) * 1 = lo := by simp
    have e2 : (((hi - lo).toNat : Nat) : Int) - ((0 : Nat) : Int) = Builtin.Range.rangeSize lo hi 1 := by rw [rangeSize_one]; split <;> omega
    show IsRangeIter _ _ (lo + ((0 : Nat) : Int) * 1) ((((hi - lo).toNat : Nat) : Int) - ((0 : Nat) : Int)) 1
    rw [e1, e2]
    exact Heap.get?_push_size _ rfl
  · have e : b = s1.heap.objs.size := by simpa using hb
    subst e
    exact I1.fpOk (Nat.le_refl _) (I1.hok.fresh (Nat.le_refl _))
def rRng2 : List V → Hp → VK → Prop := fun vs H Q => ∃ i j, vs = [V.int i, V.int j] ∧ ∀ p, H p = none → Q (.ref p) (upd H p (.rng i j))
theorem cr_rng2 {X : Cx} : CallR X (.type "range") rRng2 := cr_range2
theorem v_rngV2 {H : Hp} {Q : VK} {i j : Int} (q : ∀ p, H p = none → Q (.ref p) (upd H p (.rng i j))) : rRng2 [.int i, .int j] H Q := ⟨i, j, rfl, q⟩
section
variable {σ : L2.St} {H : Hp} {g : TG} {tt : TT} {te : TE} {Q : VK} {tl : TE} {vs : List Nat} {R : It → Hp → Prop}
def kRngV (R : It → Hp → Prop) : VK := fun x H1 => ∃ (a : Addr) (i j : Int), x = .ref a ∧ H1 a = some (.rng i j) ∧ (-(2 ^ 62) ≤ i ∧ i < 2 ^ 62 ∧ -(2 ^ 62) ≤ j ∧ j < 2 ^ 62) ∧ R (Itr i (j - i).toNat) H1
theorem v_iRngV (q : tl σ H (kRngV R)) : iRngV tl σ H R := q
theorem v_kRngV {a : Addr} {i j : Int} (h : H a = some (.rng i j)) (hb : -(2 ^ 62) ≤ i ∧ i < 2 ^ 62 ∧ -(2 ^ 62) ≤ j ∧ j < 2 ^ 62) (q : R (Itr i (j - i).toNat) H) : kRngV R (.ref a) H := ⟨a, i, j, rfl, h, hb, q⟩
/-! ### a comprehension over anything, by an invariant of turn, list so far and heap -/
theorem lc_gen {J : It} (n : Nat) (I : Addr → Nat → List V → Hp → Prop)
    (h0 : ∀ L, H L = none → I L 0 [] (upd H L (.lst [])))
    (hst : ∀ L acc H', H L = none → I L n acc H' → J.stop n H')
    (hgo : ∀ L i acc H', H L = none → i < n → I L i acc H' → J.go i H')
    (hs : ∀ L i acc H', H L = none → i < n → H' L = some (.lst acc) → I L i acc H' → ∀ v H2, J.yld i H' v H2 → ∀ (Kp : VK) (Kn : Hp → Prop),
      (∀ y H5, H5 L = some (.lst acc) → acc.length < sizeLine → I L (i + 1) (acc ++ [y]) (upd H5 L (.lst (acc ++ [y]))) → Kp y H5) → (∀ H4, H4 L = some (.lst acc) → I L (i + 1) acc H4 → Kn H4) →
      g v (wipe σ vs) H2 fun σ2 H3 => wipe σ2 vs = wipe σ vs ∧ tt σ2 H3 fun b H4 => if b = true then te σ2 H4 Kp else Kn H4)
    (hd : ∀ L acc H', H L = none → H' L = some (.lst acc) → I L n acc H' → Q (.ref L) H') : kLc g tt te vs σ Q J H := by
  intro L hL
  refine ⟨fun i m H' => m = n - i ∧ i ≤ n ∧ ∃ acc, H' L = some (.lst acc) ∧ I L i acc H', ⟨n, by simp, Nat.zero_le _, [], upd_same, h0 L hL⟩, ?_⟩
  rintro i m H' ⟨rfl, hi, acc, hLe, hI⟩
  by_cases hlt : i < n
  · exact .inr ⟨hgo L i acc H' hL hlt hI, fun H' => i + 1 ≤ n ∧ ∃ acc, H' L = some (.lst acc) ∧ I L (i + 1) acc H', fun H' h => ⟨n - (i + 1), by omega, rfl, h.1, h.2⟩, fun v H2 hy =>
      hs L i acc H' hL hlt hLe hI v H2 hy _ _ (fun y H5 h1 h2 h3 => ⟨acc, h1, h2, hlt, _, upd_same, h3⟩) (fun H4 h1 h2 => ⟨hlt, acc, h1, h2⟩)⟩
  · have e : i = n := by omega
    subst e
    exact .inl ⟨hst L acc H' hL hI, hd L acc H' hL hLe hI⟩
/-- over enumerate(a text): each part a function of the place and the sign -/
theorem lc_ES {K : PySem.W.Frag} {l : List Nat} {j k : Nat} (hjk : j ≠ k) (p : Nat → Nat → Bool) (f : Nat → Nat → V) (hn : l.length ≤ sizeLine)
    (ht : ∀ i c H', l[i]? = some c → Same H H' → ∀ Qb : Bool → Hp → Prop, (∀ H2, Same H' H2 → Qb (p i c) H2) → tt (((wipe σ [j, k]).set j (some (.int (i : Int)))).set k (some (.str (S [c])))) H' Qb)
    (he : ∀ i c H', l[i]? = some c → p i c = true → Same H H' → ∀ Qv : VK, (∀ H2, Same H' H2 → Qv (f i c) H2) → te (((wipe σ [j, k]).set j (some (.int (i : Int)))).set k (some (.str (S [c])))) H' Qv)
    (hd : ∀ L H2, H L = none → Same H H2 → H2 L = some (.lst ((l.zipIdx.filter fun z => p z.2 z.1).map fun z => f z.2 z.1)) → Q (.ref L) H2) :
    kLc (gTup K 2 (gCons (gName j) (gCons (gName k) gNil))) tt te [j, k] σ Q (ItS (S l)) H := by
  intro L hL
  have nm : ∀ (i : Nat) (v : V) (τ : L2.St) (H' : Hp) (R : L2.St → Hp → Prop), R (τ.set i (some v)) H' → gName i v τ H' R := fun _ _ _ _ _ q => q
  have ss : (S l).cps.size = l.length := by simp [S]
  have sg : ∀ i : Nat, (S l).cps[i]? = l[i]? := fun i => by simp [S]
  refine ⟨fun i m H' => m = l.length - i ∧ i ≤ l.length ∧ Same H H' ∧ H' L = some (.lst (((l.zipIdx.take i).filter fun z => p z.2 z.1).map fun z => f z.2 z.1)), ⟨l.length, by simp, Nat.zero_le _, same_upd hL, upd_same⟩, ?_⟩
  rintro i m H' ⟨rfl, hi, sm, hLe⟩
  by_cases hlt : i < l.length
  · have hx2 : l[i]? = some l[i] := List.getElem?_eq_getElem hlt
    refine .inr ⟨show i < (S l).cps.size by rw [ss]; exact hlt, fun H' => i + 1 ≤ l.length ∧ Same H H' ∧ H' L = some (.lst (((l.zipIdx.take (i + 1)).filter fun z => p z.2 z.1).map fun z => f z.2 z.1)), fun H' h => ⟨l.length - (i + 1), by omega, rfl, h.1, h.2⟩, fun v H2 hy => ?_⟩
    obtain ⟨T, c, rfl, hT, hc, rfl⟩ := hy
    rw [sg, hx2] at hc
    cases Option.some.inj hc
    have sT := sm.trans (same_upd (o := .tup [.int (i : Int), .str (S [l[i]])]) hT)
    have hLe := same_upd (o := .tup [.int (i : Int), .str (S [l[i]])]) hT _ _ hLe
    refine ⟨T, _, rfl, SqT.of upd_same, rfl, _, _, rfl, nm _ _ _ _ _ ⟨_, _, rfl, nm _ _ _ _ _ ⟨rfl, wipe_two hjk _ _, ?_⟩⟩⟩
    have sT' : Same H (upd H' T (.tup [.int (i : Int), .str ⟨#[l[i]]⟩])) := sT
    have hLe' : upd H' T (.tup [.int (i : Int), .str ⟨#[l[i]]⟩]) L = _ := hLe
    generalize upd H' T (.tup [.int (i : Int), .str ⟨#[l[i]]⟩]) = H3 at sT' hLe' ⊢
    refine ht i l[i] _ hx2 sT' _ fun H4 s4 => ?_
    have hLe := s4 _ _ hLe'
    have sT := sT'.trans s4
    have hz : l.zipIdx[i]? = some (l[i], i) := by rw [List.getElem?_zipIdx, hx2]; simp
    have et : l.zipIdx.take (i + 1) = l.zipIdx.take i ++ [(l[i], i)] := by rw [List.take_add_one, hz]; rfl
    have hlen : (((l.zipIdx.take i).filter fun z => p z.2 z.1).map fun z => f z.2 z.1).length < sizeLine := by
      have h1 := List.length_filter_le (fun z : Nat × Nat => p z.2 z.1) (l.zipIdx.take i)
      rw [List.length_take, List.length_zipIdx] at h1
      rw [List.length_map]
      omega
    by_cases hp : p i l[i] = true
    · rw [hp, if_pos rfl]
      refine he i l[i] _ hx2 hp sT _ fun H5 s5 => ⟨_, s5 _ _ hLe, hlen, hlt, fun b o e => ?_, ?_⟩
      · rw [upd_ne (ne_of_none e hL)]
        exact s5 _ _ (sT _ _ e)
      · have e1 : [(l[i], i)].filter (fun z => p z.2 z.1) = [(l[i], i)] := by simp [hp]
        rw [upd_same, et, List.filter_append, List.map_append, e1]
        rfl
    · have e1 : [(l[i], i)].filter (fun z => p z.2 z.1) = [] := by simp [hp]
      rw [if_neg hp]
      refine ⟨hlt, sT, ?_⟩
      rw [hLe, et, List.filter_append, e1, List.append_nil]
  · have e : i = l.length := by omega
    subst e
    refine .inl ⟨show (S l).cps.size ≤ l.length by rw [ss]; exact Nat.le_refl _, hd L H' hL sm ?_⟩
    rw [hLe, List.take_of_length_le (by rw [List.length_zipIdx]; exact Nat.le_refl _)]
end
/-! ### comprehensions whose items are new tuples of numbers -/
section
variable {K : PySem.W.Frag} {σ : L2.St} {H : Hp} {tt : TT} {te : TE} {Q : VK}
def AsI (H0 : Hp) (L : Addr) (ms : List (List Int)) (acc : List V) (H' : Hp) : Prop := Same H0 H' ∧ ∃ as : List (Addr × List Int), acc = as.map rV ∧ LTup H' as ∧ as.map (·.2) = ms
theorem AsI.put {H0 H' : Hp} {L T : Addr} {ms : List (List Int)} {acc : List V} {e : List Int} (h : AsI H0 L ms acc H') (h0 : H0 L = none) (hL : H' L = some (.lst acc)) (hT : H' T = some (.tup (e.map V.int))) : AsI H0 L (ms ++ [e]) (acc ++ [.ref T]) (upd H' L (.lst (acc ++ [.ref T]))) := by
  obtain ⟨sm, as, rfl, lt, rfl⟩ := h
  refine ⟨fun b o e => by rw [upd_ne (ne_of_none e h0)]; exact sm _ _ e, as ++ [(T, e)], by rw [List.map_append]; rfl, LTup.upd (LTup.app lt fun z hz => ?_) hL, by rw [List.map_append]; rfl⟩
  rw [List.mem_singleton.mp hz]
  exact hT
theorem AsI.same {H0 H1 H2 : Hp} {L : Addr} {ms : List (List Int)} {acc : List V} (h : AsI H0 L ms acc H1) (s : Same H1 H2) : AsI H0 L ms acc H2 := by
  obtain ⟨sm, as, e, lt, f⟩ := h
  exact ⟨sm.trans s, as, e, lt.same s, f⟩
theorem AsI.new {H0 : Hp} {L : Addr} (h0 : H0 L = none) : AsI H0 L [] [] (upd H0 L (.lst [])) := ⟨same_upd h0, [], rfl, (fun z hz => nomatch hz), rfl⟩
theorem AsI.len {H0 H' : Hp} {L : Addr} {ms : List (List Int)} {acc : List V} (h : AsI H0 L ms acc H') : acc.length = ms.length := by
  obtain ⟨_, as, rfl, _, rfl⟩ := h
  rw [List.length_map, List.length_map]
theorem lc_RA {lo : Int} {n j : Nat} (p : Nat → Bool) (f : Nat → List Int) (hn : n ≤ sizeLine)
    (ht : ∀ i H', i < n → Same H H' → ∀ Qb : Bool → Hp → Prop, (∀ H2, Same H' H2 → Qb (p i) H2) → tt ((σ.set j none).set j (some (.int (lo + (i : Int))))) H' Qb)
    (he : ∀ i H', i < n → p i = true → Same H H' → ∀ Qv : VK, (∀ T H2, Same H' H2 → H2 T = some (.tup ((f i).map V.int)) → Qv (.ref T) H2) → te ((σ.set j none).set j (some (.int (lo + (i : Int))))) H' Qv)
    (hd : ∀ L as H2, H L = none → Same H H2 → H2 L = some (.lst (as.map rV)) → LTup H2 as → as.map (·.2) = ((List.range n).filter p).map f → Q (.ref L) H2) : kLc (gName j) tt te [j] σ Q (Itr lo n) H := by
  refine lc_gen n (fun L i acc H' => AsI H L (((List.range i).filter p).map f) acc H') (fun L hL => AsI.new hL) (fun _ _ _ _ _ => Nat.le_refl _) (fun _ i _ _ _ hi _ => hi) ?_ ?_
  · rintro L i acc H' hL hi hLe hI v H2 ⟨rfl, rfl⟩ Kp Kn hp hnn
    refine v_name ⟨wipe_set, ht i _ hi hI.1 _ fun H3 s3 => ?_⟩
    have hI3 := hI.same s3
    have hL3 := s3 _ _ hLe
    have er : List.range (i + 1) = List.range i ++ [i] := List.range_succ
    by_cases hpi : p i = true
    · rw [hpi, if_pos rfl]
      refine he i _ hi hpi hI3.1 _ fun T H4 s4 hT => hp _ _ (s4 _ _ hL3) ?_ ?_
      · rw [hI.len, List.length_map]
        have := List.length_filter_le p (List.range i)
        rw [List.length_range] at this
        omega
      · have := (hI3.same s4).put hL (s4 _ _ hL3) hT
        rw [er, List.filter_append, List.map_append]
        simpa [hpi] using this
    · rw [if_neg hpi]
      refine hnn _ hL3 ?_
      rw [er, List.filter_append, List.map_append]
      simpa [hpi] using hI3
  · rintro L acc H' hL hLe ⟨sm, as, rfl, lt, e⟩
    exact hd L as H' hL sm hLe lt e
/-- over a list of anything, the target's work given -/
theorem lc_LB {α : Type} (G : α → V) {a : Addr} {xs : List α} {g : TG} {vs : List Nat} (st : α → L2.St) (p : α → Bool) (f : α → List Int) (hx : H a = some (.lst (xs.map G))) (hn : xs.length ≤ sizeLine)
    (hg : ∀ x H', x ∈ xs → Same H H' → ∀ P : L2.St → Hp → Prop, P (st x) H' → g (G x) (wipe σ vs) H' P) (hw : ∀ x, wipe (st x) vs = wipe σ vs)
    (ht : ∀ x H', x ∈ xs → Same H H' → ∀ Qb : Bool → Hp → Prop, (∀ H2, Same H' H2 → Qb (p x) H2) → tt (st x) H' Qb)
    (he : ∀ x H', x ∈ xs → p x = true → Same H H' → ∀ Qv : VK, (∀ T H2, Same H' H2 → H2 T = some (.tup ((f x).map V.int)) → Qv (.ref T) H2) → te (st x) H' Qv)
    (hd : ∀ L as H2, H L = none → Same H H2 → H2 L = some (.lst (as.map rV)) → LTup H2 as → as.map (·.2) = (xs.filter p).map f → Q (.ref L) H2) : kLc g tt te vs σ Q (Itl K a) H := by
  refine lc_gen xs.length (fun L i acc H' => AsI H L (((xs.take i).filter p).map f) acc H') (fun L hL => AsI.new hL) (fun L acc H' hL hI => ⟨_, SqL.of (hI.1 _ _ hx), by rw [List.length_map]; exact Nat.le_refl _⟩)
    (fun L i acc H' hL hi hI => ⟨_, G xs[i], SqL.of (hI.1 _ _ hx), by rw [List.getElem?_map, List.getElem?_eq_getElem hi]; rfl⟩) ?_ ?_
  · rintro L i acc H' hL hi hLe hI v H2 ⟨rfl, hv⟩ Kp Kn hp hnn
    have ev := hv _ (SqL.of (hI.1 _ _ hx))
    rw [List.getElem?_map, List.getElem?_eq_getElem hi] at ev
    cases Option.some.inj ev
    have hm : xs[i] ∈ xs := List.getElem_mem hi
    refine hg _ _ hm hI.1 _ ⟨hw _, ht _ _ hm hI.1 _ fun H3 s3 => ?_⟩
    have hI3 := hI.same s3
    have hL3 := s3 _ _ hLe
    have er : xs.take (i + 1) = xs.take i ++ [xs[i]] := by rw [List.take_add_one, List.getElem?_eq_getElem hi]; rfl
    by_cases hpi : p xs[i] = true
    · rw [hpi, if_pos rfl]
      refine he _ _ hm hpi hI3.1 _ fun T H4 s4 hT => hp _ _ (s4 _ _ hL3) ?_ ?_
      · rw [hI.len, List.length_map]
        have := List.length_filter_le p (xs.take i)
        rw [List.length_take] at this
        omega
      · have := (hI3.same s4).put hL (s4 _ _ hL3) hT
        rw [er, List.filter_append, List.map_append]
        simpa [hpi] using this
    · rw [if_neg hpi]
      refine hnn _ hL3 ?_
      rw [er, List.filter_append, List.map_append]
      simpa [hpi] using hI3
  · rintro L acc H' hL hLe ⟨sm, as, rfl, lt, e⟩
    rw [List.take_length] at e
    exact hd L as H' hL sm hLe lt e
/-- over a list of pairs, unpacked into two names -/
theorem lc_LB2 {α : Type} (ad : α → Addr) (u v : α → V) {a : Addr} {xs : List α} {j k : Nat} (hjk : j ≠ k) (p : α → Bool) (f : α → List Int) (hx : H a = some (.lst (xs.map fun x => V.ref (ad x)))) (hn : xs.length ≤ sizeLine)
    (hz : ∀ x, x ∈ xs → H (ad x) = some (.tup [u x, v x]))
    (ht : ∀ x H', x ∈ xs → Same H H' → ∀ Qb : Bool → Hp → Prop, (∀ H2, Same H' H2 → Qb (p x) H2) → tt (((wipe σ [j, k]).set j (some (u x))).set k (some (v x))) H' Qb)
    (he : ∀ x H', x ∈ xs → p x = true → Same H H' → ∀ Qv : VK, (∀ T H2, Same H' H2 → H2 T = some (.tup ((f x).map V.int)) → Qv (.ref T) H2) → te (((wipe σ [j, k]).set j (some (u x))).set k (some (v x))) H' Qv)
    (hd : ∀ L as H2, H L = none → Same H H2 → H2 L = some (.lst (as.map rV)) → LTup H2 as → as.map (·.2) = (xs.filter p).map f → Q (.ref L) H2) : kLc (gTup K 2 (gCons (gName j) (gCons (gName k) gNil))) tt te [j, k] σ Q (Itl K a) H := by
  have nm : ∀ (i : Nat) (v : V) (τ : L2.St) (H' : Hp) (R : L2.St → Hp → Prop), R (τ.set i (some v)) H' → gName i v τ H' R := fun _ _ _ _ _ q => q
  refine lc_LB (fun x => V.ref (ad x)) (fun x => ((wipe σ [j, k]).set j (some (u x))).set k (some (v x))) p f hx hn (fun x H' hm sm P q => ?_) (fun x => wipe_two hjk _ _) ht he hd
  exact ⟨_, _, rfl, SqT.of (sm _ _ (hz x hm)), rfl, _, _, rfl, nm _ _ _ _ _ ⟨_, _, rfl, nm _ _ _ _ _ ⟨rfl, q⟩⟩⟩
end
theorem v_sumL {K : PySem.W.Frag} {H : Hp} {Q : VK} {a : Addr} {ns : List Int} (hs : SqL K H a (ns.map V.int)) (q : Q (.int ns.sum) H) : rSum K [.ref a] H Q := ⟨a, ns, rfl, hs, q⟩
/-! ### f-strings of any number of parts -/
def J (n : Nat) (ts : List TE) (σ : L2.St) (H : Hp) (Q : Str → Hp → Prop) : Prop := ∀ acc : Str, acc.length ≤ n → tJs ts acc σ H Q
section
variable {σ : L2.St} {H : Hp} {Q : Str → Hp → Prop} {t : TE} {ts : List TE} {n : Nat}
theorem J_nil (q : ∀ out, Q out H) : J n [] σ H Q := fun _ _ => v_jn (q _)
theorem J_c {c : Str} (hc : c.length ≤ 1000) (hn : n ≤ 90000) (q : J (n + 1000) ts σ H Q) : J n (tC (.str c) :: ts) σ H Q := fun acc ha =>
  have a1 := app_le ha hc
  v_js (v_c (v_kJ (fits a1 (by omega)) (q _ a1)))
theorem J_i {i : Int} (hi : Sm i) (hn : n ≤ 90000) (e : ∀ Qv : VK, Qv (.int i) H → t σ H Qv) (q : J (n + 1000) ts σ H Q) : J n (tFmt t :: ts) σ H Q := fun acc ha =>
  have a1 : (acc ++ Str.ofString (toString i)).length ≤ n + 1000 := Nat.le_trans (app_le ha (num_len hi.1 hi.2)) (by omega)
  v_js (v_fmt (e _ (v_kF (num_log hi.1 hi.2) (v_kJ (fits a1 (by omega)) (q _ a1)))))
theorem J_s {y : Str} (hy : y.length ≤ 1000) (hn : n ≤ 90000) (e : ∀ Qv : VK, Qv (.str y) H → t σ H Qv) (q : J (n + 1000) ts σ H Q) : J n (tFmt t :: ts) σ H Q := fun acc ha =>
  have a1 := app_le ha hy
  v_js (v_fmt (e _ (v_kFs (fits hy (by omega)) (v_kJ (fits a1 (by omega)) (q _ a1)))))
theorem J0 (q : J 0 ts σ H Q) : tJs ts Str.empty σ H Q := q _ emp_len
end
end Sh

namespace Sh
open PySem PySem.Spec PyProof.Rows L2
/-! ### len(o) of an own class with an own __len__ -/
def rLenO (C : Addr) (sp : Sp) : List V → Hp → VK → Prop := fun vs H Q => ∃ a dx fs, vs = [.ref a] ∧ H a = some (.ins C dx fs) ∧ sp [.ref a] H (fun v H' => ∃ n : Nat, v = .int (n : Nat) ∧ n ≤ 1000000 ∧ Q (.int (n : Nat)) H') E0
theorem call_lenO {X : Cx} {k : Nat} {C f : Addr} {fd : FuncData} {ps : List Str} {sp : Sp} (hm : PySem.W.findIn X.K (.ref C) "__len__" = some (some (.ref f))) (hf : PySem.W.typeIn X.K (.ref f) = some (.type "function"))
    (F : FnOk X.prog X.w X.K X.mg X.base CX0 k f fd ps sp) (hr : Room (k + 1) X.A) (hb : Binds X.K fd ps []) : CallR X (.builtin "len") (rLenO C sp) := by
  intro pins s σ H vs us Q I r h
  obtain ⟨a, dx, fs, rfl, ea, h⟩ := h
  obtain ⟨u, rfl, rx⟩ := vals1 r
  cases rx
  obtain ⟨mA, O, _, _, _, _⟩ := ins_get I.hok ea
  obtain ⟨od, J, _⟩ := O.look
  have hl : ([Value.ref a] ++ []).length = ps.length := by
    rw [← F.len _ _ _ _ h]
    rfl
  refine Calls.call_function_entry kind_len plain_len entry_len (args_len1 _) ?_
  unfold Builtin.«len»
  refine wpAny_bind (m := oneArg "len" _) (wpAny_pure ?_)
  have hc : ∀ {Q' : Option Value → Shared → Prop}, wpAny (model X.prog X.w) X.A.in1 (call (.ref f) [.ref a]) (fun v s' => Q' (some v) s') X.xe s → wpAny (model X.prog X.w) X.A.in1 (callSpecial? (.ref a) "__len__" []) Q' X.xe s := fun q => by
    unfold callSpecial? specialOf
    refine wpAny_bind (wpAny_bind (J.type.here ((PySem.W.looks_findIn I.kIn hm).here ?_)))
    refine wpAny_holding ?_
    refine wpAny_bind ((PySem.W.bind_fn I.kIn _ hf).here ?_)
    exact wpAny_bind (wpAny_mono q (fun v s' z => wpAny_pure z) fun _ _ z => z)
  refine wpAny_bind (m := callSpecial? (.ref a) (Str.ofString "__len__")) (hc ?_)
  refine wpAny_call (codeAny_mono (F.run X.A.in1 X.stack s H ⟨[.ref a], []⟩ [.ref a] [.ref a] _ E0 hr.in1 I.env0.in1 (hb s [.ref a] I.kIn hl) (.cons rfl .nil) h) fun r s' hq => ?_)
  cases r with
  | error er => exact False.elim hq
  | ok fl =>
    cases fl with
    | ret u =>
      obtain ⟨v, H', I3, rv, n, rfl, hn, q3⟩ := I.after hq
      obtain ⟨t, rfl⟩ := rv
      refine wpAny_bind (wpAny_holding (wpAny_pure ?_))
      refine wpAny_bind (wpAny_letGo ?_)
      show wpAny _ _ (if ((n : Nat) : Int) < 0 then _ else _) _ _ _
      rw [if_neg (by omega)]
      show wpAny _ _ (if ((n : Nat) : Int) ≥ 2 ^ 63 then _ else _) _ _ _
      rw [if_neg (by omega)]
      refine wpAny_bind (wpAny_mkInt (wpAny_pure ⟨_, rfl, .int (n : Nat), H', I3.tok _, ⟨_, rfl⟩, q3⟩))
    | next => exact False.elim hq
    | brk => exact False.elim hq
    | cont => exact False.elim hq
/-! ### own classes: their methods, their making -/
structure M1 (P : Program) (w : World) (K : PySem.W.Frag) (mg : Str → Option Value) (base : Heap) (k : Nat) (C : Addr) (m : Str) (sp : Sp) : Prop where
  ex : ∃ (f : Addr) (fd : FuncData) (ps : List Str), FnOk P w K mg base CX0 k f fd ps sp ∧ Meth K C m f ∧ Binds K fd ps []
structure M1X (P : Program) (w : World) (K : PySem.W.Frag) (mg : Str → Option Value) (base : Heap) (k : Nat) (C : Addr) (m : Str) (sp : Sp) : Prop where
  ex : ∃ (f : Addr) (fd : FuncData) (ps : List Str), FnOk P w K mg base (L2.CX P w) k f fd ps sp ∧ Meth K C m f ∧ Binds K fd ps []
structure I1 (P : Program) (w : World) (K : PySem.W.Frag) (mg : Str → Option Value) (base : Heap) (k : Nat) (C : Addr) (x : Str) (sp : Sp) : Prop where
  ex : ∃ (f : Addr) (fd : FuncData) (ps : List Str), FnOk P w K mg base CX0 k f fd ps sp ∧ Mk K C f ∧ mg x = some (.ref C) ∧ Binds K fd ps []
structure I1X (P : Program) (w : World) (K : PySem.W.Frag) (mg : Str → Option Value) (base : Heap) (k : Nat) (C : Addr) (x : Str) (sp : Sp) : Prop where
  ex : ∃ (f : Addr) (fd : FuncData) (ps : List Str), FnOk P w K mg base (L2.CX P w) k f fd ps sp ∧ Mk K C f ∧ mg x = some (.ref C) ∧ Binds K fd ps []
def tMethS (C : Addr) (m : Str) (sp : Sp) (E : L2.St → XK) (ta : TE) (t : TA) : TE := fun σ H Q => ta σ H fun x H1 => ∃ a dx fs, x = .ref a ∧ H1 a = some (.ins C dx fs) ∧ fs.lookup m = none ∧
  t σ H1 fun vs H2 => sp (x :: vs) H2 Q (E σ)
section
variable {X : Cx} {k j : Nat} {C : Addr} {m x : Str} {sp : Sp} {p pos apos : Pos} {e o : Expr} {es : List Expr} {ta : TE} {t : TA}
theorem cr_lenO (c : M1 X.prog X.w X.K X.mg X.base k C "__len__" sp) (hr : Room j X.A) (hk : k + 1 ≤ j) : CallR X (.builtin "len") (rLenO C sp) := by
  obtain ⟨f, fd, ps, F, hm, b⟩ := c.ex
  exact call_lenO hm.at_ (beq_iff_eq.mp hm.fn) F (hr.mono hk) b
theorem pe_m {pl : Sem Bool} (he : PE X o ta) (c : Cls X.K C) (h : M1 X.prog X.w X.K X.mg X.base k C m sp) (hr : Room j X.A) (hk : k ≤ j) (ha : PA X (e :: es) t)
    (hst : starEach (e :: es) X.env = (false, eval e X.env) :: starEach es X.env := by rfl) (hpl : (backTo pos (starEach es X.env)).any (·.1) = false := by rfl)
    (ht : eval (.Call (.Attribute o m apos) (e :: es) [] pos) X.env = (do
      let ov ← eval o X.env
      standAt apos.atName
      let (f, first) ← holding [ov] (getMethod ov m pl)
      callWith pos f first (backTo pos (starEach (e :: es) X.env)) (backToKw pos (keywordEach [] X.env))) := by rfl) :
    PE X (.Call (.Attribute o m apos) (e :: es) [] pos) (tMeth C m sp [] E0 ta t) := by
  obtain ⟨f, fd, ps, F, hm, b⟩ := h.ex
  exact pe_meth he c hm F (hr.mono hk) b .nil pass0 ha hst hpl ht
theorem pe_mX {E : XK} {W : WX} {pl : Sem Bool} (he : PE X o ta) (c : Cls X.K C) (h : M1X X.prog X.w X.K X.mg X.base k C m sp) (hr : Room j X.A) (hk : k ≤ j) (tk : Takes X W) (hW : ∀ cls d σ H, E cls d H → W cls d σ H) (ha : PA X (e :: es) t)
    (hst : starEach (e :: es) X.env = (false, eval e X.env) :: starEach es X.env := by rfl) (hpl : (backTo pos (starEach es X.env)).any (·.1) = false := by rfl)
    (ht : eval (.Call (.Attribute o m apos) (e :: es) [] pos) X.env = (do
      let ov ← eval o X.env
      standAt apos.atName
      let (f, first) ← holding [ov] (getMethod ov m pl)
      callWith pos f first (backTo pos (starEach (e :: es) X.env)) (backToKw pos (keywordEach [] X.env))) := by rfl) :
    PE X (.Call (.Attribute o m apos) (e :: es) [] pos) (tMeth C m sp [] E ta t) := by
  obtain ⟨f, fd, ps, F, hm, b⟩ := h.ex
  exact pe_meth he c hm F (hr.mono hk) b .nil (passes_call tk hW) ha hst hpl ht
theorem pe_mL {pl : Sem Bool} (he : PE X o ta) (c : Cls X.K C) (h : M1X X.prog X.w X.K X.mg X.base k C m sp) (hr : Room j X.A) (hk : k ≤ j) (ha : PA X (e :: es) t)
    (hst : starEach (e :: es) X.env = (false, eval e X.env) :: starEach es X.env := by rfl) (hpl : (backTo pos (starEach es X.env)).any (·.1) = false := by rfl)
    (ht : eval (.Call (.Attribute o m apos) (e :: es) [] pos) X.env = (do
      let ov ← eval o X.env
      standAt apos.atName
      let (f, first) ← holding [ov] (getMethod ov m pl)
      callWith pos f first (backTo pos (starEach (e :: es) X.env)) (backToKw pos (keywordEach [] X.env))) := by rfl) :
    PE X (.Call (.Attribute o m apos) (e :: es) [] pos) (tMeth C m sp [] E0 ta t) := by
  obtain ⟨f, fd, ps, F, hm, b⟩ := h.ex
  exact pe_meth he c hm F (hr.mono hk) b .nil passL ha hst hpl ht
theorem pe_mS {E : L2.St → XK} {pl : Sem Bool} (he : PE X o ta) (c : Cls X.K C) (h : M1X X.prog X.w X.K X.mg X.base k C m sp) (hr : Room j X.A) (hk : k ≤ j) (hx : ∀ σ, PassesAt (L2.CX X.prog X.w) X σ (E σ)) (ha : PA X (e :: es) t)
    (hst : starEach (e :: es) X.env = (false, eval e X.env) :: starEach es X.env := by rfl) (hpl : (backTo pos (starEach es X.env)).any (·.1) = false := by rfl)
    (ht : eval (.Call (.Attribute o m apos) (e :: es) [] pos) X.env = (do
      let ov ← eval o X.env
      standAt apos.atName
      let (f, first) ← holding [ov] (getMethod ov m pl)
      callWith pos f first (backTo pos (starEach (e :: es) X.env)) (backToKw pos (keywordEach [] X.env))) := by rfl) :
    PE X (.Call (.Attribute o m apos) (e :: es) [] pos) (tMethS C m sp E ta t) := by
  obtain ⟨f, fd, ps, F, hm, b⟩ := h.ex
  refine ⟨fun pins s σ H Q I h => ?_⟩
  refine PySem.W.methodCall_KW (pl := pl) (thn (he.run pins s σ H _ I h) fun u s1 ⟨x, H1, I1, rx, a, dx, fs, ex, ea, l, q⟩ => ?_) ht
  subst ex
  obtain rfl : u = Value.ref a := rx
  refine getmeth_ok I1 ea c hm l ?_
  refine PySem.W.callWith_K (first := [.ref a]) (h₀ := X.base) I.ok.mod.kin hm.kp (thn (ha.run pos pins s1 σ H1 _ I1 q) fun us s2 ⟨vs, H2, I2, r, q2⟩ => ⟨I2.kIn, ?_⟩) hst hpl
  exact run_fnS (us := .ref a :: us) (vs := .ref a :: vs) F (hr.mono hk) b (hx σ) I2 (.cons rfl r) q2
theorem pe_m0 {pl : Sem Bool} (he : PE X o ta) (c : Cls X.K C) (h : M1 X.prog X.w X.K X.mg X.base k C m sp) (hr : Room j X.A) (hk : k ≤ j)
    (ht : eval (.Call (.Attribute o m apos) [] [] pos) X.env = (do
      let ov ← eval o X.env
      standAt apos.atName
      let (f, first) ← holding [ov] (getMethod ov m pl)
      callWith pos f first (backTo pos (starEach [] X.env)) (backToKw pos (keywordEach [] X.env))) := by rfl) :
    PE X (.Call (.Attribute o m apos) [] [] pos) (tMeth C m sp [] E0 ta tNil) := by
  obtain ⟨f, fd, ps, F, hm, b⟩ := h.ex
  exact pe_meth0 he c hm F (hr.mono hk) b .nil pass0 ht
theorem pe_m0X {E : XK} {W : WX} {pl : Sem Bool} (he : PE X o ta) (c : Cls X.K C) (h : M1X X.prog X.w X.K X.mg X.base k C m sp) (hr : Room j X.A) (hk : k ≤ j) (tk : Takes X W) (hW : ∀ cls d σ H, E cls d H → W cls d σ H)
    (ht : eval (.Call (.Attribute o m apos) [] [] pos) X.env = (do
      let ov ← eval o X.env
      standAt apos.atName
      let (f, first) ← holding [ov] (getMethod ov m pl)
      callWith pos f first (backTo pos (starEach [] X.env)) (backToKw pos (keywordEach [] X.env))) := by rfl) :
    PE X (.Call (.Attribute o m apos) [] [] pos) (tMeth C m sp [] E ta tNil) := by
  obtain ⟨f, fd, ps, F, hm, b⟩ := h.ex
  exact pe_meth0 he c hm F (hr.mono hk) b .nil (passes_call tk hW) ht
theorem pe_m0L {pl : Sem Bool} (he : PE X o ta) (c : Cls X.K C) (h : M1X X.prog X.w X.K X.mg X.base k C m sp) (hr : Room j X.A) (hk : k ≤ j)
    (ht : eval (.Call (.Attribute o m apos) [] [] pos) X.env = (do
      let ov ← eval o X.env
      standAt apos.atName
      let (f, first) ← holding [ov] (getMethod ov m pl)
      callWith pos f first (backTo pos (starEach [] X.env)) (backToKw pos (keywordEach [] X.env))) := by rfl) :
    PE X (.Call (.Attribute o m apos) [] [] pos) (tMeth C m sp [] E0 ta tNil) := by
  obtain ⟨f, fd, ps, F, hm, b⟩ := h.ex
  exact pe_meth0 he c hm F (hr.mono hk) b .nil passL ht
theorem pe_mk (h : I1 X.prog X.w X.K X.mg X.base k C x sp) (hr : Room j X.A) (hk : k + 1 ≤ j) (hg : Gl X x) (ha : PA X (e :: es) t)
    (hdb : (x == ("__debug__" : Str)) = false := by decide) (he : starEach (e :: es) X.env = (false, eval e X.env) :: starEach es X.env := by rfl) (hpl : (backTo pos (starEach es X.env)).any (·.1) = false := by rfl) :
    PE X (.Call (.Name x p) (e :: es) [] pos) (tMake C sp [] E0 t) := by
  obtain ⟨f, fd, ps, F, hm, mgx, b⟩ := h.ex
  exact pe_make hm F (hr.mono hk) hg mgx b .nil pass0 ha hdb he hpl
theorem pe_mkX {E : XK} {W : WX} (h : I1X X.prog X.w X.K X.mg X.base k C x sp) (hr : Room j X.A) (hk : k + 1 ≤ j) (hg : Gl X x) (tk : Takes X W) (hW : ∀ cls d σ H, E cls d H → W cls d σ H) (ha : PA X (e :: es) t)
    (hdb : (x == ("__debug__" : Str)) = false := by decide) (he : starEach (e :: es) X.env = (false, eval e X.env) :: starEach es X.env := by rfl) (hpl : (backTo pos (starEach es X.env)).any (·.1) = false := by rfl) :
    PE X (.Call (.Name x p) (e :: es) [] pos) (tMake C sp [] E t) := by
  obtain ⟨f, fd, ps, F, hm, mgx, b⟩ := h.ex
  exact pe_make hm F (hr.mono hk) hg mgx b .nil (passes_call tk hW) ha hdb he hpl
theorem pe_mkL (h : I1X X.prog X.w X.K X.mg X.base k C x sp) (hr : Room j X.A) (hk : k + 1 ≤ j) (hg : Gl X x) (ha : PA X (e :: es) t)
    (hdb : (x == ("__debug__" : Str)) = false := by decide) (he : starEach (e :: es) X.env = (false, eval e X.env) :: starEach es X.env := by rfl) (hpl : (backTo pos (starEach es X.env)).any (·.1) = false := by rfl) :
    PE X (.Call (.Name x p) (e :: es) [] pos) (tMake C sp [] E0 t) := by
  obtain ⟨f, fd, ps, F, hm, mgx, b⟩ := h.ex
  exact pe_make hm F (hr.mono hk) hg mgx b .nil passL ha hdb he hpl
end
section
variable {K : PySem.W.Frag} {σ : L2.St} {H : Hp} {Q : VK} {C a dx : Addr} {m f : Str} {sp : Sp} {dvs : List V} {E : XK} {ES : L2.St → XK} {ta tv : TE} {t : TA} {fs : List (Str × V)} {v : V} {D : Ends}
theorem v_meth (q : ta σ H fun x H1 => ∃ a dx fs, x = .ref a ∧ H1 a = some (.ins C dx fs) ∧ fs.lookup m = none ∧ t σ H1 fun vs H2 => sp (x :: (vs ++ dvs)) H2 Q E) : tMeth C m sp dvs E ta t σ H Q := q
theorem v_methS (q : ta σ H fun x H1 => ∃ a dx fs, x = .ref a ∧ H1 a = some (.ins C dx fs) ∧ fs.lookup m = none ∧ t σ H1 fun vs H2 => sp (x :: vs) H2 Q (ES σ)) : tMethS C m sp ES ta t σ H Q := q
theorem v_make (q : t σ H fun vs H1 => ∀ x dx, H1 x = none → H1 dx = none → dx ≠ x → sp (.ref x :: (vs ++ dvs)) (upd (upd H1 dx (.own x)) x (.ins C dx [])) (fun v H2 => v = .non ∧ Q (.ref x) H2) E) : tMake C sp dvs E t σ H Q := q
def kFld (K : PySem.W.Frag) (f : Str) (Q : VK) : VK := fun x H1 => ∃ a C dx fs v, x = .ref a ∧ H1 a = some (.ins C dx fs) ∧ Cls K C ∧ NoAttr K C f ∧ fs.lookup f = some v ∧ Q v H1
theorem v_fld (q : ta σ H (kFld K f Q)) : tFld K ta f σ H Q := q
theorem v_kFld (h : H a = some (.ins C dx fs)) (c : Cls K C) (n : NoAttr K C f) (l : fs.lookup f = some v) (q : Q v H) : kFld K f Q (.ref a) H := ⟨a, C, dx, fs, v, rfl, h, c, n, l, q⟩
theorem lk_hd {f : Str} {v : V} {r : List (Str × V)} : ((f, v) :: r).lookup f = some v := by simp [List.lookup]
theorem lk_tl {f g : Str} {v : V} {r : List (Str × V)} (h : (f == g) = false) : ((g, v) :: r).lookup f = r.lookup f := by simp [List.lookup, h]
theorem lk_nil {f : Str} : ([] : List (Str × V)).lookup f = none := rfl
def kSF (K : PySem.W.Frag) (f : Str) (y : V) (D : Ends) (σ : L2.St) : VK := fun x H2 => ∃ a C dx fs, x = .ref a ∧ H2 a = some (.ins C dx fs) ∧ Cls K C ∧ NoAttr K C f ∧ fs.length < 1000 ∧ D.nx σ (upd H2 a (.ins C dx (putF f y fs)))
theorem v_sFld (q : tv σ H fun y H1 => ta σ H1 (kSF K f y D σ)) : sFld K ta tv f D σ H := q
theorem v_kSF {y : V} {fs' : List (Str × V)} (h : H a = some (.ins C dx fs)) (c : Cls K C) (n : NoAttr K C f) (l : fs.length < 1000) (e : putF f y fs = fs') (q : D.nx σ (upd H a (.ins C dx fs'))) : kSF K f y D σ (.ref a) H :=
  ⟨a, C, dx, fs, rfl, h, c, n, l, by rw [e]; exact q⟩
theorem pf_nil {f : Str} {v : V} : putF f v [] = [(f, v)] := rfl
theorem pf_tl {f g : Str} {v x : V} {r : List (Str × V)} (h : ¬ g = f) : putF f v ((g, x) :: r) = (g, x) :: putF f v r := if_neg h
theorem pf_hd {f : Str} {v x : V} {r : List (Str × V)} : putF f v ((f, x) :: r) = (f, v) :: r := if_pos rfl
end
end Sh

namespace Sh
open PySem PySem.Spec PyProof.Rows L2
/-! ### x in o of an own class with an own __contains__ -/
def rInO (C : Addr) (sp : Sp) : R2 := fun x y H Q => ∃ a dx fs, y = .ref a ∧ H a = some (.ins C dx fs) ∧ sp [.ref a, x] H (fun v H' => ∃ b : Bool, v = .bl b ∧ Q (.bl b) H') E0
theorem op_inF {X : Cx} {CX : CXT} {k : Nat} {C f : Addr} {fd : FuncData} {ps : List Str} {sp : Sp} (hm : PySem.W.findIn X.K (.ref C) "__contains__" = some (some (.ref f))) (hf : PySem.W.typeIn X.K (.ref f) = some (.type "function"))
    (F : FnOk X.prog X.w X.K X.mg X.base CX k f fd ps sp) (hr : Room k X.A) (hb : Binds X.K fd ps []) (hx : Passes CX X E0) : OpR X (compareOp .In) (rInO C sp) := by
  intro pins s σ H x y v u Q I rx ry h
  obtain ⟨a, dx, fs, rfl, ea, h⟩ := h
  obtain rfl : u = Value.ref a := ry
  obtain ⟨mA, O, _, _, _, _⟩ := ins_get I.hok ea
  obtain ⟨od, J, _⟩ := O.look
  have run := run_fn (us := [.ref a, v]) (vs := [.ref a, x]) F hr hb .nil hx I (.cons rfl (.cons rx .nil)) h
  show wpAny _ _ (do return Value.bool (← contains (Value.ref a) v)) _ _ s
  refine wpAny_bind ?_
  unfold contains
  refine wpAny_holding ?_
  rw [stdlibNamesSay?_ref]
  have hsp : ∀ {Q' : Option Value → Shared → Prop}, Q' (some (.ref f)) s → wpAny (model X.prog X.w) X.A (specialOf (.ref a) "__contains__") Q' X.xe s := fun q => by
    unfold specialOf
    exact wpAny_bind (J.type.here ((PySem.W.looks_findIn I.kIn hm).here q))
  refine wpAny_bind (hsp ?_)
  rw [if_neg (by simp)]
  unfold callSpecialUnlessNone?
  refine wpAny_bind (wpAny_bind (hsp ?_))
  refine wpAny_holding ?_
  refine wpAny_bind ((PySem.W.bind_fn I.kIn _ hf).here ?_)
  dsimp only
  rw [if_neg (by simp)]
  refine wpAny_bind (wpAny_mono run (fun r s' q => ?_) fun _ _ z => z)
  obtain ⟨v', H', I', rv, b, rfl, q⟩ := q
  obtain rfl : r = Value.bool b := rv
  refine wpAny_pure (wpAny_truthy_bool ?_)
  exact wpAny_pure ⟨.bl b, H', I', rfl, q⟩
section
variable {X : Cx} {k j : Nat} {C : Addr} {sp : Sp}
theorem op_inO (c : M1 X.prog X.w X.K X.mg X.base k C "__contains__" sp) (hr : Room j X.A) (hk : k ≤ j) : OpR X (compareOp .In) (rInO C sp) := by
  obtain ⟨f, fd, ps, F, hm, b⟩ := c.ex
  exact op_inF hm.at_ (beq_iff_eq.mp hm.fn) F (hr.mono hk) b pass0
theorem op_inOL (c : M1X X.prog X.w X.K X.mg X.base k C "__contains__" sp) (hr : Room j X.A) (hk : k ≤ j) : OpR X (compareOp .In) (rInO C sp) := by
  obtain ⟨f, fd, ps, F, hm, b⟩ := c.ex
  exact op_inF hm.at_ (beq_iff_eq.mp hm.fn) F (hr.mono hk) b passL
end
/-! ### properties -/
structure P1 (P : Program) (w : World) (K : PySem.W.Frag) (mg : Str → Option Value) (base : Heap) (k : Nat) (C : Addr) (m : Str) (sp : Sp) : Prop where
  ex : ∃ (p f : Addr) (fd : FuncData) (ps : List Str), FnOk P w K mg base CX0 k f fd ps sp ∧ PropOf K C m p f ∧ Binds K fd ps []
theorem pe_pr {X : Cx} {k j : Nat} {C : Addr} {f : Str} {sp : Sp} {e : Expr} {pos : Pos} {ta : TE} (he : PE X e ta) (c : Cls X.K C) (h : P1 X.prog X.w X.K X.mg X.base k C f sp) (hr : Room j X.A) (hk : k + 1 ≤ j)
    (hab : attributeBase e f X.env (eval e X.env) = eval e X.env) : PE X (.Attribute e f pos) (tProp C sp [] E0 ta) := by
  obtain ⟨p, g, fd, ps, F, hp, b⟩ := h.ex
  exact pe_prop he c hp F (hr.mono hk) b .nil pass0 hab
theorem v_prop {C : Addr} {sp : Sp} {dvs : List V} {E : XK} {ta : TE} {σ : L2.St} {H : Hp} {Q : VK} (q : ta σ H fun x H1 => ∃ a dx fs, x = .ref a ∧ H1 a = some (.ins C dx fs) ∧ sp (.ref a :: dvs) H1 Q E) : tProp C sp dvs E ta σ H Q := q
end Sh

namespace Sh
open PySem PySem.Spec PyProof.Rows L2
/-! ### a def that is called in an except suite and is handed the error -/
structure FnE (P : Program) (w : World) (K : PySem.W.Frag) (mg : Str → Option Value) (base : Heap) (k : Nat) (f : Addr) (fd : FuncData) (ps : List Str) (sp : Addr → Value → Option Addr → Sp) : Prop where
  len : ∀ a c d vs H Q E, sp a c d vs H Q E → vs.length = ps.length
  run : ∀ (A : Around) (outer : List Env) (s : Shared) (H : Hp) (args : Args) (us : List Value) (vs : List V) (Q : VK) (p : Addr × Obj) (cls : Value) (d : Option Addr), L2H.RoomH k A → Zc cls d p.2 → (∃ vs, p.2.data = .fields vs) → L2H.PinOk outer H s p → Env0 P w K mg base A outer s H → BindsTo s fd args (ps.zip us) → Vals vs us → sp p.1 cls d vs H Q E0 →
    codeAny (model P w) A (.call (.ref f) args) (CR CX0 outer P w H s Q E0) s
theorem okE {P : Program} {w : World} {K : PySem.W.Frag} {mg : Str → Option Value} {base : Heap} {x qual : Str} {st : Stmt} {f : Addr} {fd : FuncData} {N ps : List Str} {k : Nat} {sp : Addr → Value → Option Addr → Sp} (F : Fun K x qual st f fd) (S : FnScope N ps (defScope st)) (len : ∀ a c d vs H Q E, sp a c d vs H Q E → vs.length = ps.length)
    (hbody : ∀ (cdv : Value) (A : Around) (outer : List Env) (s : Shared) (H : Hp) (vs : List V) (Q : VK) (p : Addr × Obj) (cls : Value) (d : Option Addr), Zc cls d p.2 → (∃ vs, p.2.data = .fields vs) → L2H.RoomH k (A.deeper (envOfC qual (defScope st) s.heap.objs.size f cdv)) → sp p.1 cls d vs H Q E0 →
      ∃ t, PSs (L2H.cxH CX0 P w K mg base N qual (defScope st) f cdv A outer s H E0 p) (defBody st) t ∧ t { nx := fun _ H' => Q .non H', rt := Q } (L2.start N vs) H) : FnE P w K mg base (k + 1) f fd ps sp := by
  obtain ⟨oc, od, kV, doc, pm, an, cdv, ct, osl, rfl, lk, hcd⟩ := F.ex
  refine ⟨len, fun A outer s H args us vs Q p cls d hr ez ef hpin e0 hb r hsp => ?_⟩
  have hl := len _ _ _ _ _ _ _ hsp
  have KX : K.In s.heap := e0.mod.kin.keeps fun b o e => (e0.bs b o e).1
  have lim : s.heap.NoLimit := e0.mod.nolimit.keeps fun b o e => (e0.bs b o e).1
  have hkind : ∀ y ∈ ps.zip us, (defScope st).names.lookup y.1 = some .local ∨ ((defScope st).names.lookup y.1 = some .cell ∧ ((cellsFrom (s.heap.objs.size + 1) (defScope st).names []).lookup y.1).isSome = true) := fun ⟨n, v⟩ hy => by
    rcases S.par n (List.of_mem_zip hy).1 with q | q
    · exact .inl q
    · exact .inr ⟨q, PySem.W.cellsFrom_some _ _ _ (.inl q)⟩
  refine codeAny_call_function hr.depth (KX _ _ lk) rfl S.co S.gen rfl (PySem.W.codeRec_of KX hcd) (hb _ _ _ _ ?_)
  refine wpAny_newFunctionEnv_cells S.kind hkind fun env he s1 x => ?_
  subst he
  refine ⟨lim.keeps x.toInCall.keep, codeAny_func ?_⟩
  obtain ⟨t, ht, hq⟩ := hbody cdv A outer s H vs Q p cls d ez ef (hr.deeper _) hsp
  have I : Inv (L2H.cxH CX0 P w K mg base N qual (defScope st) f cdv A outer s H E0 p) [] (L2.start N vs) H s1 := L2H.inv_startH S hpin e0 hl r x
  refine wpAny_mono (ht.run [] s1 (L2.start N vs) H _ I hq) (fun fl s' hs => ?_) fun e s' hs => hs
  have fin : ∀ {σ' : L2.St} {H' : Hp} {v : V} {u : Value}, Inv (L2H.cxH CX0 P w K mg base N qual (defScope st) f cdv A outer s H E0 p) [] σ' H' s' → RelV v u → Q v H' → CE outer P w H s Q u s' :=
    fun {σ' H' v u} J rv q => ⟨v, H', J.os, J.bare, J.base, J.hok, rv, q⟩
  cases fl with
  | ret u =>
    obtain ⟨v, σ', H', J, rv, q⟩ := hs
    exact fin J rv q
  | next =>
    obtain ⟨σ', H', J, q⟩ := hs
    exact fin (v := V.non) (u := Value.none) J rfl q
  | brk =>
    obtain ⟨_, _, _, q⟩ := hs
    exact False.elim q
  | cont =>
    obtain ⟨_, _, _, q⟩ := hs
    exact False.elim q
structure CE1 (P : Program) (w : World) (K : PySem.W.Frag) (mg : Str → Option Value) (base : Heap) (k : Nat) (x : Str) (sp : Addr → Value → Option Addr → Sp) : Prop where
  ex : ∃ (f : Addr) (fd : FuncData) (ps : List Str), FnE P w K mg base k f fd ps sp ∧ mg x = some (.ref f) ∧ PySem.W.keepIn K (.ref f) = true ∧ Binds K fd ps []
theorem pe_cE {X : Cx} {k j : Nat} {x : Str} {sp : Addr → Value → Option Addr → Sp} {q pos : Pos} {e : Expr} {es : List Expr} {t : TA} {a : Addr} {cls : Value} {d : Option Addr} {oe : Obj} {pn : List (Addr × Obj)}
    (c : CE1 X.prog X.w X.K X.mg X.base k x sp) (ez : Zc cls d oe) (ef : ∃ vs, oe.data = .fields vs) (hr : Room j X.A) (hk : k ≤ j) (hg : Gl (X.suite a ((a, oe) :: pn)) x) (ha : PA (X.suite a ((a, oe) :: pn)) (e :: es) t)
    (hdb : (x == ("__debug__" : Str)) = false := by decide) (he : starEach (e :: es) X.env = (false, eval e X.env) :: starEach es X.env := by rfl) (hpl : (backTo pos (starEach es X.env)).any (·.1) = false := by rfl) :
    PE (X.suite a ((a, oe) :: pn)) (.Call (.Name x q) (e :: es) [] pos) (tCall (sp a cls d) [] E0 t) := by
  obtain ⟨f, fd, ps, F, hm, kp, b⟩ := c.ex
  have hr := hr.mono hk
  refine ⟨fun pins s σ H Q I h => ?_⟩
  refine wpAny_Call_Name_kw (ld_glob I hg hm ?_ hdb)
  refine PySem.W.callWith_K (h₀ := X.base) I.ok.mod.kin kp (thn (ha.run pos pins s σ H _ I h) fun us s1 ⟨vs, H1, I1, r, q⟩ => ⟨I1.kIn, ?_⟩) he hpl
  have q : sp a cls d vs H1 Q E0 := by simpa using q
  have hl : us.length = ps.length := by rw [← r.length]; exact F.len _ _ _ _ _ _ _ q
  have b2 := b s1 us I1.kIn (by rw [List.append_nil]; exact hl)
  rw [List.append_nil] at b2
  have P1 := I1.pin (a, oe) (List.mem_append_left _ List.mem_cons_self)
  have hpin : L2H.PinOk (X.suite a ((a, oe) :: pn)).stack H1 s1 (a, oe) := ⟨P1.1, P1.2.1, fun hm => (List.mem_cons.mp (I1.stkSub a hm)).elim P1.2.2.1 P1.2.2.2.1, P1.2.2.2.2⟩
  refine wpAny_call (codeAny_mono (F.run (X.suite a ((a, oe) :: pn)).A (X.suite a ((a, oe) :: pn)).stack s1 H1 ⟨us, []⟩ us vs Q (a, oe) cls d ⟨hr.dp, hr.un⟩ ez ef hpin I1.env0 b2 r q) fun r s' hq => ?_)
  cases r with
  | error e => exact False.elim hq
  | ok fl =>
    cases fl with
    | ret u => exact I1.after hq
    | next => exact False.elim hq
    | brk => exact False.elim hq
    | cont => exact False.elim hq
theorem call_isXm {X : Cx} {cls : Value} {d : Option Addr} {p : Addr × Obj} (hm : p ∈ X.pn) (hz : Zc cls d p.2) (hf : ∃ vs, p.2.data = .fields vs) : CallR X (.builtin "isinstance") (rIsX X.K cls d p.1) := by
  intro pins s σ H xs us Q I r h
  obtain ⟨D, c, cv, b, rfl, rfl, C, rfl, hcv, e, q⟩ := h
  cases r with
  | cons rx rr =>
    cases rr with
    | cons rt rr =>
      cases rr
      cases rx
      have ec := hcv _ rt
      subst ec
      obtain ⟨hget, _⟩ := I.pin p (List.mem_append.mpr (.inl hm))
      obtain ⟨vs, hv⟩ := hf
      have J : PySem.W.InstAt s.heap p.1 p.2 D none := by
        obtain ⟨a, oe⟩ := p
        obtain ⟨oc, od, oda, osl⟩ := oe
        obtain ⟨h1, h2⟩ := hz
        dsimp only at h1 h2 hv
        subst h1 h2 hv
        exact ⟨hget, rfl, rfl, trivial⟩
      exact PySem.W.kia_one (PySem.W.handS_kitx_exc C.hg C.hk C.hs C.hd C.ha C.hn C.ht C.hm) I.kIn J e (fun z => nomatch z) fun tk => ⟨.bl b, H, I.kept (t' := tk) fun _ _ z => z, rfl, q⟩
/-! ### x in o, in a try -/
def tInOS (C : Addr) (sp : Sp) (E : L2.St → XK) (ta tb : TE) : TE := fun σ H Q => ta σ H fun x H1 => tb σ H1 fun y H2 => ∃ a dx fs, y = .ref a ∧ H2 a = some (.ins C dx fs) ∧ sp [.ref a, x] H2 (fun v H' => ∃ b : Bool, v = .bl b ∧ Q (.bl b) H') (E σ)
theorem pe_inS {X : Cx} {k j : Nat} {C : Addr} {sp : Sp} {E : L2.St → XK} {a b : Expr} {ta tb : TE} {pos : Pos} (c : M1X X.prog X.w X.K X.mg X.base k C "__contains__" sp) (hr : Room j X.A) (hk : k ≤ j) (hx : ∀ σ, PassesAt (L2.CX X.prog X.w) X σ (E σ))
    (ha : PE X a ta) (hb : PE X b tb) (hmk : behindInMarks .In b = false) : PE X (.Compare a [.In] [b] pos) (tInOS C sp E ta tb) := by
  obtain ⟨f, fd, ps, F, hm', bd⟩ := c.ex
  have hm := hm'.at_
  have hf := beq_iff_eq.mp hm'.fn
  have F := F
  refine ⟨fun pins s0 σ H0 Q I0 h0 => ?_⟩
  refine wpAny_Compare1 (binT ha hb I0 h0 fun v u s x y H I rx ry h => ?_) hmk
  obtain ⟨a, dx, fs, rfl, ea, h⟩ := h
  obtain rfl : u = Value.ref a := ry
  obtain ⟨mA, O, _, _, _, _⟩ := ins_get I.hok ea
  obtain ⟨od, J, _⟩ := O.look
  have run := run_fnS (us := [.ref a, v]) (vs := [.ref a, x]) F (hr.mono hk) bd (hx σ) I (.cons rfl (.cons rx .nil)) h
  show wpAny _ _ (do return Value.bool (← contains (Value.ref a) v)) _ _ s
  refine wpAny_bind ?_
  unfold contains
  refine wpAny_holding ?_
  rw [stdlibNamesSay?_ref]
  have hsp : ∀ {Q' : Option Value → Shared → Prop}, Q' (some (.ref f)) s → wpAny (model X.prog X.w) X.A (specialOf (.ref a) "__contains__") Q' X.xe s := fun q => by
    unfold specialOf
    exact wpAny_bind (J.type.here ((PySem.W.looks_findIn I.kIn hm).here q))
  refine wpAny_bind (hsp ?_)
  rw [if_neg (by simp)]
  unfold callSpecialUnlessNone?
  refine wpAny_bind (wpAny_bind (hsp ?_))
  refine wpAny_holding ?_
  refine wpAny_bind ((PySem.W.bind_fn I.kIn _ hf).here ?_)
  dsimp only
  rw [if_neg (by simp)]
  refine wpAny_bind (wpAny_mono run (fun r s' q => ?_) fun _ _ z => z)
  obtain ⟨v', H', I', rv, b, rfl, q⟩ := q
  obtain rfl : r = Value.bool b := rv
  refine wpAny_pure (wpAny_truthy_bool ?_)
  exact wpAny_pure ⟨.bl b, H', I', rfl, q⟩
theorem v_inOS {C : Addr} {sp : Sp} {E : L2.St → XK} {ta tb : TE} {σ : L2.St} {H : Hp} {Q : VK} (q : ta σ H fun x H1 => tb σ H1 fun y H2 => ∃ a dx fs, y = .ref a ∧ H2 a = some (.ins C dx fs) ∧ sp [.ref a, x] H2 (fun v H' => ∃ b : Bool, v = .bl b ∧ Q (.bl b) H') (E σ)) : tInOS C sp E ta tb σ H Q := q
/-! ### C(..), in a try -/
def tMakeS (C : Addr) (sp : Sp) (E : L2.St → XK) (t : TA) : TE := fun σ H Q => t σ H fun vs H1 => ∀ x dx, H1 x = none → H1 dx = none → dx ≠ x →
  sp (.ref x :: vs) (upd (upd H1 dx (.own x)) x (.ins C dx [])) (fun v H2 => v = .non ∧ Q (.ref x) H2) (E σ)
theorem run_makeS {X : Cx} {CX : CXT} {k : Nat} {f C : Addr} {fd : FuncData} {ps : List Str} {sp : Sp} {E : XK} {pins : List (Addr × Obj)} {σ : L2.St} {H : Hp} {s : Shared} {Q : VK} {us : List Value} {vs : List V} (M : Mk X.K C f) (F : FnOk X.prog X.w X.K X.mg X.base CX k f fd ps sp) (hr : Room (k + 1) X.A) (hb : Binds X.K fd ps [])
    (hx : PassesAt CX X σ E) (I : Inv X pins σ H s) (r : Vals vs us)
    (h : ∀ x dx, H x = none → H dx = none → dx ≠ x → sp (.ref x :: vs) (upd (upd H dx (.own x)) x (.ins C dx [])) (fun v H2 => v = .non ∧ Q (.ref x) H2) E) :
    wpAny (model X.prog X.w) X.A (call (.ref C) us) (EP X pins σ Q) X.xe s := by
  have hq := h (s.heap.objs.size + 1) s.heap.objs.size (I.hok.fresh (Nat.le_succ _)) (I.hok.fresh (Nat.le_refl _)) (Nat.ne_of_lt (Nat.lt_succ_self _))
  have I2 := Inv.made (C := C) I
  have r2 : Vals (V.ref (s.heap.objs.size + 1) :: vs) (Value.ref (s.heap.objs.size + 1) :: us) := .cons rfl r
  have hl : (Value.ref (s.heap.objs.size + 1) :: us).length = ps.length := by
    have e := r2.length
    rw [F.len _ _ _ _ hq] at e
    exact e.symm
  have b := hb _ (Value.ref (s.heap.objs.size + 1) :: us) I2.kIn (by rw [List.append_nil]; exact hl)
  rw [List.append_nil] at b
  refine wpAny_call (make_map (f := f) I.kIn M.makes M.init (beq_iff_eq.mp M.fn) (codeAny_mono (F.run _ X.stack _ _ ⟨Value.ref (s.heap.objs.size + 1) :: us, []⟩ (Value.ref (s.heap.objs.size + 1) :: us) _ _ E (hr.make C us [])
    (I2.env0.make C us []) b r2 hq) fun r s' hq' => ?_))
  cases r with
  | error e => exact hx pins _ _ e s' I2 hq'
  | ok fl =>
    cases fl with
    | ret u =>
      obtain ⟨v, H', I3, rv, ev, q3⟩ := I2.after hq'
      subst ev
      exact ⟨rv, ⟨V.ref (s.heap.objs.size + 1), H', I3, rfl, q3⟩⟩
    | next => exact False.elim hq'
    | brk => exact False.elim hq'
    | cont => exact False.elim hq'
theorem pe_mkS {X : Cx} {k j : Nat} {C : Addr} {x : Str} {sp : Sp} {E : L2.St → XK} {p pos : Pos} {e : Expr} {es : List Expr} {t : TA} (h : I1X X.prog X.w X.K X.mg X.base k C x sp) (hr : Room j X.A) (hk : k + 1 ≤ j) (hg : Gl X x) (hx : ∀ σ, PassesAt (L2.CX X.prog X.w) X σ (E σ)) (ha : PA X (e :: es) t)
    (hdb : (x == ("__debug__" : Str)) = false := by decide) (he : starEach (e :: es) X.env = (false, eval e X.env) :: starEach es X.env := by rfl) (hpl : (backTo pos (starEach es X.env)).any (·.1) = false := by rfl) :
    PE X (.Call (.Name x p) (e :: es) [] pos) (tMakeS C sp E t) := by
  obtain ⟨f, fd, ps, F, hm, mgx, b⟩ := h.ex
  refine ⟨fun pins s σ H Q I h => ?_⟩
  refine wpAny_Call_Name_kw (ld_glob I hg mgx ?_ hdb)
  refine PySem.W.callWith_K (h₀ := X.base) I.ok.mod.kin hm.kp (thn (ha.run pos pins s σ H _ I h) fun us s1 ⟨vs, H1, I1, r, q⟩ => ⟨I1.kIn, ?_⟩) he hpl
  exact run_makeS hm F (hr.mono hk) b (hx σ) I1 r q
theorem v_makeS {C : Addr} {sp : Sp} {E : L2.St → XK} {t : TA} {σ : L2.St} {H : Hp} {Q : VK} (q : t σ H fun vs H1 => ∀ x dx, H1 x = none → H1 dx = none → dx ≠ x → sp (.ref x :: vs) (upd (upd H1 dx (.own x)) x (.ins C dx [])) (fun v H2 => v = .non ∧ Q (.ref x) H2) (E σ)) : tMakeS C sp E t σ H Q := q
end Sh

namespace Sh
open PySem PySem.Spec PyProof.Rows L2
section
variable {K : PySem.W.Frag} {σ : L2.St} {H : Hp} {tt : TT} {te tk tv : TE} {Q : VK} {α β : Type}
/-- a comprehension over zip(a list, a list), the second one no longer than the first -/
theorem lc_Zs (G : α → V) (F : β → V) {a b : Addr} {xs : List α} {ys : List β} {j k : Nat} (hjk : j ≠ k) (f : α → β → V) (hx : H a = some (.lst (xs.map G))) (hy : H b = some (.lst (ys.map F))) (hl : ys.length ≤ xs.length) (hn : xs.length ≤ sizeLine)
    (he : ∀ (i : Nat) x y H', xs[i]? = some x → ys[i]? = some y → Same H H' → ∀ Qv : VK, Qv (f x y) H' → te (((wipe σ [j, k]).set j (some (G x))).set k (some (F y))) H' Qv)
    (hd : ∀ L H2, H L = none → Same H H2 → H2 L = some (.lst ((xs.zip ys).map fun z => f z.1 z.2)) → Q (.ref L) H2) :
    kLc (gTup K 2 (gCons (gName j) (gCons (gName k) gNil))) tYes te [j, k] σ Q (Itz K a b) H := by
  intro L hL
  have nm : ∀ (i : Nat) (v : V) (τ : L2.St) (H' : Hp) (R : L2.St → Hp → Prop), R (τ.set i (some v)) H' → gName i v τ H' R := fun _ _ _ _ _ q => q
  refine ⟨fun i m H' => m = ys.length - i ∧ i ≤ ys.length ∧ Same H H' ∧ H' L = some (.lst (((xs.zip ys).take i).map fun z => f z.1 z.2)), ⟨ys.length, by simp, Nat.zero_le _, same_upd hL, upd_same⟩, ?_⟩
  rintro i m H' ⟨rfl, hi, sm, hLe⟩
  by_cases hlt2 : i < ys.length
  · have hlt : i < xs.length := by omega
    have hx2 : xs[i]? = some xs[i] := List.getElem?_eq_getElem hlt
    have hy2 : ys[i]? = some ys[i] := List.getElem?_eq_getElem hlt2
    have hit : (xs.map G)[i]? = some (G xs[i]) := by rw [List.getElem?_map, hx2]; rfl
    have hit2 : (ys.map F)[i]? = some (F ys[i]) := by rw [List.getElem?_map, hy2]; rfl
    refine .inr ⟨⟨_, _, _, _, SqL.of (sm _ _ hx), SqL.of (sm _ _ hy), hit, hit2⟩, fun H' => i + 1 ≤ ys.length ∧ Same H H' ∧ H' L = some (.lst (((xs.zip ys).take (i + 1)).map fun z => f z.1 z.2)), fun H' h => ⟨ys.length - (i + 1), by omega, rfl, h.1, h.2⟩, fun v H2 hyy => ?_⟩
    obtain ⟨T, x, y, rfl, hT, rfl, h1, h2⟩ := hyy
    have ex := h1 _ (SqL.of (sm _ _ hx))
    rw [hit] at ex
    cases Option.some.inj ex
    have ey := h2 _ (SqL.of (sm _ _ hy))
    rw [hit2] at ey
    cases Option.some.inj ey
    have sT := sm.trans (same_upd (o := .tup [G xs[i], F ys[i]]) hT)
    have hLe := same_upd (o := .tup [G xs[i], F ys[i]]) hT _ _ hLe
    refine ⟨T, _, rfl, SqT.of upd_same, rfl, _, _, rfl, nm _ _ _ _ _ ⟨_, _, rfl, nm _ _ _ _ _ ⟨rfl, wipe_two hjk _ _, v_yes ?_⟩⟩⟩
    generalize upd H' T (.tup [G xs[i], F ys[i]]) = H3 at sT hLe ⊢
    rw [if_pos rfl]
    have hlen : (((xs.zip ys).take i).map fun z => f z.1 z.2).length < sizeLine := by
      rw [List.length_map, List.length_take, List.length_zip]
      omega
    have hz : (xs.zip ys)[i]? = some (xs[i], ys[i]) := List.getElem?_zip_eq_some.mpr ⟨hx2, hy2⟩
    have et : (xs.zip ys).take (i + 1) = (xs.zip ys).take i ++ [(xs[i], ys[i])] := by rw [List.take_add_one, hz]; rfl
    refine he i xs[i] ys[i] _ hx2 hy2 sT _ ⟨_, hLe, hlen, hlt2, fun b o e => ?_, ?_⟩
    · rw [upd_ne (ne_of_none e hL)]
      exact sT _ _ e
    · rw [upd_same, et, List.map_append]
      rfl
  · have e : i = ys.length := by omega
    subst e
    refine .inl ⟨⟨_, _, SqL.of (sm _ _ hx), SqL.of (sm _ _ hy), .inr (by rw [List.length_map]; exact Nat.le_refl _)⟩, hd L H' hL sm ?_⟩
    rw [hLe, List.take_of_length_le (by rw [List.length_zip]; omega)]
end
theorem v_slLm {K : PySem.W.Frag} {H : Hp} {Q : VK} {a : Addr} {α : Type} {xs : List α} {i j : Int} (G : α → V) (hs : SqL K H a (xs.map G)) (hi : 0 ≤ i) (hj : 0 ≤ j) (q : ∀ p, H p = none → Q (.ref p) (upd H p (.lst (((xs.drop i.toNat).take (j.toNat - i.toNat)).map G)))) : rSlL K (.ref a) (some i) (some j) H Q :=
  ⟨a, _, rfl, hs, fun p hp => by
    rw [show cutV (xs.map G) (some i) (some j) = cutL (xs.map G) (some i) (some j) from rfl, cutL_mid _ hi hj, ← List.map_drop, ← List.map_take]
    exact q p hp⟩
/-! ### str.count of a letter, str.find from a place on -/
def rCnt1 : V → List V → Hp → VK → Prop := fun x xs H Q => ∃ a b, x = .str a ∧ xs = [.str b] ∧ Q (.int (Txt.count a b)) H
theorem mt_cnt1 {X : Cx} : MtR X "str.count" rCnt1 := mt_count
theorem count_all (a : List Nat) (c : Nat) : Txt.count (S a) (S [c]) = ((a.count c : Nat) : Int) := by
  have h := count_within a c (j := (a.length : Int)) (Int.natCast_nonneg _) (Int.le_refl _)
  rw [Int.toNat_natCast, List.take_length] at h
  rw [← h]
  have e1 : toIndexW (S a).length (a.length : Int) = (S a).length := by
    unfold toIndexW
    rw [S_len, if_neg (by omega)]
    omega
  unfold Txt.countIn
  rw [e1]
  rfl
theorem v_cnt1 {H : Hp} {Q : VK} {a : List Nat} {c : Nat} (q : Q (.int ((a.count c : Nat) : Int)) H) : rCnt1 (.str (S a)) [.str (S [c])] H Q :=
  ⟨S a, S [c], rfl, rfl, by rw [count_all]; exact q⟩
def rFnd3 : V → List V → Hp → VK → Prop := fun x xs H Q => ∃ (a b : Str) (i : Int), x = .str a ∧ xs = [.str b, .int i] ∧ Q (.int (Txt.find3 a b i)) H
theorem mt_fnd3 {X : Cx} : MtR X "str.find" rFnd3 := mt_find3
theorem occ_full (s sub : Str) (hi : Nat) : ∀ (l : List Nat) (st : Array Nat × Nat), st.fst.size = 1 → (forIn l st (StrLaws.occBody s sub hi 1)).run.fst = st.fst
  | [], _, _ => rfl
  | a :: l, st, h => by
    rw [List.forIn_cons]
    unfold StrLaws.occBody
    rw [if_neg (fun c => by have := c.1.1.1; omega)]
    exact occ_full s sub hi l (st.fst, st.snd) h
theorem occ_first (s sub : Str) (hi : Nat) : ∀ (n i : Nat) (st : Array Nat × Nat), st.snd ≤ i → st.fst = #[] →
    (forIn (List.range' i n) st (StrLaws.occBody s sub hi 1)).run.fst.toList = match (List.range' i n).find? (fun k => decide (k + sub.length ≤ hi ∧ Builtin.Str.subAt s sub k = true)) with | some k => [k] | none => []
  | 0, i, st, _, h => by simp [h]
  | n + 1, i, st, h1, h2 => by
    rw [List.range'_succ, List.forIn_cons]
    unfold StrLaws.occBody
    by_cases c : i + sub.length ≤ hi ∧ Builtin.Str.subAt s sub i = true
    · rw [if_pos ⟨⟨⟨by rw [h2]; decide, h1⟩, c.1⟩, c.2⟩, List.find?_cons_of_pos (by simpa using c)]
      have := occ_full s sub hi (List.range' (i + 1) n) (st.fst.push i, i + sub.length) (by rw [h2]; rfl)
      unfold StrLaws.occBody at this
      simp only [pure_bind]
      rw [this, h2]
      rfl
    · rw [if_neg (fun d => c ⟨d.1.2, d.2⟩), List.find?_cons_of_neg (by simpa using c)]
      exact occ_first s sub hi n (i + 1) (st.fst, st.snd) (by show st.snd ≤ _; omega) h2
/-- the first place from i on, or -1 -/
def fstAt (a w : List Nat) (i : Nat) : Int := match (List.range' i (a.length + 1 - i)).find? (fun k => decide (k + w.length ≤ a.length ∧ (a.drop k).take w.length = w)) with | some k => (k : Int) | none => -1
theorem find_S {a w : List Nat} {i : Nat} (hi : i ≤ a.length) : Txt.find3 (S a) (S w) (i : Int) = fstAt a w i := by
  have e0 : fromIndex (S a).length (i : Int) = i := by
    unfold fromIndex
    rw [if_neg (by omega)]
    omega
  unfold Txt.find3 fstAt
  rw [e0, StrLaws.occ_eq, occ_first (S a) (S w) (S a).length ((S a).length + 1 - i) i (#[], i) (Nat.le_refl _) rfl, S_len, S_len]
  have e : (fun k => decide (k + w.length ≤ a.length ∧ Builtin.Str.subAt (S a) (S w) k = true)) = fun k => decide (k + w.length ≤ a.length ∧ (a.drop k).take w.length = w) := by
    funext k
    congr 1
    rw [StrLaws.subAt_eq, S_list, S_list, S_len, beq_iff_eq]
  rw [e]
  cases (List.range' i (a.length + 1 - i)).find? (fun k => decide (k + w.length ≤ a.length ∧ (a.drop k).take w.length = w)) <;> rfl
theorem v_fnd3 {H : Hp} {Q : VK} {a w : List Nat} {i : Nat} (hi : i ≤ a.length) (q : Q (.int (fstAt a w i)) H) : rFnd3 (.str (S a)) [.str (S w), .int (i : Int)] H Q :=
  ⟨S a, S w, (i : Int), rfl, rfl, by rw [find_S hi]; exact q⟩
theorem mo_fld {K : PySem.W.Frag} {ta : TE} {f : Str} (h : MoE ta) : MoE (tFld K ta f) := fun σ H Q Q' m q => h σ H _ _ (fun x H1 ⟨a, C, dx, fs, v, e1, e2, e3, e4, e5, q⟩ => ⟨a, C, dx, fs, v, e1, e2, e3, e4, e5, m _ _ q⟩) q
end Sh

namespace Sh
open PySem PySem.Spec PyProof.Rows L2
/-! ### + of whole numbers or of texts -/
theorem op_or {X : Cx} {f : Value → Value → Sem Value} {r1 r2 : R2} (h1 : OpR X f r1) (h2 : OpR X f r2) : OpR X f (fun x y H Q => r1 x y H Q ∨ r2 x y H Q) := by
  intro pins s σ H x y v u Q I rx ry h
  exact h.elim (h1 pins s σ H x y v u Q I rx ry) (h2 pins s σ H x y v u Q I rx ry)
def rAddA : R2 := fun x y H Q => rI0 (fun i j => V.int (i + j)) x y H Q ∨ rCatX x y H Q
theorem op_addA {X : Cx} : OpR X (binaryOp .Add) rAddA := op_or op_add op_addS
theorem v_addAI {H : Hp} {Q : VK} {i j : Int} (q : Q (.int (i + j)) H) : rAddA (.int i) (.int j) H Q := .inl ⟨i, j, rfl, rfl, q⟩
theorem v_addAS {H : Hp} {Q : VK} {a b : List Nat} (hz : a.length + b.length ≤ sizeLine) (q : Q (.str (S (a ++ b))) H) : rAddA (.str (S a)) (.str (S b)) H Q := .inr (v_addS hz q)
end Sh

namespace Sh
open PySem PySem.Spec PyProof.Rows L2
/-! ### the last place of a word, up to an end; the first place of a number in a list -/
theorem rfind_S {a w : List Nat} {j : Int} (h0 : 0 ≤ j) (h1 : j ≤ a.length) :
    (Txt.rfindIn (S a) (S w) 0 j = -1 ∧ ∀ k : Nat, ¬ ((k : Int) + w.length ≤ j ∧ (a.drop k).take w.length = w)) ∨
    ∃ k : Nat, Txt.rfindIn (S a) (S w) 0 j = (k : Int) ∧ ((k : Int) + w.length ≤ j ∧ (a.drop k).take w.length = w) ∧ ∀ k' : Nat, k < k' → ¬ ((k' : Int) + w.length ≤ j ∧ (a.drop k').take w.length = w) := by
  obtain ⟨j, rfl⟩ := Int.eq_ofNat_of_zero_le h0
  have e0 : fromIndex (S a).length 0 = 0 := by
    unfold fromIndex
    rw [if_neg (by omega)]
    rfl
  have e1 : toIndexW (S a).length (j : Int) = j := by
    unfold toIndexW
    rw [if_neg (by omega), S_len]
    omega
  have at_ : ∀ k : Nat, StrLaws.At (S a) (S w) j k ↔ ((k : Int) + w.length ≤ (j : Int) ∧ (a.drop k).take w.length = w) := fun k => by
    unfold StrLaws.At
    rw [StrLaws.subAt_eq, S_list, S_list, S_len, beq_iff_eq]
    exact ⟨fun h => ⟨by omega, h.2⟩, fun h => ⟨by omega, h.2⟩⟩
  unfold Txt.rfindIn
  rw [e0, e1, StrLaws.last_eq]
  have key := StrLaws.last_run (S a) (S w) j (List.range' 0 (j + 1 - 0)) [] none (fun _ h => nomatch h) (fun _ h => nomatch h) (by simpa using List.pairwise_lt_range' (s := 0) (n := j + 1 - 0))
  have mem : ∀ i, StrLaws.At (S a) (S w) j i → i ∈ [] ++ List.range' 0 (j + 1 - 0) := fun i hi => by have := hi.1; simp [List.mem_range'] <;> omega
  cases hr : (forIn (List.range' 0 (j + 1 - 0)) none (StrLaws.lastBody (S a) (S w) j)).run with
  | none =>
    rw [hr] at key
    exact .inl ⟨rfl, fun k hk => key k (mem k ((at_ k).mpr hk)) ((at_ k).mpr hk)⟩
  | some b =>
    rw [hr] at key
    exact .inr ⟨b, rfl, (at_ b).mp key.1, fun k hk hA => key.2 k (mem k ((at_ k).mpr hA)) hk ((at_ k).mpr hA)⟩
def rRf4 : V → List V → Hp → VK → Prop := fun x xs H Q => ∃ (a b : Str) (i j : Int), x = .str a ∧ xs = [.str b, .int i, .int j] ∧ Q (.int (Txt.rfindIn a b i j)) H
theorem mt_rf4 {X : Cx} : MtR X "str.rfind" rRf4 := mt_rfind4
theorem v_rf4 {H : Hp} {Q : VK} {a w : List Nat} {j : Int} (h0 : 0 ≤ j) (h1 : j ≤ a.length) (q1 : (∀ k : Nat, ¬ ((k : Int) + w.length ≤ j ∧ (a.drop k).take w.length = w)) → Q (.int (-1)) H)
    (q2 : ∀ k : Nat, ((k : Int) + w.length ≤ j ∧ (a.drop k).take w.length = w) → (∀ k' : Nat, k < k' → ¬ ((k' : Int) + w.length ≤ j ∧ (a.drop k').take w.length = w)) → Q (.int (k : Nat)) H) : rRf4 (.str (S a)) [.str (S w), .int 0, .int j] H Q := by
  refine ⟨S a, S w, 0, j, rfl, rfl, ?_⟩
  rcases rfind_S (a := a) (w := w) h0 h1 with ⟨e, h⟩ | ⟨k, e, h, h'⟩
  · rw [e]; exact q1 h
  · rw [e]; exact q2 k h h'
theorem v_idxL {K : PySem.W.Frag} {H : Hp} {Q : VK} {a : Addr} {ns : List Int} {m : Int} (hs : SqL K H a (ns.map V.int)) (hm : m ∈ ns) (q : Q (.int (ns.idxOf m : Nat)) H) : rIndex K (.ref a) [.int m] H Q := by
  have hl := List.idxOf_lt_length_of_mem hm
  refine ⟨a, _, .int m, ns.idxOf m, .int m, rfl, rfl, hs, rfl, ?_, ?_, ?_, fun k z hk hz => ?_, q⟩
  · rw [List.all_map]; exact List.all_eq_true.mpr fun _ _ => rfl
  · rw [List.getElem?_map, List.getElem?_eq_getElem hl, List.getElem_idxOf hl]; rfl
  · show (m == m) = true
    exact beq_self_eq_true m
  · rw [List.getElem?_map, List.getElem?_eq_getElem (by omega)] at hz
    cases hz
    show (_ == m) = false
    have := List.not_of_lt_findIdx (p := (· == m)) (xs := ns) (i := k) hk
    simpa using this
end Sh

namespace Sh
open PySem PySem.Spec PyProof.Rows L2
/-! ### sum and min of the values of a dict (whole numbers) -/
theorem preS (ns : List Int) : ∀ n : Nat, preSum (fun i => ns.getD i 0) n = (ns.take n).sum
  | 0 => by simp [preSum]
  | n + 1 => by
    show preSum (fun i => ns.getD i 0) n + ns.getD n 0 = _
    rw [preS ns n, List.take_add_one, List.sum_append, List.getD_eq_getElem?_getD]
    cases ns[n]? with
    | none => simp
    | some v => simp
theorem sum_src {prog : Program} {w : World} {A : Around} {E : Value → Shared → Prop} {s : Shared} {T : String} {r d : Addr} {n : Nat} {P : Nat → Value → Prop} {OK : Heap → Prop} {Q : Value → Shared → Prop}
    (K : PySem.W.KdlSrc prog w T r d n P OK) (hh : A.handled = none) (hok : OK s.heap) (val : Nat → Int) (hval : ∀ (i : Nat) (v : Value), P i v → ∃ t : Tok, v = Value.int (val i) t)
    (h : ∀ (h' : Heap) (tk : Nat) (t' : Tok), (∀ b o, s.heap.get? b = some o → h'.get? b = some o) → Q (.int (preSum val n) t') { s with heap := h', toks := tk }) :
    wpAny (model prog w) A (call (.builtin "sum") [.ref r]) Q E s := by
  refine call_sum_walkAnyS ?_
  obtain ⟨oI, St, hit, W, st⟩ := K.iter A.in1 s hh hok
  refine hit _ _ ⟨s.heap.objs.size, _, _, _, n, P, _, val, rfl, W.toS, st, fun b hb => ?_, hval, fun s' t' hm => ?_⟩
  · show b < (s.heap.push oI).objs.size
    rw [size_push']
    rcases List.mem_cons.mp hb with e | hb
    · rw [e]; exact Nat.lt_succ_self _
    · rw [List.mem_singleton.mp hb]; exact Nat.lt_succ_of_lt (K.there _ hok).2
  · have hk : ∀ b o, s.heap.get? b = some o → s'.heap.get? b = some o := fun b o e =>
      hm.heap b o (fun hI => absurd (Heap.lt_size e) (by rw [List.mem_singleton.mp hI]; exact Nat.lt_irrefl _)) (Heap.get?_push_of_some _ e)
    rw [Moved.eq_with hm]
    exact h s'.heap s'.toks t' hk
theorem min_src {prog : Program} {w : World} {A : Around} {E : Value → Shared → Prop} {s : Shared} {T : String} {r d : Addr} {n : Nat} {P : Nat → Value → Prop} {OK : Heap → Prop} {Q : Value → Shared → Prop}
    (K : PySem.W.KdlSrc prog w T r d n P OK) (hh : A.handled = none) (hok : OK s.heap) (hn : 0 < n) (val : Nat → Int) (hval : ∀ (i : Nat) (v : Value), P i v → ∃ t : Tok, v = Value.int (val i) t)
    (h : ∀ (v : Value) (h' : Heap) (tk : Nat), P (argBest (fun i j => decide (val i < val j)) (n - 1)) v → (∀ b o, s.heap.get? b = some o → h'.get? b = some o) → Q v { s with heap := h', toks := tk }) :
    wpAny (model prog w) A (call (.builtin "min") [.ref r]) Q E s := by
  refine call_min_walk ?_
  obtain ⟨oI, St, hit, W, st⟩ := K.iter A.in1 s hh hok
  refine hit _ _ ⟨s.heap.objs.size, _, _, n, P, _, _, rfl, W, st, fun b hb => ?_, hn, CmpOf.ints_lt val hval, fun v h' tk hP hk => ?_⟩
  · show b < (s.heap.push oI).objs.size
    rw [size_push']
    rcases List.mem_cons.mp hb with e | hb
    · rw [e]; exact Nat.lt_succ_self _
    · rw [List.mem_singleton.mp hb]; exact Nat.lt_succ_of_lt (K.there _ hok).2
  · exact h v h' tk hP fun b o e => hk b o (fun hI => absurd (Heap.lt_size e) (by rw [List.mem_singleton.mp hI]; exact Nat.lt_irrefl _)) (Heap.get?_push_of_some _ e)
/-- the value of an entry -/
theorem kv_int {kvs : List (Key × V)} {vs : List (Key × Value)} {ns : List Int} (kv : KV kvs vs) (hn : kvs.map (·.2) = ns.map V.int) {i : Nat} {v : Value} (h : ∃ k, vs[i]? = some (k, v)) : ∃ t : Tok, v = Value.int (ns.getD i 0) t := by
  unfold KV at kv
  induction kv generalizing ns i with
  | nil => obtain ⟨k, h⟩ := h; simp at h
  | @cons p q ps qs hpq _ ih =>
    cases ns with
    | nil => simp at hn
    | cons n ns =>
      rw [List.map_cons, List.map_cons] at hn
      obtain ⟨h1, h2⟩ := List.cons.inj hn
      obtain ⟨k, h⟩ := h
      cases i with
      | zero =>
        cases h
        obtain ⟨_, hr⟩ := hpq
        rw [h1] at hr
        exact hr
      | succ i => exact ih h2 ⟨k, h⟩
def tSumV (td : TE) : TE := fun σ H Q => td σ H fun x H1 => ∃ (d : Addr) (kvs : List (Key × V)) (ns : List Int), x = .ref d ∧ H1 d = some (.dK kvs) ∧ kvs.map (·.2) = ns.map V.int ∧ Q (.int ns.sum) H1
def tMinV (td : TE) : TE := fun σ H Q => td σ H fun x H1 => ∃ (d : Addr) (kvs : List (Key × V)) (ns : List Int), x = .ref d ∧ H1 d = some (.dK kvs) ∧ kvs.map (·.2) = ns.map V.int ∧ 0 < ns.length ∧ ∀ m, m ∈ ns → (∀ y, y ∈ ns → m ≤ y) → Q (.int m) H1
theorem pe_sumV {X : Cx} {e : Expr} {td : TE} {x : Str} {p pos apos cpos : Pos} (hc : X.calm = true) (hg : Gl X x) (hm : X.mg x = none) (hv : bootBuiltins x = some (.builtin "sum")) (he : PE X e td) (hn : x ≠ "__name__" := by decide) (hdb : (x == ("__debug__" : Str)) = false := by decide)
    (hbase : attributeBase e "values" X.env (eval e X.env) = eval e X.env := by rfl) (hline : (apos.endLine == cpos.line) = true := by rfl)
    (hes : starEach [.Call (.Attribute e "values" apos) [] [] cpos] X.env = (false, eval (.Call (.Attribute e "values" apos) [] [] cpos) X.env) :: starEach [] X.env := by rfl) (hpl : (backTo pos (starEach [] X.env)).any (·.1) = false := by rfl) :
    PE X (.Call (.Name x p) [.Call (.Attribute e "values" apos) [] [] cpos] [] pos) (tSumV td) := by
  refine ⟨fun pins s σ H Q I h => ?_⟩
  refine wpAny_Call_Name_kw (ld_blt I hg hm hv ?_ hn hdb)
  refine PyProof.Rows.callWith_builtin1 ?_ hes hpl
  rw [hes]
  show wpAny _ _ (spliced ((false, eval (.Call (.Attribute e "values" apos) [] [] cpos) X.env) :: backTo pos (starEach [] X.env))) _ _ s
  refine Calls.spliced_cons ?_
  refine wpAny_Call_method (T := "dict") (id := "dict.values") hbase rfl hline F.plainAttrs_dict F.slot_dict_values F.type_dict_values (thn (he.run pins s σ H _ I h) fun u s1 ⟨x, H1, I1, rx, d, kvs, ns, ex, hd, hns, q⟩ => ?_)
  subst ex
  obtain rfl : u = Value.ref d := rx
  obtain ⟨z, lo, vs, rel, dd⟩ := dk_rd I1.hok (.inl hd)
  obtain ⟨ep, hat⟩ := dd.dictAt
  refine ⟨hat.dictOf.typeIs, hat.dictOf.mapOf.noDict, ?_⟩
  have I2 : Inv X pins σ H1 { s1 with heap := s1.heap.push { cls := .type "dict_values", data := .fields #[.ref d] } } := I1.kept (t' := s1.toks) fun b ob q => Heap.get?_push_of_some _ q
  have hl : kvs.length = vs.length := Paired.length rel
  have hnl : ns.length = vs.length := by have := congrArg List.length hns; rw [List.length_map, List.length_map] at this; omega
  show wpAny _ _ (callWith cpos (.builtin "dict.values") [.ref d] [] []) _ X.xe s1
  refine method_meetsIn F.slot_dict_values F.entry_dict_values rfl (PySem.evalArgs_none ⟨rfl, hat.dictOf.typeIs, F.args_dict_values_1 _, _, meets_dict_values (mixKind X.prog X.w) d lo, ⟨vs, hat.dictOf⟩, ?_⟩)
  refine Calls.spliced_nil ?_
  refine sum_src (s := { s1 with heap := s1.heap.push { cls := .type "dict_values", data := .fields #[.ref d] } }) (PySem.W.kdl_values (knd := mixKind X.prog X.w) (kvs := vs) (ep := ep) (r := s1.heap.objs.size) (d := d)) (I.ok.hd hc) ⟨⟨_, Heap.get?_push_size _ rfl, rfl, rfl⟩, hat.push _⟩ (fun i => ns.getD i 0) (fun i v hi => kv_int rel hns hi) fun h' tk t' hk => ?_
  rw [preS, List.take_of_length_le (by omega)]
  exact ⟨.int _, H1, I2.kept hk, ⟨_, rfl⟩, q⟩
theorem argBest_le (ns : List Int) : ∀ n : Nat, n < ns.length → argBest (fun i j => decide (ns.getD i 0 < ns.getD j 0)) n ≤ n ∧ ∀ j, j ≤ n → ns.getD (argBest (fun i j => decide (ns.getD i 0 < ns.getD j 0)) n) 0 ≤ ns.getD j 0 := by
  intro n hn
  obtain ⟨h1, h2⟩ := argBest_lt (fun i => ns.getD i 0) n
  exact ⟨h1, h2⟩
theorem pe_minV {X : Cx} {e : Expr} {td : TE} {x : Str} {p pos apos cpos : Pos} (hc : X.calm = true) (hg : Gl X x) (hm : X.mg x = none) (hv : bootBuiltins x = some (.builtin "min")) (he : PE X e td) (hn : x ≠ "__name__" := by decide) (hdb : (x == ("__debug__" : Str)) = false := by decide)
    (hbase : attributeBase e "values" X.env (eval e X.env) = eval e X.env := by rfl) (hline : (apos.endLine == cpos.line) = true := by rfl)
    (hes : starEach [.Call (.Attribute e "values" apos) [] [] cpos] X.env = (false, eval (.Call (.Attribute e "values" apos) [] [] cpos) X.env) :: starEach [] X.env := by rfl) (hpl : (backTo pos (starEach [] X.env)).any (·.1) = false := by rfl) :
    PE X (.Call (.Name x p) [.Call (.Attribute e "values" apos) [] [] cpos] [] pos) (tMinV td) := by
  refine ⟨fun pins s σ H Q I h => ?_⟩
  refine wpAny_Call_Name_kw (ld_blt I hg hm hv ?_ hn hdb)
  refine PyProof.Rows.callWith_builtin1 ?_ hes hpl
  rw [hes]
  show wpAny _ _ (spliced ((false, eval (.Call (.Attribute e "values" apos) [] [] cpos) X.env) :: backTo pos (starEach [] X.env))) _ _ s
  refine Calls.spliced_cons ?_
  refine wpAny_Call_method (T := "dict") (id := "dict.values") hbase rfl hline F.plainAttrs_dict F.slot_dict_values F.type_dict_values (thn (he.run pins s σ H _ I h) fun u s1 ⟨x, H1, I1, rx, d, kvs, ns, ex, hd, hns, hpos, q⟩ => ?_)
  subst ex
  obtain rfl : u = Value.ref d := rx
  obtain ⟨z, lo, vs, rel, dd⟩ := dk_rd I1.hok (.inl hd)
  obtain ⟨ep, hat⟩ := dd.dictAt
  refine ⟨hat.dictOf.typeIs, hat.dictOf.mapOf.noDict, ?_⟩
  have I2 : Inv X pins σ H1 { s1 with heap := s1.heap.push { cls := .type "dict_values", data := .fields #[.ref d] } } := I1.kept (t' := s1.toks) fun b ob q => Heap.get?_push_of_some _ q
  have hl : kvs.length = vs.length := Paired.length rel
  have hnl : ns.length = vs.length := by have := congrArg List.length hns; rw [List.length_map, List.length_map] at this; omega
  show wpAny _ _ (callWith cpos (.builtin "dict.values") [.ref d] [] []) _ X.xe s1
  refine method_meetsIn F.slot_dict_values F.entry_dict_values rfl (PySem.evalArgs_none ⟨rfl, hat.dictOf.typeIs, F.args_dict_values_1 _, _, meets_dict_values (mixKind X.prog X.w) d lo, ⟨vs, hat.dictOf⟩, ?_⟩)
  refine Calls.spliced_nil ?_
  refine min_src (s := { s1 with heap := s1.heap.push { cls := .type "dict_values", data := .fields #[.ref d] } }) (PySem.W.kdl_values (knd := mixKind X.prog X.w) (kvs := vs) (ep := ep) (r := s1.heap.objs.size) (d := d)) (I.ok.hd hc) ⟨⟨_, Heap.get?_push_size _ rfl, rfl, rfl⟩, hat.push _⟩ (by omega) (fun i => ns.getD i 0) (fun i v hi => kv_int rel hns hi) fun v h' tk hP hk => ?_
  obtain ⟨t, rfl⟩ := kv_int rel hns hP
  obtain ⟨b1, b2⟩ := argBest_le ns (vs.length - 1) (by omega)
  have g : ∀ i, i < ns.length → ns.getD i 0 ∈ ns := fun i hi => by rw [List.getD_eq_getElem?_getD, List.getElem?_eq_getElem hi]; exact List.getElem_mem _
  refine ⟨.int _, H1, I2.kept hk, ⟨_, rfl⟩, q _ (g _ (by omega)) fun y hy => ?_⟩
  obtain ⟨j, hj, rfl⟩ := List.mem_iff_getElem.mp hy
  have := b2 j (by omega)
  have e : ns.getD j 0 = ns[j] := by rw [List.getD_eq_getElem?_getD, List.getElem?_eq_getElem hj]; rfl
  rw [e] at this
  exact this
theorem v_sumV {td : TE} {σ : L2.St} {H : Hp} {Q : VK} (q : td σ H fun x H1 => ∃ (d : Addr) (kvs : List (Key × V)) (ns : List Int), x = .ref d ∧ H1 d = some (.dK kvs) ∧ kvs.map (·.2) = ns.map V.int ∧ Q (.int ns.sum) H1) : tSumV td σ H Q := q
theorem v_minV {td : TE} {σ : L2.St} {H : Hp} {Q : VK} (q : td σ H fun x H1 => ∃ (d : Addr) (kvs : List (Key × V)) (ns : List Int), x = .ref d ∧ H1 d = some (.dK kvs) ∧ kvs.map (·.2) = ns.map V.int ∧ 0 < ns.length ∧ ∀ m, m ∈ ns → (∀ y, y ∈ ns → m ≤ y) → Q (.int m) H1) : tMinV td σ H Q := q
end Sh

namespace Sh
open PySem PySem.Spec PyProof.Rows L2
/-! ### comprehensions over anything that walks and leaves the heap as it was -/
section
variable {σ : L2.St} {H : Hp} {Q : VK} {tt : TT} {te tk tv : TE} {J : It} {α : Type} {Gd : Hp → Prop}
theorem lc_walk (G : α → V) {xs : List α} {j : Nat} (w : Walk J xs.length Gd (YAt (xs.map G))) (hG : ∀ H', Same H H' → Gd H') (p : α → Bool) (f : α → V) (hn : xs.length ≤ sizeLine)
    (ht : ∀ x H', x ∈ xs → Same H H' → ∀ Qb : Bool → Hp → Prop, Qb (p x) H' → tt ((σ.set j none).set j (some (G x))) H' Qb)
    (he : ∀ x H', x ∈ xs → p x = true → Same H H' → ∀ Qv : VK, Qv (f x) H' → te ((σ.set j none).set j (some (G x))) H' Qv)
    (hd : ∀ L, H L = none → Q (.ref L) (upd H L (.lst ((xs.filter p).map f)))) : kLc (gName j) tt te [j] σ Q J H := by
  intro L hL
  refine lc_it w (fun i H' => H' = upd H L (.lst (((xs.take i).filter p).map f))) rfl (fun i H' _ e => by subst e; exact hG _ (same_upd hL)) ?_ (fun H' e => by
    subst e
    rw [List.take_length]
    exact hd L hL)
  rintro i y H' H2 hi rfl ⟨rfl, hy⟩
  obtain ⟨x, hx2, rfl⟩ : ∃ x, xs[i]? = some x ∧ y = G x := by
    rw [List.getElem?_map] at hy
    cases e : xs[i]? with
    | none => rw [e] at hy; cases hy
    | some u => rw [e] at hy; exact ⟨u, rfl, (Option.some.inj hy).symm⟩
  have sm : Same H (upd H L (.lst (((xs.take i).filter p).map f))) := same_upd hL
  have hm : x ∈ xs := List.mem_of_getElem? hx2
  have et : xs.take (i + 1) = xs.take i ++ [x] := by rw [List.take_add_one, hx2]; rfl
  refine ⟨wipe_set, ht x _ hm sm _ ?_⟩
  by_cases hp : p x = true
  · rw [hp, if_pos rfl]
    refine he x _ hm hp sm _ ⟨_, upd_same, ?_, ?_⟩
    · rw [List.length_map]
      have := List.length_filter_le p (xs.take i)
      rw [List.length_take] at this
      omega
    · rw [upd_upd, et, List.filter_append, List.map_append, List.filter_cons_of_pos hp]; rfl
  · rw [if_neg hp, et, List.filter_append, List.filter_cons_of_neg hp, List.filter_nil, List.append_nil]
theorem walk_S {l : List Nat} : Walk (Its (S l)) l.length (fun _ => True) (YAt (l.map fun c => V.str (S [c]))) := by
  have ss : (S l).cps.size = l.length := by simp [S]
  have sg : ∀ i : Nat, (S l).cps[i]? = l[i]? := fun i => by simp [S]
  have w := walk_str (z := S l)
  rw [ss] at w
  refine w.mono (fun _ h => h) fun i H v H' hi _ ⟨h1, c, h2, h3⟩ => ⟨h1, ?_⟩
  rw [sg] at h2
  rw [List.getElem?_map, h2, h3]
  rfl
theorem walk_K {d : Addr} {o : Obj} {kvs : List (Key × V)} : Walk (Itk d o kvs) kvs.length (fun H => H d = some (.frz o (.dK kvs))) (YAt (kvs.map fun z => kV z.1)) :=
  walk_keys.mono (fun _ h => h) fun i H v H' hi _ ⟨h1, k, u, h2, h3⟩ => ⟨h1, by rw [List.getElem?_map, h2, h3]; rfl⟩
/-- a dict whose keys are letters -/
theorem walk_KL {d : Addr} {o : Obj} {al : List Nat} {u : Nat → V} : Walk (Itk d o (al.map fun c => ((Sum.inr (S [c]) : Key), u c))) al.length (fun H => H d = some (.frz o (.dK (al.map fun c => ((Sum.inr (S [c]) : Key), u c))))) (YAt (al.map fun c => V.str (S [c]))) := by
  have w := walk_K (d := d) (o := o) (kvs := al.map fun c => ((Sum.inr (S [c]) : Key), u c))
  rw [List.length_map, List.map_map] at w
  exact w
/-- a dict comprehension -/
theorem dc_it {n : Nat} {Y : Nat → Hp → V → Hp → Prop} (w : Walk J n Gd Y) {g : TG} {vs : List Nat} {H1 : Hp} {D : Addr} {Qd : Hp → Prop} (Pv : Nat → Hp → Prop) (h0 : Pv 0 (upd H1 D (.dK []))) (hG : ∀ i H, i ≤ n → Pv i H → Gd H)
    (hs : ∀ i x H H', i < n → Pv i H → Y i H x H' → g x (wipe σ vs) H' fun σ2 H2 => wipe σ2 vs = wipe σ vs ∧ tt σ2 H2 fun b H3 =>
      if b = true then tk σ2 H3 fun y H4 => tv σ2 H4 fun z H5 => ∃ kvs k, y = kV k ∧ H5 D = some (.dK kvs) ∧ kvs.length < sizeLine ∧ Pv (i + 1) (upd H5 D (.dK (putK kvs k z))) else Pv (i + 1) H3) (hd : ∀ H, Pv n H → Qd H) :
    ∃ W : Nat → Nat → Hp → Prop, (∃ m, W 0 m (upd H1 D (.dK []))) ∧ ∀ i m H, W i m H →
      (J.stop i H ∧ Qd H) ∨ (J.go i H ∧ ∃ Nx : Hp → Prop, (∀ H', Nx H' → ∃ m', m' < m ∧ W (i + 1) m' H') ∧ ∀ x H', J.yld i H x H' → g x (wipe σ vs) H' fun σ2 H2 => wipe σ2 vs = wipe σ vs ∧ tt σ2 H2 fun b H3 =>
        if b = true then tk σ2 H3 fun y H4 => tv σ2 H4 fun z H5 => ∃ kvs k, y = kV k ∧ H5 D = some (.dK kvs) ∧ kvs.length < sizeLine ∧ Nx (upd H5 D (.dK (putK kvs k z))) else Nx H3) := by
  refine ⟨fun i m H => m = n - i ∧ i ≤ n ∧ Pv i H, ⟨n, by simp, Nat.zero_le _, h0⟩, ?_⟩
  rintro i m H ⟨rfl, hi, p⟩
  have q := hG i H hi p
  by_cases hlt : i < n
  · refine .inr ⟨w.goes i H hlt q, Pv (i + 1), fun H' p' => ⟨n - (i + 1), by omega, rfl, hlt, p'⟩, fun x H' y => hs i x H H' hlt p (w.yields i H x H' hlt q y)⟩
  · have e : i = n := by omega
    subst e
    exact .inl ⟨w.stops H q, hd H p⟩
theorem dc_walk (G : α → V) (f : α → Key) (inj : ∀ x y, f x = f y → x = y) {xs : List α} {j : Nat} (w : Walk J xs.length Gd (YAt (xs.map G))) (hG : ∀ H', Same H H' → Gd H') (u : α → V) (hn : xs.length ≤ sizeLine) (hnd : xs.Nodup)
    (ht : ∀ x H', x ∈ xs → Same H H' → ∀ Qb : Bool → Hp → Prop, Qb true H' → tt ((σ.set j none).set j (some (G x))) H' Qb)
    (hk : ∀ x H', x ∈ xs → Same H H' → ∀ Qv : VK, Qv (kV (f x)) H' → tk ((σ.set j none).set j (some (G x))) H' Qv)
    (hv : ∀ x H', x ∈ xs → Same H H' → ∀ Qv : VK, Qv (u x) H' → tv ((σ.set j none).set j (some (G x))) H' Qv)
    (hd : ∀ D, H D = none → Q (.ref D) (upd H D (.dK (xs.map fun x => (f x, u x))))) : kDc (gName j) tt tk tv [j] σ Q J H := by
  intro D hD
  refine dc_it w (fun i H' => H' = upd H D (.dK ((xs.take i).map fun x => (f x, u x)))) rfl (fun i H' _ e => by subst e; exact hG _ (same_upd hD)) ?_ (fun H' e => by
    subst e
    rw [List.take_length]
    exact hd D hD)
  rintro i y H' H2 hi rfl ⟨rfl, hy⟩
  obtain ⟨x, hx2, rfl⟩ : ∃ x, xs[i]? = some x ∧ y = G x := by
    rw [List.getElem?_map] at hy
    cases e : xs[i]? with
    | none => rw [e] at hy; cases hy
    | some u => rw [e] at hy; exact ⟨u, rfl, (Option.some.inj hy).symm⟩
  have sm : Same H (upd H D (.dK ((xs.take i).map fun x => (f x, u x)))) := same_upd hD
  have hm : x ∈ xs := List.mem_of_getElem? hx2
  have et : xs.take (i + 1) = xs.take i ++ [x] := by rw [List.take_add_one, hx2]; rfl
  refine ⟨wipe_set, ht x _ hm sm _ ?_⟩
  rw [if_pos rfl]
  refine hk x _ hm sm _ (hv x _ hm sm _ ⟨_, f x, rfl, upd_same, ?_, ?_⟩)
  · rw [List.length_map, List.length_take]; omega
  · rw [upd_upd, et]
    congr 2
    have hnx : x ∉ xs.take i := fun h => by
      obtain ⟨k, hk, e⟩ := List.mem_iff_getElem.mp h
      rw [List.getElem_take] at e
      rw [List.length_take] at hk
      obtain ⟨b1, b2⟩ := List.getElem?_eq_some_iff.mp hx2
      exact List.pairwise_iff_getElem.mp hnd k i (by omega) b1 (by omega) (e.trans b2.symm)
    unfold putK
    rw [if_neg, List.map_append]
    · rfl
    · intro h
      obtain ⟨z, hz, e⟩ := List.any_eq_true.mp h
      obtain ⟨x2, hy2, rfl⟩ := List.mem_map.mp hz
      have e3 := inj _ _ (of_decide_eq_true e)
      rw [e3] at hy2
      exact hnx hy2
end
theorem v_lockK {t : TE} {σ : L2.St} {H : Hp} {Q : VK} {d : Addr} {kvs : List (Key × V)} (h : H d = some (.dK kvs)) (q : ∀ od, t σ (upd H d (.frz od (.dK kvs))) fun v H' => H' d = some (.frz od (.dK kvs)) ∧ Q v (upd H' d (.dK kvs))) : tLockE t σ H Q :=
  ⟨d, _, h, trivial, q⟩
theorem getF {H : Hp} {a : Addr} {o : Obj} {kvs : List (Key × V)} {k : Key} (e : H a = some (.frz o (.dK kvs))) : DGet H a (kV k) (valV kvs k) := .inl ⟨kvs, k, .inr ⟨o, e⟩, rfl, rfl⟩
theorem mt_joinXK {X : Cx} {K : PySem.W.Frag} (h : X.K = K) : MtR X "str.join" (rJoinX K) := by subst h; exact mt_joinX
theorem blkOk_in {N N' : List Str} {sc scope : Scope} {own : List (Str × Nat)} (h : blkC N sc scope own = true) (e : N' = N) : BlkOk N' sc scope own := by subst e; exact blkOk_by h
end Sh

namespace Sh
open PySem PySem.Spec PyProof.Rows L2
/-! ### walks within a comprehension, the fragment named -/
theorem pi_listK {X : Cx} {K : PySem.W.Frag} {tg l : Expr} {tl : TE} (h : X.K = K) (hl : PE X l tl) : PI X tg l (iList K tl) := h ▸ pi_list hl
theorem pi_tupK {X : Cx} {K : PySem.W.Frag} {tg l : Expr} {tl : TE} (h : X.K = K) (hl : PE X l tl) : PI X tg l (iTup K tl) := h ▸ pi_tup hl
/-! ### a block cut into two groups of statements -/
theorem wp_execs_app {M : Model} {Γ : PySem.Ctx} {env : Env} {E : Value → Pos → Shared → Prop} {Q : Flow → Pos → Shared → Prop} (ys : List Stmt) : ∀ (xs : List Stmt) (p : Pos) (s : Shared),
    Sem.wp M Γ (execs xs env) (fun f p' s' => match f with | .next => Sem.wp M Γ (execs ys env) Q E p' s' | f => Q f p' s') E p s → Sem.wp M Γ (execs (xs ++ ys) env) Q E p s
  | [], p, s, h => h
  | x :: xs, p, s, h => by
    rw [execs_cons, Sem.wp_bind'] at h
    rw [List.cons_append, execs_cons, Sem.wp_bind']
    refine Sem.wp_mono M Γ _ (fun f p' s' h' => ?_) (fun _ _ _ h' => h') _ _ h
    cases f with
    | next => exact wp_execs_app ys xs p' s' h'
    | ret v => exact h'
    | brk => exact h'
    | cont => exact h'
theorem wpAny_execs_app {M : Model} {A : Around} {E : Value → Shared → Prop} {s : Shared} {env : Env} {xs ys : List Stmt} {Q : Flow → Shared → Prop}
    (h : wpAny M A (execs xs env) (fun f s' => match f with | .next => wpAny M A (execs ys env) Q E s' | f => Q f s') E s) : wpAny M A (execs (xs ++ ys) env) Q E s := fun Γ p hΓ => by
  refine wp_execs_app ys xs p s ?_
  refine Sem.wp_mono M Γ _ (fun f p' s' h' => ?_) (fun _ _ _ h' => h') _ _ (h Γ p hΓ)
  cases f <;> first | exact h' Γ p' hΓ | exact h'
/-- a group of statements, then the rest: what is between is shown once -/
theorem pss_grp {X : Cx} {zs : List Stmt} {t u : TS} (n : Nat) (h1 : PSs X (zs.take n) t) (h2 : PSs X (zs.drop n) u) : PSs X zs (C8.tCut t u) := by
  rw [← List.take_append_drop n zs]
  refine ⟨fun pins s σ H D I h => ?_⟩
  obtain ⟨Mid, hm, hu⟩ := h
  refine wpAny_execs_app (thn (h1.run pins s σ H { D with nx := Mid } I hm) fun f s1 q => ?_)
  cases f with
  | next =>
    obtain ⟨σ', H', I', q⟩ := q
    exact h2.run pins s1 σ' H' D I' (hu σ' H' q)
  | ret v => exact q
  | brk => exact q
  | cont => exact q
/-- a comprehension over anything that walks, the parts may lay new objects -/
theorem lc_walkS {σ : L2.St} {H : Hp} {Q : VK} {tt : TT} {te : TE} {J : It} {α : Type} {Gd : Hp → Prop} (G : α → V) {xs : List α} {j : Nat} (w : Walk J xs.length Gd (YAt (xs.map G))) (hG : ∀ H', Same H H' → Gd H') (p : α → Bool) (f : α → V) (hn : xs.length ≤ sizeLine)
    (ht : ∀ x H', x ∈ xs → Same H H' → ∀ Qb : Bool → Hp → Prop, (∀ H2, Same H' H2 → Qb (p x) H2) → tt ((σ.set j none).set j (some (G x))) H' Qb)
    (he : ∀ x H', x ∈ xs → p x = true → Same H H' → ∀ Qv : VK, (∀ H2, Same H' H2 → Qv (f x) H2) → te ((σ.set j none).set j (some (G x))) H' Qv)
    (hd : ∀ L H2, H L = none → Same H H2 → H2 L = some (.lst ((xs.filter p).map f)) → Q (.ref L) H2) : kLc (gName j) tt te [j] σ Q J H := by
  intro L hL
  refine lc_it w (fun i H' => Same H H' ∧ H' L = some (.lst (((xs.take i).filter p).map f))) ⟨same_upd hL, upd_same⟩ (fun i H' _ e => hG _ e.1) ?_ (fun H' e => by
    have e2 := e.2
    rw [List.take_length] at e2
    exact hd L H' hL e.1 e2)
  rintro i y H' H2 hi ⟨sm, hLe⟩ ⟨rfl, hy⟩
  obtain ⟨x, hx2, rfl⟩ : ∃ x, xs[i]? = some x ∧ y = G x := by
    rw [List.getElem?_map] at hy
    cases e : xs[i]? with
    | none => rw [e] at hy; cases hy
    | some u => rw [e] at hy; exact ⟨u, rfl, (Option.some.inj hy).symm⟩
  have hm : x ∈ xs := List.mem_of_getElem? hx2
  have et : xs.take (i + 1) = xs.take i ++ [x] := by rw [List.take_add_one, hx2]; rfl
  refine ⟨wipe_set, ht x _ hm sm _ fun H3 s3 => ?_⟩
  by_cases hp : p x = true
  · rw [hp, if_pos rfl]
    refine he x _ hm hp (sm.trans s3) _ fun H4 s4 => ⟨_, s4 _ _ (s3 _ _ hLe), ?_, same_mut (sm.trans (s3.trans s4)) hL, ?_⟩
    · rw [List.length_map]
      have := List.length_filter_le p (xs.take i)
      rw [List.length_take] at this
      omega
    · rw [upd_same, et, List.filter_append, List.map_append, List.filter_cons_of_pos hp]; rfl
  · rw [if_neg hp]
    refine ⟨sm.trans s3, ?_⟩
    rw [et, List.filter_append, List.filter_cons_of_neg hp, List.filter_nil, List.append_nil]
    exact s3 _ _ hLe
end Sh

namespace Sh
open PySem PySem.Spec PyProof.Rows L2
/-! ### set(a text) -/
section
variable {P : Program} {w : World} {A : Around} {E : Value → Shared → Prop} {s : Shared}
theorem set_of_str {y : Str} {t : Tok} {Q : Value → Shared → Prop} (hh : A.handled = none) (hb : y.cps.size + 1 < scanBound)
    (q : ∀ h' tk, Fed P w h' s.heap.objs.size (y.cps.toList.map fun c => (⟨#[c]⟩ : Str)) (y.cps.toList.map fun c => (⟨#[c]⟩ : Str)).length → (∀ b o, s.heap.get? b = some o → h'.get? b = some o) → Q (.ref s.heap.objs.size) { s with heap := h', toks := tk }) :
    wpAny (model P w) A (call (.type "set") [.str y t]) Q E s := by
  generalize hxs : (y.cps.toList.map fun c => (⟨#[c]⟩ : Str)) = xs at q
  have hsz : y.cps.size = xs.length := by rw [← hxs, List.length_map, Array.length_toList]
  obtain ⟨c, tl, mro⟩ := F.called_set.mro
  have made := F.called_set.made
  have sub := F.called_set.sub
  refine wpAny_call (codeAny_of_tree (show wpAny _ _ (callAny (.type "set") _) _ _ _ from wpAny_pure ⟨Code.quiet_builtin _ (by decide +kernel), codeAny_builtin F.entry_type_call ?_⟩))
  rw [Around.under_plain (weight_type_call_type "set" [.str y t] []) rfl]
  have t1 := F.called_set.notType
  have t2 := F.called_set.canCreate
  have t3 := F.typeCall_set_1 (.str y t)
  repeat (any_goals (first | assumption | wp_step))
  refine codeAny_mono (set_newcode (.str y t) (E := E) (Q₁ := fun v s1 => v = .ref s.heap.objs.size ∧ s1 = { s with heap := s.heap.push (bareSet w) }) ⟨rfl, rfl⟩) fun r s1 hr => ?_
  cases r with
  | error e => exact hr
  | ok fl =>
    cases fl with
    | ret v =>
      obtain ⟨rfl, rfl⟩ := hr
      generalize hp : s.heap.push (bareSet w) = p
      have new : p.get? s.heap.objs.size = some (bareSet w) := by rw [← hp]; exact Heap.get?_push_size _ rfl
      have psz : p.objs.size = s.heap.objs.size + 1 := by rw [← hp, Heap.size_push]
      have grow : ∀ b o, s.heap.get? b = some o → p.get? b = some o := fun b o e => by rw [← hp]; exact Heap.get?_push_of_some _ e
      have isSet : Shared.TypeIs { s with heap := p } (.ref s.heap.objs.size) "set" := ⟨_, new, rfl⟩
      have i1 := F.called_set.init.lookup
      have i2 := F.called_set.init.bind (.ref s.heap.objs.size)
      repeat (any_goals (first | assumption | wp_step))
      refine codeAny_mono (codeAny_call_builtin (R := wants (fun r s2 => r = .none ∧ ∃ h' tk, s2 = { s with heap := h', toks := tk } ∧ Fed P w h' s.heap.objs.size xs xs.length ∧ ∀ b o, s.heap.get? b = some o → h'.get? b = some o) E)
        F.called_set.init.plain F.entry_set_init (check_set_init_1 isSet ?_)) fun r2 s2 hr2 => ?_
      · have k1 := F.sub_str_set
        have k2 := F.sub_str_frozenset
        have k3 : (Value.type "str" == Value.type "dict") = false := by decide
        unfold Builtin.«set.__init__» noKeywords Builtin.Frozenset.updateFrom
        generalize hnx : pyIter = NX
        wp_walk
        subst hnx
        refine wpAny_pyIter_str ?_
        intro o St mk st0
        refine wpAny_bind (wpAny_runValue ?_)
        have ne2 : s.heap.objs.size ∉ [p.objs.size] := by
          intro z
          rw [psz] at z
          exact Nat.ne_of_lt (Nat.lt_succ_self _) (List.mem_singleton.mp z)
        have val : ∀ (i : Nat) (v : Value), SignAt y i v → ∃ x t, xs[i]? = some x ∧ v = .str x t := fun i v ⟨c, u, hc, e⟩ => by
          refine ⟨⟨#[c]⟩, u, ?_, e⟩
          rw [← hxs, List.getElem?_map, Array.getElem?_toList, hc]
          rfl
        have W := (mk A.in1.in1.in1 (by simp [hh])).toS
        rw [hsz] at W
        refine feed W ne2 (by rw [← hsz]; exact hb) val xs.length 0 _ (Nat.zero_add _) st0 ⟨[], setX_fresh (Heap.get?_push_of_some _ new), Nat.zero_le _, fun x => by simp⟩ fun s' mv F' => ?_
        obtain ⟨h', g', d', tk', os'⟩ := s'
        obtain rfl : g' = s.gens := mv.gens
        obtain rfl : d' = s.drawn := mv.drawn
        obtain rfl : os' = s.os := mv.os
        refine wpAny_pure (show wpAny _ _ (ret Value.none) _ _ _ from wpAny_pure ⟨rfl, h', tk', rfl, F', fun b o e => ?_⟩)
        have hb0 : b < s.heap.objs.size := Heap.lt_size e
        refine mv.heap b o (fun z => ?_) (Heap.get?_push_of_some _ (grow b o e))
        rcases List.mem_cons.mp z with z | z
        · exact Nat.ne_of_lt hb0 z
        · rw [psz] at z
          exact Nat.ne_of_lt (Nat.lt_succ_of_lt hb0) (List.mem_singleton.mp z)
      · cases r2 with
        | error e => exact hr2
        | ok fl2 =>
          cases fl2 with
          | ret r =>
            obtain ⟨rfl, h', tk, rfl, F', kk⟩ := hr2
            repeat (any_goals (first | assumption | wp_step))
            exact q _ _ F' kk
          | _ => exact hr2.elim
    | _ => exact hr.elim
end
def rSetOfS (P : Program) (w : World) : List V → Hp → VK → Prop := fun vs H Q => ∃ (z : List Nat), vs = [V.str (S z)] ∧ z.length + 1 < scanBound ∧
  ∀ (D : Addr) (l : List Str), H D = none → l.length ≤ z.length → (∀ x, S x ∈ l ↔ ∃ c, c ∈ z ∧ x = [c]) → Q (.ref D) (upd H D (SetXO P w D l))
theorem cr_setOfS {X : Cx} (hc : X.calm = true) : CallR X (.type "set") (rSetOfS X.prog X.w) := by
  intro pins s σ H vs us Q I r h
  obtain ⟨z, rfl, hb, q⟩ := h
  obtain ⟨u, eu, ru⟩ := vals1 r
  subst eu
  obtain ⟨t, rfl⟩ := ru
  refine set_of_str (I.ok.hd hc) (by simpa [S] using hb) fun h' tk F k => ?_
  obtain ⟨l, R, hlen, hm⟩ := F
  refine ⟨.ref _, upd H s.heap.objs.size (SetXO X.prog X.w s.heap.objs.size l), I.laid (t' := tk) k (Nat.le_refl _) (setXO_new R), rfl, q _ l (I.hok.fresh (Nat.le_refl _)) (by simpa [S] using hlen) fun x => ?_⟩
  rw [hm, List.take_length, List.mem_map]
  constructor
  · rintro ⟨c, hc2, e⟩
    exact ⟨c, by simpa [S] using hc2, (S_inj (show S [c] = S x from e)).symm⟩
  · rintro ⟨c, hc2, rfl⟩
    exact ⟨c, by simpa [S] using hc2, rfl⟩
theorem v_setOfS {P : Program} {w : World} {H : Hp} {Q : VK} {z : List Nat} (hb : z.length + 1 < scanBound)
    (q : ∀ (D : Addr) (l : List Str), H D = none → l.length ≤ z.length → (∀ x, S x ∈ l ↔ ∃ c, c ∈ z ∧ x = [c]) → Q (.ref D) (upd H D (SetXO P w D l))) : rSetOfS P w [.str (S z)] H Q := ⟨z, rfl, hb, q⟩
/-! ### dict(a dict), d[k] += a text -/
def rDictD : List V → Hp → VK → Prop := fun xs H Q => ∃ (a : Addr) (kvs : List (Key × V)), xs = [.ref a] ∧ Rd H a (.dK kvs) ∧ ∀ p, H p = none → Q (.ref p) (upd H p (.dK kvs))
theorem cr_dictD {X : Cx} : CallR X (.type "dict") rDictD := call_dictD
theorem v_dictD {H : Hp} {Q : VK} {a : Addr} {kvs : List (Key × V)} (h : H a = some (.dK kvs)) (q : ∀ p, H p = none → Q (.ref p) (upd H p (.dK kvs))) : rDictD [.ref a] H Q := ⟨a, kvs, rfl, .inl h, q⟩
theorem in_addX {X : Cx} : InOp X .Add rCatX := fun pins s σ H x y u v Q I rx ry h => iop_add_str pins s σ H x y u v Q I rx ry h
theorem in_addI {X : Cx} : InOp X .Add (rI0 fun i j => V.int (i + j)) := in_add
theorem v_daug {td ty tv : TE} {rd : V → V → Hp → VK → Prop} {D : Ends} {σ : L2.St} {H : Hp} (q : td σ H fun x H1 => ty σ H1 fun y H2 => ∃ a v, x = .ref a ∧ DGet H2 a y (some v) ∧ tv σ H2 fun y2 H3 => rd v y2 H3 fun z H4 => ∃ H5, DPut H4 a y z H5 ∧ D.nx σ H5) : sDAug td ty tv rd D σ H := q
/-! ### [e for a in xs for b in ys] -/
def kLc2 (g : TG) (tt : TT) (wi1 : TI) (g1 : TG) (tt1 : TT) (te : TE) (vs vs1 : List Nat) (σ : L2.St) (Q : VK) : It → Hp → Prop := fun J H1 => ∀ D, H1 D = none → ∃ W : Nat → Nat → Hp → Prop, (∃ m, W 0 m (upd H1 D (.lst []))) ∧ ∀ i m H, W i m H →
  (J.stop i H ∧ Q (.ref D) H) ∨ (J.go i H ∧ ∃ Nx : Hp → Prop, (∀ H', Nx H' → ∃ m', m' < m ∧ W (i + 1) m' H') ∧ ∀ x H', J.yld i H x H' → g x (wipe σ vs) H' fun σ2 H2 => wipe σ2 vs = wipe σ vs ∧ tt σ2 H2 fun b H3 =>
    if b = true then wi1 σ2 H3 fun J1 H4 => ∃ W1 : Nat → Nat → Hp → Prop, (∃ m, W1 0 m H4) ∧ ∀ j k H, W1 j k H →
      (J1.stop j H ∧ Nx H) ∨ (J1.go j H ∧ ∃ Nx1 : Hp → Prop, (∀ H', Nx1 H' → ∃ k', k' < k ∧ W1 (j + 1) k' H') ∧ ∀ x H', J1.yld j H x H' → g1 x (wipe σ2 vs1) H' fun σ3 H5 => wipe σ3 vs1 = wipe σ2 vs1 ∧ tt1 σ3 H5 fun b H6 =>
        if b = true then te σ3 H6 fun y H7 => ∃ acc, H7 D = some (.lst acc) ∧ acc.length < sizeLine ∧ Nx1 (upd H7 D (.lst (acc ++ [y]))) else Nx1 H6)
    else Nx H3)
theorem v_lc2 {wi : TI} {g : TG} {tt : TT} {wi1 : TI} {g1 : TG} {tt1 : TT} {te : TE} {vs vs1 : List Nat} {σ : L2.St} {H : Hp} {Q : VK} (q : wi σ H (kLc2 g tt wi1 g1 tt1 te vs vs1 σ Q)) : tLc2 wi g tt wi1 g1 tt1 te vs vs1 σ H Q := q
/-- what the inner walk of a turn must show: from acc at L to the next turn's invariant -/
def In2 (g1 : TG) (tt1 : TT) (te : TE) (vs1 : List Nat) (σ2 : L2.St) (L : Addr) (acc : List V) (Fin : List V → Hp → Prop) : It → Hp → Prop := fun J1 H5 =>
  ∃ (n1 : Nat) (I1 : Nat → List V → Hp → Prop), H5 L = some (.lst acc) ∧ I1 0 acc H5 ∧ (∀ acc' H', I1 n1 acc' H' → J1.stop n1 H') ∧ (∀ k acc' H', k < n1 → I1 k acc' H' → J1.go k H') ∧
    (∀ k acc' H', k < n1 → H' L = some (.lst acc') → I1 k acc' H' → ∀ v H2, J1.yld k H' v H2 → ∀ (Kp : VK) (Kn : Hp → Prop),
      (∀ y H5, H5 L = some (.lst acc') → acc'.length < sizeLine → I1 (k + 1) (acc' ++ [y]) (upd H5 L (.lst (acc' ++ [y]))) → Kp y H5) → (∀ H4, H4 L = some (.lst acc') → I1 (k + 1) acc' H4 → Kn H4) →
      g1 v (wipe σ2 vs1) H2 fun σ3 H3 => wipe σ3 vs1 = wipe σ2 vs1 ∧ tt1 σ3 H3 fun b H4 => if b = true then te σ3 H4 Kp else Kn H4) ∧
    (∀ acc' H', H' L = some (.lst acc') → I1 n1 acc' H' → Fin acc' H')
/-- a comprehension with two fors, by invariants -/
theorem lc2_gen {J : It} {g : TG} {tt : TT} {wi1 : TI} {g1 : TG} {tt1 : TT} {te : TE} {vs vs1 : List Nat} {σ : L2.St} {H : Hp} {Q : VK} (n : Nat) (I : Addr → Nat → List V → Hp → Prop)
    (hwi : ∀ σ H (R R' : It → Hp → Prop), (∀ J H, R J H → R' J H) → wi1 σ H R → wi1 σ H R')
    (h0 : ∀ L, H L = none → I L 0 [] (upd H L (.lst [])))
    (hst : ∀ L acc H', H L = none → I L n acc H' → J.stop n H')
    (hgo : ∀ L i acc H', H L = none → i < n → I L i acc H' → J.go i H')
    (hs : ∀ L i acc H', H L = none → i < n → H' L = some (.lst acc) → I L i acc H' → ∀ v H2, J.yld i H' v H2 → ∀ (Kt : L2.St → Bool → Hp → Prop),
      (∀ σ2 H4, wi1 σ2 H4 (In2 g1 tt1 te vs1 σ2 L acc (I L (i + 1))) → Kt σ2 true H4) → (∀ σ2 H4, H4 L = some (.lst acc) → I L (i + 1) acc H4 → Kt σ2 false H4) →
      g v (wipe σ vs) H2 fun σ2 H3 => wipe σ2 vs = wipe σ vs ∧ tt σ2 H3 (Kt σ2))
    (hd : ∀ L acc H', H L = none → H' L = some (.lst acc) → I L n acc H' → Q (.ref L) H') : kLc2 g tt wi1 g1 tt1 te vs vs1 σ Q J H := by
  intro L hL
  refine ⟨fun i m H' => m = n - i ∧ i ≤ n ∧ ∃ acc, H' L = some (.lst acc) ∧ I L i acc H', ⟨n, by simp, Nat.zero_le _, [], upd_same, h0 L hL⟩, ?_⟩
  rintro i m H' ⟨rfl, hi, acc, hLe, hI⟩
  by_cases hlt : i < n
  · refine .inr ⟨hgo L i acc H' hL hlt hI, fun H' => i + 1 ≤ n ∧ ∃ acc, H' L = some (.lst acc) ∧ I L (i + 1) acc H', fun H' h => ⟨n - (i + 1), by omega, rfl, h.1, h.2⟩, fun v H2 hy => ?_⟩
    refine hs L i acc H' hL hlt hLe hI v H2 hy (fun σ2 b H3 => _) (fun σ2 H4 hw => ?_) (fun σ2 H4 h1 h2 => ?_)
    · rw [if_pos rfl]
      refine hwi σ2 H4 _ _ (fun J1 H5 hin => ?_) hw
      obtain ⟨n1, I1, hL5, hI0, hst1, hgo1, hs1, hfin⟩ := hin
      refine ⟨fun k m H' => m = n1 - k ∧ k ≤ n1 ∧ ∃ acc', H' L = some (.lst acc') ∧ I1 k acc' H', ⟨n1, by simp, Nat.zero_le _, acc, hL5, hI0⟩, ?_⟩
      rintro k m H' ⟨rfl, hk, acc', hLe', hI'⟩
      by_cases hlt1 : k < n1
      · exact .inr ⟨hgo1 k acc' H' hlt1 hI', fun H' => k + 1 ≤ n1 ∧ ∃ acc', H' L = some (.lst acc') ∧ I1 (k + 1) acc' H', fun H' h => ⟨n1 - (k + 1), by omega, rfl, h.1, h.2⟩, fun v H2 hy =>
          hs1 k acc' H' hlt1 hLe' hI' v H2 hy _ _ (fun y H5 h1 h2 h3 => ⟨acc', h1, h2, hlt1, _, upd_same, h3⟩) (fun H4 h1 h2 => ⟨hlt1, acc', h1, h2⟩)⟩
      · have e : k = n1 := by omega
        subst e
        exact .inl ⟨hst1 acc' H' hI', hlt, acc', hLe', hfin acc' H' hLe' hI'⟩
    · rw [if_neg Bool.false_ne_true]
      exact ⟨hlt, acc, h1, h2⟩
  · have e : i = n := by omega
    subst e
    exact .inl ⟨hst L acc H' hL hI, hd L acc H' hL hLe hI⟩
end Sh

namespace Sh
open PySem PySem.Spec PyProof.Rows L2
/-! ### name = {k: v for ..} -/
theorem ps_setDc {X : Cx} {i : Nat} {y : Str} {py : Pos} {kx vx tg iter : Expr} {ifs : List Expr} {scope : Scope} {own : List (Str × Nat)} {pos spos : Pos} {wi : TI} {g : TG} {tt : TT} {tk tv : TE} (hc : X.calm = true) (hN : X.N.Nodup) (hy : X.N[i]? = some y) (hyl : X.env.scope.names.lookup y = some .local)
    (hsw : swapsWith (.DictComp kx vx [⟨tg, iter, ifs, 0⟩] scope pos) (some (.Name y py)) spos.line X.env = pure true) (hi : PI X tg iter wi) (ok : BlkOk X.N X.env.scope scope own)
    (hg : ∀ (s : Shared) (H : Hp) (C : Addr) (cl : List (Str × Addr)) (fp : List Addr), PG (X.blk s H scope (compEnvC scope cl C X.env) fp) tg g) (ht : ∀ (s : Shared) (H : Hp) (C : Addr) (cl : List (Str × Addr)) (fp : List Addr), PTs (X.blk s H scope (compEnvC scope cl C X.env) fp) ifs tt)
    (hk : ∀ (s : Shared) (H : Hp) (C : Addr) (cl : List (Str × Addr)) (fp : List Addr), PE (X.blk s H scope (compEnvC scope cl C X.env) fp) kx tk)
    (he : ∀ (s : Shared) (H : Hp) (C : Addr) (cl : List (Str × Addr)) (fp : List Addr), PE (X.blk s H scope (compEnvC scope cl C X.env) fp) vx tv) (hs : ∀ x, foldedSetIterable iter X.env x = pure x := by intro _; rfl) :
    PS X (.Assign [.Name y py] (.DictComp kx vx [⟨tg, iter, ifs, 0⟩] scope pos) spos) (tAsg (tDc wi g tt tk tv (own.map (·.2))) (gName i)) := by
  refine ⟨fun pins s σ H D I h => ?_⟩
  rw [exec_Assign_Name_used _ _ _ _ hsw]
  refine wpAny_bind (wpAny_standAt (wpAny_bind ?_))
  show wpAny _ X.A (do let _ ← comprehension (.DictComp kx vx [⟨tg, iter, ifs, 0⟩] scope pos) scope X.env (firstIterPos [⟨tg, iter, ifs, 0⟩] pos) newDict false (eval iter X.env) (some (assign (.Name y py) X.env))) _ _ s
  have h : tDc wi g tt tk tv (own.map (·.2)) σ H (fun x H1 => gName i x σ H1 D.nx) := h
  refine wpAny_bind (thn (dc_core (Qf := fun _ s' => SP X pins D .next s') hc hN I hi ok hg ht hk he hs h fun L C s' m H' I' q hn f => ?_) fun _ s' hq => wpAny_pure (wpAny_pure hq))
  show wpAny _ _ (assign (.Name y py) X.env (.ref L)) _ _ _
  refine wpAny_assign_Name (store_ok2 (v := V.ref L) I' hN hy (.inl hyl) rfl (fun s2 I2 ⟨a, sb, ha⟩ => ?_) (.inr hyl))
  obtain ⟨f0, f1, f2, f3, f4, f5⟩ := f
  have haC : C ≠ a := by
    rcases ha with z | z
    · rw [z]; exact f1
    · exact fun e => f4 y a z e.symm
  refine ⟨m, hn.sameBut sb haC, fun h3 sb3 => ?_⟩
  exact ⟨_, H', I2.turned (t' := s2.toks) (fun b o hb e => (sb3.2 b hb).trans e) f0 f1 f3 f4 f5, q⟩
theorem sw_trueD {kx vx : Expr} {gs : List Comprehension} {scope : Scope} {pos py : Pos} {y : Str} {l : Nat} {env : Env} (hk : env.scope.kind = .function) (hy : env.scope.names.lookup y = some .local) (hl : (py.line == pos.line) = true)
    (ha : (scope.names.any fun (n, k) => n == y && (k == .local || k == .cell)) = false) : swapsWith (.DictComp kx vx gs scope pos) (some (.Name y py)) l env = pure true := by
  have ky : env.kindOf y = some .local := hy
  have hb : env.blockKind = .function := by unfold Env.blockKind; rw [hk]; rfl
  unfold swapsWith
  simp only [hb, ky, ha, Expr.pos, hl]
  rfl
theorem rng1_mono {ta : TA} (m : MoA ta) : ∀ (σ : L2.St) (H : Hp) (R R' : It → Hp → Prop), (∀ J H, R J H → R' J H) → iRng1 ta σ H R → iRng1 ta σ H R' := fun σ H R R' h q =>
  m σ H _ _ (fun _ _ ⟨j, e, a, b, r⟩ => ⟨j, e, a, b, h _ _ r⟩) q
theorem tup_mono {K : PySem.W.Frag} {tl : TE} (m : MoE tl) : ∀ (σ : L2.St) (H : Hp) (R R' : It → Hp → Prop), (∀ J H, R J H → R' J H) → iTup K tl σ H R → iTup K tl σ H R' := fun σ H R R' h q =>
  m σ H _ _ (fun _ _ ⟨a, e, x, r⟩ => ⟨a, e, x, h _ _ r⟩) q
theorem list_mono {K : PySem.W.Frag} {tl : TE} (m : MoE tl) : ∀ (σ : L2.St) (H : Hp) (R R' : It → Hp → Prop), (∀ J H, R J H → R' J H) → iList K tl σ H R → iList K tl σ H R' := fun σ H R R' h q =>
  m σ H _ _ (fun _ _ ⟨a, e, x, r⟩ => ⟨a, e, x, h _ _ r⟩) q
/-- the inner walk over range(n) -/
theorem in2_R {g1 : TG} {tt1 : TT} {te : TE} {vs1 : List Nat} {σ2 : L2.St} {L : Addr} {acc : List V} {Fin : List V → Hp → Prop} {H5 : Hp} {lo : Int} (n1 : Nat) (I1 : Nat → List V → Hp → Prop) (hL : H5 L = some (.lst acc)) (h0 : I1 0 acc H5)
    (hs : ∀ k acc' H', k < n1 → H' L = some (.lst acc') → I1 k acc' H' → ∀ (Kp : VK) (Kn : Hp → Prop),
      (∀ y H5, H5 L = some (.lst acc') → acc'.length < sizeLine → I1 (k + 1) (acc' ++ [y]) (upd H5 L (.lst (acc' ++ [y]))) → Kp y H5) → (∀ H4, H4 L = some (.lst acc') → I1 (k + 1) acc' H4 → Kn H4) →
      g1 (.int (lo + (k : Int))) (wipe σ2 vs1) H' fun σ3 H3 => wipe σ3 vs1 = wipe σ2 vs1 ∧ tt1 σ3 H3 fun b H4 => if b = true then te σ3 H4 Kp else Kn H4)
    (hd : ∀ acc' H', H' L = some (.lst acc') → I1 n1 acc' H' → Fin acc' H') : In2 g1 tt1 te vs1 σ2 L acc Fin (Itr lo n1) H5 :=
  ⟨n1, I1, hL, h0, fun acc' H' _ => Nat.le_refl _, fun k acc' H' hk _ => hk, fun k acc' H' hk hLe hI v H2 hy Kp Kn h1 h2 => by
    obtain ⟨rfl, rfl⟩ := hy
    exact hs k acc' _ hk hLe hI Kp Kn h1 h2, hd⟩
end Sh

namespace Sh
open PySem PySem.Spec PyProof.Rows L2
/-! ### {k: v for tg in iter for tg1 in iter1}, keys ints or texts -/
section
variable {P : Program} {w : World} {kx vx t0 i0 t1 i1 : Expr} {scope : Scope} {pos : Pos} {it acc : Value} {env : Env} {D : Addr}
abbrev dcE (kx vx t0 i0 t1 i1 : Expr) (scope : Scope) (pos : Pos) : Expr := .DictComp kx vx [⟨t0, i0, [], 0⟩, ⟨t1, i1, [], 0⟩] scope pos
theorem dd_turn0 : compTurn (dcE kx vx t0 i0 t1 i1 scope pos) 0 it acc env = (do
    standAt i0.pos
    let r ← pyNext it
    match r with
    | none => pure (.done .next)
    | some v =>
      letOwnedTupleGo t0 it v
      assign t0 env v
      let x ← eval i1 env
      standAt i1.pos
      let y ← foldedSetIterable i1 env x
      let it1 ← holding [y] (pyIter y)
      let _ ← runOwn (.compStart (dcE kx vx t0 i0 t1 i1 scope pos) 1 it1 acc env) env
      again (.compLoop (dcE kx vx t0 i0 t1 i1 scope pos) 0 it acc env)) := by rfl
theorem dd_turn1 : compTurn (dcE kx vx t0 i0 t1 i1 scope pos) 1 it (.ref D) env = (do
    standAt i1.pos
    let r ← pyNext it
    match r with
    | none => pure (.done .next)
    | some v =>
      letOwnedTupleGo t1 it v
      assign t1 env v
      (do let kv ← eval kx env
          let vv ← holding [kv] (eval vx env)
          standAt { kx.pos with endLine := vx.pos.endLine, endCol := vx.pos.endCol }
          holding [kv, vv] (dictSet D kv vv))
      again (.compLoop (dcE kx vx t0 i0 t1 i1 scope pos) 1 it (.ref D) env)) := by rfl
/-- a clause's start, the iterator being its own -/
theorem dd_start {A : Around} {R : Result → Shared → Prop} {s : Shared} {n : Nat} (hn : n = 0 ∨ n = 1) (h0 : codeAny (model P w) A (.compLoop (dcE kx vx t0 i0 t1 i1 scope pos) n it acc env) R s)
    (h1 : ∀ (Q : Value → Shared → Prop) (E : Value → Shared → Prop), Q it s → wpAny (model P w) A (pyIter it) Q E s) : codeAny (model P w) A (.compStart (dcE kx vx t0 i0 t1 i1 scope pos) n it acc env) R s := by
  refine codeAny_of_tree ?_
  show wpAny _ _ ((compStart (dcE kx vx t0 i0 t1 i1 scope pos) n it acc env).onRaise (fun x => do noteFrame x env; standAt theWindowsPlace)) _ _ s
  refine wpAny_notedAt ?_
  unfold compStart
  rcases hn with rfl | rfl
  all_goals
    refine wpAny_bind (m := ask) (wpAny_askSetting (wpAny_ite ?_))
    split
    · first
        | exact wpAny_bind (wpAny_pure (wpAny_pure ⟨rfl, h0⟩))
        | exact wpAny_pure ⟨rfl, h0⟩
    · refine wpAny_bind (wpAny_rule ?_)
      first
        | exact wpAny_bind (wpAny_standAt (wpAny_bind (h1 _ _ (wpAny_pure ⟨rfl, h0⟩))))
        | (show wpAny _ _ (standAt i0.pos >>= _) _ _ s; exact wpAny_bind (wpAny_standAt (wpAny_bind (h1 _ _ (wpAny_pure ⟨rfl, h0⟩)))))
        | (show wpAny _ _ (standAt i1.pos >>= _) _ _ s; exact wpAny_bind (wpAny_standAt (wpAny_bind (h1 _ _ (wpAny_pure ⟨rfl, h0⟩)))))
end
/-- the reading: O i is true of the heap when i items of the first source are done, O1 j when j of the second are -/
def tDc2 (wi : TI) (g : TG) (wi1 : TI) (g1 : TG) (tk tv : TE) (vs vs1 : List Nat) : TE := fun σ H Q => wi σ H fun J H1 => ∀ D, H1 D = none → ∃ (N : Nat) (O : Nat → Hp → Prop), O 0 (upd H1 D (.dK [])) ∧
  ∀ i H, O i H → (J.stop i H ∧ Q (.ref D) H) ∨ (i < N ∧ J.go i H ∧ ∀ x H', J.yld i H x H' → g x (wipe σ vs) H' fun σ2 H2 => wipe σ2 vs = wipe σ vs ∧ wi1 σ2 H2 fun J1 H4 => ∃ (N1 : Nat) (O1 : Nat → Hp → Prop), O1 0 H4 ∧
    ∀ j H, O1 j H → (J1.stop j H ∧ O (i + 1) H) ∨ (j < N1 ∧ J1.go j H ∧ ∀ x H', J1.yld j H x H' → g1 x (wipe σ2 vs1) H' fun σ3 H5 => wipe σ3 vs1 = wipe σ2 vs1 ∧
      tk σ3 H5 fun y H6 => tv σ3 H6 fun z H7 => ∃ kvs k, y = kV k ∧ H7 D = some (.dK kvs) ∧ kvs.length < sizeLine ∧ O1 (j + 1) (upd H7 D (.dK (putK kvs k z)))))
section
variable {X : Cx} {kx vx t0 i0 t1 i1 : Expr} {scope : Scope} {pos pos' : Pos} {own : List (Str × Nat)} {vs1 : List Nat} {wi wi1 : TI} {g g1 : TG} {tk tv : TE}
theorem dc2_core {pins : List (Addr × Obj)} {s : Shared} {σ : L2.St} {H : Hp} {Q : VK} {use : Option (Value → Sem Unit)} {Qf : Value → Shared → Prop} (hc : X.calm = true) (hN : X.N.Nodup) (I : Inv X pins σ H s) (ok : BlkOk X.N X.env.scope scope own) (hv : ∀ i ∈ vs1, i ∈ own.map (·.2)) (hi : PI X t0 i0 wi)
    (hg : ∀ s H C cl fp, PG (X.blk s H scope (compEnvC scope cl C X.env) fp) t0 g) (hi1 : ∀ s H C cl fp, PI (X.blk s H scope (compEnvC scope cl C X.env) fp) t1 i1 wi1)
    (hg1 : ∀ s H C cl fp, PG (X.blk s H scope (compEnvC scope cl C X.env) fp) t1 g1) (hk : ∀ s H C cl fp, PE (X.blk s H scope (compEnvC scope cl C X.env) fp) kx tk) (he : ∀ s H C cl fp, PE (X.blk s H scope (compEnvC scope cl C X.env) fp) vx tv)
    (hs : ∀ x, foldedSetIterable i0 X.env x = pure x) (hs1 : ∀ env x, foldedSetIterable i1 env x = pure x)
    (h : tDc2 wi g wi1 g1 tk tv (own.map (·.2)) vs1 σ H Q)
    (hRR : ∀ D C s' m H', Inv X pins σ H' s' → Q (.ref D) H' → s'.heap.Ns C m → FpOk X pins H' C → compPost (model X.prog X.w) X.A X.xe use Qf (.ref D) C (.ok .next) s') :
    wpAny (model X.prog X.w) X.A (comprehension (dcE kx vx t0 i0 t1 i1 scope pos) scope X.env pos' newDict false (eval i0 X.env) use) Qf X.xe s := by
  have hcl : ∀ y ∈ scope.names, y.2 = .free → ∃ c, X.env.cells.lookup y.1 = some c := fun y hy e => (ok.free y hy e).elim (fun k => I.ok.has _ (.inl k)) (fun k => I.ok.has _ (.inr k))
  refine wpAny_comprehension_free (use := use) rfl hs (closure_ok hcl) ok.kind (fun y hy e => by rw [ok.uniq y hy, e]) (thn (hi.run pins s σ H _ I h) fun xv s1 h1 => thn h1 fun itv s2 h2 => ?_)
  obtain ⟨it, fp, tn, J, H2, rfl, I2, T, st2, f2, q⟩ := h2
  refine wpAny_newObj_type (newEnv_comp ?_)
  generalize hD : s2.heap.objs.size = D
  have hDn : H2 D = none := I2.hok.fresh (Nat.le_of_eq hD)
  obtain ⟨N, O, o0, step⟩ := q D hDn
  generalize hp3 : s2.heap.push { cls := .type "dict", data := .dict #[] } = p3
  have grow : ∀ b o, s2.heap.get? b = some o → p3.get? b = some o := fun b o e => by rw [← hp3]; exact Heap.get?_push_of_some _ e
  have hz3 : p3.objs.size = D + 1 := by rw [← hp3, Heap.size_push, hD]
  have I3 : Inv X pins σ (upd H2 D (.dK [])) { s2 with heap := p3 } := I2.laid (t' := s2.toks) grow (Nat.le_of_eq hD) (by rw [← hp3, ← hD]; exact dk_empty s2.heap I2.big)
  have small : ∀ b ∈ fp, b < D := fun b hb => by
    obtain ⟨o, e, _⟩ := T.obj _ _ st2 b hb
    rw [← hD]
    exact Heap.lt_size e
  have f3 : ∀ b ∈ fp, FpOk X pins (upd H2 D (.dK [])) b ∧ b < ({ s2 with heap := p3 } : Shared).heap.objs.size := fun b hb =>
    ⟨⟨by rw [upd_ne (Nat.ne_of_lt (small b hb))]; exact (f2 b hb).1, (f2 b hb).2⟩, by rw [show ({ s2 with heap := p3 } : Shared).heap.objs.size = D + 1 from hz3]; exact Nat.lt_succ_of_lt (small b hb)⟩
  have I4 := block_start I3 ok hN f3
  have st4 : tn 0 (pushCells (p3.push { cls := .type "dict", data := .dict #[] }) scope.names) := T.keep _ _ _ st2 fun b _ o e => pushCells_keeps _ _ _ _ (Heap.get?_push_of_some _ (grow b o e))
  generalize hH3 : upd H2 D (.dK []) = H3 at I3 I4 f3 o0
  generalize hs3 : ({ s2 with heap := p3 } : Shared) = s3 at I3 I4 f3
  have e3 : s3.heap = p3 := by rw [← hs3]
  generalize hcell : cellsFrom (s3.heap.objs.size + 1) scope.names (cloFrom X.env.cells scope.names []) = cl at I4
  have pg := hg s3 H3 s3.heap.objs.size cl fp
  have pi1 := hi1 s3 H3 s3.heap.objs.size cl fp
  have pg1 := hg1 s3 H3 s3.heap.objs.size cl fp
  have pk := hk s3 H3 s3.heap.objs.size cl fp
  have pe := he s3 H3 s3.heap.objs.size cl fp
  have nfp : ∀ b ∈ fp, H3 b = none := fun b hb => (f3 b hb).1.1
  generalize hC : s3.heap.objs.size = C at I4 pg pi1 pg1 pk pe hcell
  show codeAny _ _ (.compStart (dcE kx vx t0 i0 t1 i1 scope pos) 0 (.ref it) (.ref D) (compEnvC scope cl C X.env)) (compPost (model X.prog X.w) X.A X.xe use Qf (.ref D) C) { s3 with heap := pushCells (s3.heap.push { cls := .type "dict", data := .dict #[] }) scope.names }
  rw [← e3] at st4
  generalize hs4 : ({ s3 with heap := pushCells (s3.heap.push { cls := .type "dict", data := .dict #[] }) scope.names } : Shared) = s4 at I4
  have st4 : tn 0 s4.heap := by rw [← hs4]; exact st4
  have loc : (compEnvC scope cl C X.env).locals = C := rfl
  generalize compEnvC scope cl C X.env = ce at I4 pg pi1 pg1 pk pe loc
  have stat : ∀ {σ' : L2.St} {H' : Hp} {s' : Shared}, Inv (X.blk s3 H3 scope ce fp) [] σ' H' s' → (∀ b ∈ fp, H' b = none) → ∀ b ∈ fp, FpOk (X.blk s3 H3 scope ce fp) [] H' b := fun {σ' H' s'} I' hn b hb =>
    ⟨hn b hb, (I'.ok.exf b hb).1, I'.ok.exfs b hb, .inl hb, fun x c e => (I'.ok.exf b hb).2 x c e, fun p hp => nomatch (show p ∈ ([] : List (Addr × Obj)) from hp)⟩
  refine dd_start (.inl rfl) ?_ fun Q E q => T.self X.A 0 s4 Q E st4 q
  refine codeAny_loop rfl (fun n s' => ∃ i H', n = N - i ∧ Inv (X.blk s3 H3 scope ce fp) [] (wipe σ (own.map (·.2))) H' s' ∧ tn i s'.heap ∧ (∀ b ∈ fp, H' b = none) ∧ O i H') (fun n s5 hI => ?_) N ⟨0, H3, rfl, I4, st4, nfp, o0⟩
  obtain ⟨i, H5, rfl, I5, st5, n5, o5⟩ := hI
  show wpAny _ X.A ((compTurn (dcE kx vx t0 i0 t1 i1 scope pos) 0 (.ref it) (.ref D) ce).onRaise (fun x => do noteFrame x ce; theTreesLotGoes x)) _ _ s5
  refine wpAny_noted ?_
  rw [dd_turn0]
  refine wpAny_bind (wpAny_standAt (wpAny_bind ?_))
  rcases step i H5 o5 with ⟨stop, qq⟩ | ⟨hlt, go, body⟩
  · refine thnF (T.done (X.blk s3 H3 scope ce fp) rfl rfl rfl hc i [] s5 _ H5 (fun _ _ => False) I5 (stat I5 n5) st5 stop) fun r s6 ⟨hr, I6⟩ => ?_
    subst hr
    refine wpAny_pure ?_
    -- the block is left
    have I7 : Inv X pins σ H5 s6 := I3.call' (ch := fp) I6.os I6.base I6.hok I6.bare fun b hb => let z := (f3 b hb).1; ⟨z.2.2.2.1, z.2.1, z.2.2.2.2.1, z.2.2.2.2.2⟩
    have nC : H5 C = none := by rw [← loc]; exact I6.free
    obtain ⟨m, hn, _⟩ := I6.loc
    have hn' : s6.heap.Ns C m := by rw [← loc]; exact hn
    exact hRR D C s6 m H5 I7 qq hn' (I3.fpOk (Nat.le_of_eq hC) nC)
  · refine thnF (T.item (X.blk s3 H3 scope ce fp) rfl rfl rfl hc i [] s5 _ H5 (fun _ _ => False) I5 (stat I5 n5) st5 go) fun r s6 ⟨u, hr, h6⟩ => ?_
    subst hr
    refine wpAny_bind (thnF h6 fun _ s7 ⟨x, H7, I7, r7, y7, st7, n7⟩ => ?_)
    have P7 := I7.pinned (stat I7 n7) (T.obj _ _ st7)
    refine wpAny_bind (thnF (pg.run _ s7 _ H7 x u _ P7 r7 (body x H7 y7)) fun _ s8 ⟨σ8, H8, I8, hw8, q8⟩ => ?_)
    refine wpAny_bind (thnF (pi1.run _ s8 σ8 H8 _ I8 q8) fun xv s9 h9 => wpAny_bind (wpAny_standAt (wpAny_bind (wpAny_of_eq (hs1 ce xv) (wpAny_bind (wpAny_holding (thnF h9 fun itv s10 h10 => ?_)))))))
    obtain ⟨it1, fp1, tn1, J1, H10, rfl, I10, T1, st10, f10, N1, O1, o1, step1⟩ := h10
    have kept : ∀ {σ9 : L2.St} {s' : Shared} {H' : Hp}, Inv (X.blk s3 H3 scope ce fp) ([] ++ pinsAt fp s7.heap) σ9 H' s' → ∀ b ∈ fp, ∀ o, s7.heap.get? b = some o → s'.heap.get? b = some o ∧ H' b = none := fun {σ9 s' H'} I' b hb o e =>
      let z := I'.pin (b, o) (List.mem_append_right _ (List.mem_append_right _ (mem_pinsAt hb e)))
      ⟨z.1, z.2.1⟩
    have below : ∀ (j : Nat) v, (wipe σ (own.map (·.2)))[j]? = some (some v) → (wipe σ8 vs1)[j]? = some (some v) := fun j v e => by
      rw [← hw8] at e
      obtain ⟨e1, e2⟩ := wipe_some e
      rw [wipe_out fun z => e2 (hv j z)]
      exact e1
    have inner : codeAny (model X.prog X.w) X.A (.compStart (dcE kx vx t0 i0 t1 i1 scope pos) 1 (.ref it1) (.ref D) ce) (fun r s' => match r with
        | .ok _ => ∃ m, m < N - i ∧ ∃ i H', m = N - i ∧ Inv (X.blk s3 H3 scope ce fp) [] (wipe σ (own.map (·.2))) H' s' ∧ tn i s'.heap ∧ (∀ b ∈ fp, H' b = none) ∧ O i H'
        | .error _ => False) s10 := by
      refine dd_start (.inr rfl) ?_ fun Q E q => T1.self X.A 0 s10 Q E st10 q
      refine codeAny_loop rfl (fun n s' => ∃ j H', n = N1 - j ∧ Inv (X.blk s3 H3 scope ce fp) ([] ++ pinsAt fp s7.heap) (wipe σ8 vs1) H' s' ∧ tn1 j s'.heap ∧ (∀ b ∈ fp1, H' b = none) ∧ O1 j H') (fun n s11 hI => ?_) N1
        ⟨0, H10, rfl, I10.weak (wipe_length _ _) (fun j v e => (wipe_some e).1), st10, fun b hb => (f10 b hb).1, o1⟩
      obtain ⟨j, H11, rfl, I11, st11, n11, o11⟩ := hI
      have stat1 : ∀ b ∈ fp1, FpOk (X.blk s3 H3 scope ce fp) ([] ++ pinsAt fp s7.heap) H11 b := fun b hb => ⟨n11 b hb, (f10 b hb).2⟩
      show wpAny _ X.A ((compTurn (dcE kx vx t0 i0 t1 i1 scope pos) 1 (.ref it1) (.ref D) ce).onRaise (fun x => do noteFrame x ce; theTreesLotGoes x)) _ _ s11
      refine wpAny_noted ?_
      rw [dd_turn1]
      refine wpAny_bind (wpAny_standAt (wpAny_bind ?_))
      rcases step1 j H11 o11 with ⟨stop1, onward⟩ | ⟨hlt1, go1, body1⟩
      · refine thnF (T1.done (X.blk s3 H3 scope ce fp) rfl rfl rfl hc j _ s11 (wipe σ8 vs1) H11 (fun _ _ => False) I11 stat1 st11 stop1) fun r s12 ⟨hr, I12⟩ => ?_
        subst hr
        refine wpAny_pure ⟨N - (i + 1), by omega, i + 1, H11, rfl, (I12.unpinned (pins := [])).weak (by rw [← hw8, wipe_length, wipe_length]) below, T.keep _ _ _ st7 fun b hb o e => (kept I12 b hb o e).1, fun b hb => ?_, onward⟩
        obtain ⟨o, e, _⟩ := T.obj _ _ st7 b hb
        exact (kept I12 b hb o e).2
      · refine thnF (T1.item (X.blk s3 H3 scope ce fp) rfl rfl rfl hc j _ s11 (wipe σ8 vs1) H11 (fun _ _ => False) I11 stat1 st11 go1) fun r s12 ⟨u1, hr, h12⟩ => ?_
        subst hr
        refine wpAny_bind (thnF h12 fun _ s13 ⟨x1, H13, I13, r13, y13, st13, n13⟩ => ?_)
        have P13 := I13.pinned (fun b hb => ⟨n13 b hb, (f10 b hb).2⟩) (T1.obj _ _ st13)
        refine wpAny_bind (thnF (pg1.run _ s13 (wipe σ8 vs1) H13 x1 u1 _ P13 r13 (body1 x1 H13 y13)) fun _ s14 ⟨σ14, H14, I14, hw14, q14⟩ => ?_)
        refine wpAny_bind (wpAny_bind (thnF (pk.run _ s14 σ14 H14 _ I14 q14) fun kv s15 ⟨yk, H15, I15, r15, q15⟩ => ?_))
        refine wpAny_bind (wpAny_holding (thnF (pe.run _ s15 σ14 H15 _ I15 q15) fun vv s17 ⟨yv, H17, I17, r17, kvs, k, ek, hD17, room, o15⟩ => ?_))
        subst ek
        refine wpAny_bind (wpAny_standAt (wpAny_holding ?_))
        refine d_dictSet (X := X.blk s3 H3 scope ce fp) I17 hD17 room r15 r17 fun s16 I16 => ?_
        refine wpAny_pure ⟨rfl, ?_⟩
        have pin1 : ∀ b ∈ fp1, ∀ o, s13.heap.get? b = some o → s16.heap.get? b = some o ∧ (upd H17 D (.dK (putK kvs k yv))) b = none := fun b hb o e =>
          let y := I16.pin (b, o) (List.mem_append_right _ (List.mem_append_right _ (mem_pinsAt hb e)))
          ⟨y.1, y.2.1⟩
        refine ⟨N1 - (j + 1), by omega, j + 1, _, rfl, I16.unpinned.weak (by rw [← hw14, wipe_length]) (fun j v e => by rw [← hw14] at e; exact (wipe_some e).1), T1.keep _ _ _ st13 fun b hb o e => (pin1 b hb o e).1, fun b hb => ?_, o15⟩
        obtain ⟨o, e, _⟩ := T1.obj _ _ st13 b hb
        exact (pin1 b hb o e).2
    refine wpAny_bind (wpAny_runOwn ?_)
    rw [Around.mark_none]
    refine codeAny_mono inner fun r s' hr => ?_
    cases r with
    | ok f => first | exact wpAny_pure ⟨rfl, hr⟩ | exact wpAny_bind (wpAny_pure (wpAny_pure ⟨rfl, hr⟩))
    | error e => exact hr.elim
theorem pe_dc2 (hc : X.calm = true) (hN : X.N.Nodup) (ok : BlkOk X.N X.env.scope scope own) (hv : ∀ i ∈ vs1, i ∈ own.map (·.2)) (hi : PI X t0 i0 wi)
    (hg : ∀ s H C cl fp, PG (X.blk s H scope (compEnvC scope cl C X.env) fp) t0 g) (hi1 : ∀ s H C cl fp, PI (X.blk s H scope (compEnvC scope cl C X.env) fp) t1 i1 wi1)
    (hg1 : ∀ s H C cl fp, PG (X.blk s H scope (compEnvC scope cl C X.env) fp) t1 g1) (hk : ∀ s H C cl fp, PE (X.blk s H scope (compEnvC scope cl C X.env) fp) kx tk) (he : ∀ s H C cl fp, PE (X.blk s H scope (compEnvC scope cl C X.env) fp) vx tv)
    (hs : ∀ x, foldedSetIterable i0 X.env x = pure x := by intro _; rfl) (hs1 : ∀ env x, foldedSetIterable i1 env x = pure x := by intro _ _; rfl) :
    PE X (dcE kx vx t0 i0 t1 i1 scope pos) (tDc2 wi g wi1 g1 tk tv (own.map (·.2)) vs1) := by
  refine ⟨fun pins s σ H Q I h => ?_⟩
  rw [arm_eval_DictComp]
  refine dc2_core hc hN I ok hv hi hg hi1 hg1 hk he hs hs1 h fun D C s' m H' I' q hn f => ⟨m, hn, fun h'' sb => ?_⟩
  obtain ⟨f0, f1, f2, f3, f4, f5⟩ := f
  exact ⟨.ref D, H', I'.turned (t' := s'.toks) (fun b o hb e => (sb.2 b hb).trans e) f0 f1 f3 f4 f5, rfl, q⟩
theorem ps_setDc2 {i : Nat} {y : Str} {py spos : Pos} (hc : X.calm = true) (hN : X.N.Nodup) (hy : X.N[i]? = some y) (hyl : X.env.scope.names.lookup y = some .local)
    (hsw : swapsWith (dcE kx vx t0 i0 t1 i1 scope pos) (some (.Name y py)) spos.line X.env = pure true) (ok : BlkOk X.N X.env.scope scope own) (hv : ∀ i ∈ vs1, i ∈ own.map (·.2)) (hi : PI X t0 i0 wi)
    (hg : ∀ s H C cl fp, PG (X.blk s H scope (compEnvC scope cl C X.env) fp) t0 g) (hi1 : ∀ s H C cl fp, PI (X.blk s H scope (compEnvC scope cl C X.env) fp) t1 i1 wi1)
    (hg1 : ∀ s H C cl fp, PG (X.blk s H scope (compEnvC scope cl C X.env) fp) t1 g1) (hk : ∀ s H C cl fp, PE (X.blk s H scope (compEnvC scope cl C X.env) fp) kx tk) (he : ∀ s H C cl fp, PE (X.blk s H scope (compEnvC scope cl C X.env) fp) vx tv)
    (hs : ∀ x, foldedSetIterable i0 X.env x = pure x := by intro _; rfl) (hs1 : ∀ env x, foldedSetIterable i1 env x = pure x := by intro _ _; rfl) :
    PS X (.Assign [.Name y py] (dcE kx vx t0 i0 t1 i1 scope pos) spos) (tAsg (tDc2 wi g wi1 g1 tk tv (own.map (·.2)) vs1) (gName i)) := by
  refine ⟨fun pins s σ H D I h => ?_⟩
  rw [exec_Assign_Name_used _ _ _ _ hsw]
  refine wpAny_bind (wpAny_standAt (wpAny_bind ?_))
  show wpAny _ X.A (do let _ ← comprehension (dcE kx vx t0 i0 t1 i1 scope pos) scope X.env (firstIterPos [⟨t0, i0, [], 0⟩, ⟨t1, i1, [], 0⟩] pos) newDict false (eval i0 X.env) (some (assign (.Name y py) X.env))) _ _ s
  have h : tDc2 wi g wi1 g1 tk tv (own.map (·.2)) vs1 σ H (fun x H1 => gName i x σ H1 D.nx) := h
  refine wpAny_bind (thn (dc2_core (Qf := fun _ s' => SP X pins D .next s') hc hN I ok hv hi hg hi1 hg1 hk he hs hs1 h fun L C s' m H' I' q hn f => ?_) fun _ s' hq => wpAny_pure (wpAny_pure hq))
  show wpAny _ _ (assign (.Name y py) X.env (.ref L)) _ _ _
  refine wpAny_assign_Name (store_ok2 (v := V.ref L) I' hN hy (.inl hyl) rfl (fun s2 I2 ⟨a, sb, ha⟩ => ?_) (.inr hyl))
  obtain ⟨f0, f1, f2, f3, f4, f5⟩ := f
  have haC : C ≠ a := by
    rcases ha with z | z
    · rw [z]; exact f1
    · exact fun e => f4 y a z e.symm
  refine ⟨m, hn.sameBut sb haC, fun h3 sb3 => ?_⟩
  exact ⟨_, H', I2.turned (t' := s2.toks) (fun b o hb e => (sb3.2 b hb).trans e) f0 f1 f3 f4 f5, q⟩
end
end Sh

namespace Sh
open PySem PySem.Spec PyProof.Rows Srt SrtO
/-! ### sorting by a key that is called -/
section
variable {prog : Program} {w : World} {A : Around} {E : Value → Shared → Prop} {s : Shared}
theorem zip_arr (ks vs : List Value) : (ks.toArray.zip vs.toArray).toList = ks.zip vs := by simp
theorem keyed_sort {a : Addr} {vs : List Value} {n : Nat} {f : Value} {ltv : Value → Value → Bool} {R : PySem.Fin → Shared → Prop} (Kv : Nat → Value → Prop) (O : Swo ltv) (ho : s.heap.get? a = some (seqObj "list" vs.toArray n)) (hz : vs.length ≤ sizeLine)
    (turn : ∀ (i : Nat) (v : Value) (h' : Heap) (tk : Nat), vs[i]? = some v → (∀ b o, b ≠ a → s.heap.get? b = some o → h'.get? b = some o) →
      wpAny (model prog w) A (call f [v]) (fun k s2 => Kv i k ∧ ∃ h2 tk2, s2 = { s with heap := h2, toks := tk2 } ∧ ∀ b o, h'.get? b = some o → h2.get? b = some o) (fun _ _ => False) { s with heap := h', toks := tk })
    (hS : ∀ ks : List Value, ks.length = vs.length → (∀ i k, ks[i]? = some k → Kv i k) → 2 ≤ vs.length → ∀ (h' : Heap) (tk : Nat), (∀ b o, b ≠ a → s.heap.get? b = some o → h'.get? b = some o) → ∃ κ,
      (∀ (Q : SortKind → Shared → Prop) (E : Value → Shared → Prop), Q κ { s with heap := h', toks := tk } → wpAny (model prog w) A (keyKind' ks.toArray) Q E { s with heap := h', toks := tk }) ∧
      Cmp prog w A { s with heap := h', toks := tk } κ (fun p => p.1 ∈ ks) (lt2 ltv))
    (h : ∀ (ks : List Value) (out : List Keyed) (h' : Heap) (tk c : Nat), ks.length = vs.length → (∀ i k, ks[i]? = some k → Kv i k) → Srtd (lt2 ltv) out → Stb (lt2 ltv) out (ks.zip vs) → (∀ b o, b ≠ a → s.heap.get? b = some o → h'.get? b = some o) →
      h'.get? a = some (seqObj "list" (out.map (·.2)).toArray c) → R (.done (.ret .none)) { s with heap := h', toks := tk }) :
    wpAny (model prog w) A (ksk_tree a f false) R E s := by
  have hZ2 := hz
  rw [sizeLine_eq] at hZ2
  have ha : a < s.heap.objs.size := Heap.lt_size ho
  have s1 := Heap.SameBut.update s.heap a (Obj.mapSeq fun _ => (#[] : Array Value))
  obtain ⟨e1, ho1⟩ : ∃ e1, (s.heap.update a (Obj.mapSeq fun _ => (#[] : Array Value))).get? a = some (seqObj "list" #[] e1) := ⟨_, get?_update_seq ho fun _ => #[]⟩
  have hkS : ((s.heap.update a (Obj.mapSeq fun _ => (#[] : Array Value))).push (seqObj "tuple" vs.toArray 0)).objs.size = s.heap.objs.size + 1 := by rw [size_push', Heap.size_update]
  unfold ksk_tree
  refine wpAny_bind (listItems_at ho rfl ?_)
  refine wpAny_bind (listUpdate_at ho rfl ?_ (by rw [List.size_toArray, sizeLine_eq]; omega) (Nat.zero_le _))
  refine wpAny_bind (seqEpoch_at ho1 rfl ?_)
  refine wpAny_bind (wpAny_newTuple ?_ (by show vs.length ≤ _; rw [sizeLine_eq]; omega))
  refine wpAny_bind (wpAny_newList ?_ (Nat.zero_le _))
  refine wpAny_holding ?_
  generalize hkk : ((s.heap.update a (Obj.mapSeq fun _ => (#[] : Array Value))).push (seqObj "tuple" vs.toArray 0)).objs.size = kS at hkS
  have hka : kS ≠ a := by rw [hkS]; exact Nat.ne_of_gt (Nat.lt_succ_of_lt ha)
  generalize hh3 : (((s.heap.update a (Obj.mapSeq fun _ => (#[] : Array Value))).push (seqObj "tuple" vs.toArray 0)).push (seqObj "list" #[] 0)) = h3
  have keep3 : ∀ b o, b ≠ a → s.heap.get? b = some o → h3.get? b = some o := fun b o hb e => by
    rw [← hh3]
    exact Heap.get?_push_of_some _ (Heap.get?_push_of_some _ ((Heap.get?_update_ne _ _ _ _ hb).trans e))
  have a3 : h3.get? a = some (seqObj "list" #[] e1) := by rw [← hh3]; exact Heap.get?_push_of_some _ (Heap.get?_push_of_some _ ho1)
  have k3 : h3.get? kS = some (seqObj "list" #[] 0) := by rw [← hh3, ← hkk]; exact Heap.get?_push_size _ rfl
  show wpAny (model prog w) A (ksk_rest a f false vs.toArray e1 (.ref kS)) R E { s with heap := h3 }
  clear hh3 hkk ho1 s1
  have nokS : ∀ b o, s.heap.get? b = some o → b ≠ kS := fun b o e => by rw [hkS]; exact Nat.ne_of_lt (Nat.lt_succ_of_lt (Heap.lt_size e))
  unfold ksk_rest
  refine wpAny_bind (wpAny_rule ?_)
  first
    | rw [List.forIn_toArray]
    | (rw [← Array.forIn_toList]; simp only [List.toList_toArray])
    | rw [← Array.forIn_toList]
  refine wpAny_bind (ksk_fold (fun i s' => ∃ h' tk kA e, s' = { s with heap := h', toks := tk } ∧ (∀ b o, b ≠ a → s.heap.get? b = some o → h'.get? b = some o) ∧ h'.get? a = some (seqObj "list" #[] e1) ∧ h'.get? kS = some (seqObj "list" (List.toArray kA) e) ∧ kA.length = i ∧ ∀ j k, kA[j]? = some k → Kv j k) vs 0 { s with heap := h3 }
    ⟨h3, s.toks, [], 0, rfl, keep3, a3, k3, rfl, fun j k e => by simp at e⟩ ?step ?done)
  case step =>
    rintro j x s' hx ⟨h', tk, kA, e, rfl, kp, ha', hk', hl, hK⟩
    simp only [Nat.zero_add] at hl ⊢
    have hj : j < vs.length := (List.getElem?_eq_some_iff.mp hx).1
    refine wpAny_bind (wpAny_attempt (wpAny_mono (turn j x h' tk hx kp) (fun v s2 he => ?_) fun _ _ hF => hF.elim))
    obtain ⟨hv, h2, tk2, rfl, k2⟩ := he
    try dsimp only
    have nk := k2 _ _ hk'
    have na := k2 _ _ ha'
    have s1 := Heap.SameBut.update h2 kS (Obj.mapSeq (·.push v))
    obtain ⟨c2, hc2⟩ : ∃ c2, (h2.update kS (Obj.mapSeq (·.push v))).get? kS = some (seqObj "list" ((List.toArray kA).push v) c2) := ⟨_, get?_update_seq nk (·.push v)⟩
    refine wpAny_bind (listUpdate_at nk rfl ?_ (by rw [List.size_toArray, sizeLine_eq]; omega) (Nat.le_trans (Nat.le_of_eq (Array.size_push ..)) (by rw [List.size_toArray, sizeLine_eq]; omega)))
    refine wpAny_pure ⟨rfl, _, _, kA ++ [v], c2, rfl, fun b o hb e => (s1.2 b (nokS b o e)).trans (k2 _ _ (kp b o hb e)), (s1.2 a hka.symm).trans na, ?_, by rw [List.length_append, hl]; rfl, fun i k hk => ?_⟩
    · rw [hc2]; congr 2; simp
    · by_cases hi : i < kA.length
      · rw [List.getElem?_append_left hi] at hk
        exact hK i k hk
      · have e3 : i = kA.length := by
          have := (List.getElem?_eq_some_iff.mp hk).1
          rw [List.length_append, List.length_singleton] at this
          omega
        subst e3
        rw [List.getElem?_append_right (Nat.le_refl _), Nat.sub_self] at hk
        cases hk
        rw [hl]
        exact hv
  case done =>
    rintro s' ⟨h', tk, kA, e, rfl, kp, ha', hk', hl, hK⟩
    simp only [Nat.zero_add] at hl
    try dsimp only
    refine wpAny_bind (listItems_at hk' rfl ?_)
    have tail : ∀ st : SortSt, Srtd (lt2 ltv) (arrOf st).toList → Stb (lt2 ltv) (arrOf st).toList (kA.zip vs) → failedOf st = none → wpAny (model prog w) A (ksk_tail a false e1 (.ref kS) st) R E { s with heap := h', toks := tk } := by
      intro st hs hb hf
      have s1 := Heap.SameBut.update h' kS (Obj.mapSeq fun _ => (#[] : Array Value))
      have na1 : (h'.update kS (Obj.mapSeq fun _ => (#[] : Array Value))).get? a = some (seqObj "list" #[] e1) := (s1.2 a hka.symm).trans ha'
      have s2 := Heap.SameBut.update (h'.update kS (Obj.mapSeq fun _ => (#[] : Array Value))) a (Obj.mapSeq fun _ => (arrOf st).map (·.2))
      obtain ⟨c2, hc2⟩ : ∃ c2, ((h'.update kS (Obj.mapSeq fun _ => (#[] : Array Value))).update a (Obj.mapSeq fun _ => (arrOf st).map (·.2))).get? a = some (seqObj "list" ((arrOf st).map (·.2)) c2) := ⟨_, get?_update_seq na1 fun _ => (arrOf st).map (·.2)⟩
      have hsz : (arrOf st).size = vs.length := by
        have := hb.len
        rw [Array.length_toList, List.length_zip, hl, Nat.min_self] at this
        exact this
      unfold ksk_tail
      try dsimp only
      refine wpAny_bind (listUpdate_at hk' rfl ?_ (by rw [List.size_toArray, sizeLine_eq]; omega) (Nat.zero_le _))
      refine wpAny_bind (wpAny_letGo ?_)
      refine wpAny_bind (seqEpoch_at na1 rfl ?_)
      refine wpAny_bind (listUpdate_at na1 rfl ?_ (Nat.zero_le _) (Nat.le_trans (Nat.le_of_eq (by simp only [Bool.false_eq_true, if_false, Array.size_map]; exact hsz)) (by rw [sizeLine_eq]; omega)))
      rw [hf]
      try simp only [bne_self_eq_false, Bool.false_eq_true, if_false]
      refine wpAny_pure (h kA (arrOf st).toList _ _ c2 hl hK hs hb (fun b o hb2 e => (s2.2 b hb2).trans ((s1.2 b (nokS b o e)).trans (kp b o hb2 e))) ?_)
      rw [hc2, ← Array.toList_map, Array.toArray_toList]
    have est : (kA.toArray.zip vs.toArray).toList = kA.zip vs := zip_arr _ _
    unfold ksk_end
    try dsimp only
    first
      | rw [if_neg Bool.false_ne_true]
      | skip
    by_cases h2 : vs.toArray.size < 2
    · rw [if_pos h2, if_pos h2]
      refine wpAny_bind (wpAny_pure ?_)
      rw [StateT.run_pure]
      refine wpAny_bind (wpAny_pure ?_)
      try dsimp only
      rw [List.size_toArray] at h2
      refine tail (SortSt.mk' general' (kA.toArray.zip vs.toArray) #[] 7 none) ?_ (Stb.of_eq est) rfl
      show Srtd (lt2 ltv) (kA.toArray.zip vs.toArray).toList
      rw [est]
      match kA.zip vs, (show (kA.zip vs).length < 2 by rw [List.length_zip]; omega) with
      | [], _ => exact List.Pairwise.nil
      | [v], _ => exact List.pairwise_singleton _ _
      | _ :: _ :: l, h => exact absurd h (by rw [List.length_cons, List.length_cons]; omega)
    · rw [if_neg h2, if_neg h2]
      rw [List.size_toArray] at h2
      obtain ⟨κ, hkind, hT⟩ := hS kA hl hK (by omega) h' tk kp
      refine wpAny_bind (hkind _ _ ?_)
      have hall : AllL (fun p : Keyed => p.1 ∈ kA) (kA.toArray.zip vs.toArray).toList := fun p hm => by
        rw [est] at hm
        exact (List.of_mem_zip (show (p.1, p.2) ∈ kA.zip vs from hm)).1
      refine wpAny_bind (wpAny_mono (wpS_sortO (st0 := SortSt.mk' κ (kA.toArray.zip vs.toArray) #[] 7 none)
        (Q := fun _ st' => Srtd (lt2 ltv) (arrOf st').toList ∧ Stb (lt2 ltv) (arrOf st').toList (kA.zip vs) ∧ failedOf st' = none) (swo2 O) hT rfl hall rfl rfl fun st' a1 a2 a3 => ⟨a1, by rw [← est]; exact a2, a3⟩) ?_ fun _ _ e => e)
      rintro ⟨⟨⟩, st'⟩ s' ⟨rfl, hp1, hp2, hf⟩
      try dsimp only
      exact tail st' hp1 hp2 hf
end
end Sh

namespace Sh
open PySem PySem.Spec PyProof.Rows Srt SrtO
section
variable {prog : Program} {w : World} {A : Around} {E : Value → Shared → Prop} {s : Shared}
/-- sorted(l, key = f) -/
theorem keyed_sorted {l : Addr} {vs : List Value} {f : Value} {kw : List (Str × Value)} {ltv : Value → Value → Bool} {Q : Value → Shared → Prop} (Kv : Nat → Value → Prop) (O : Swo ltv) (hl : s.heap.IsList l vs.toArray) (hz : vs.length ≤ sizeLine)
    (ha1 : argsOk "sorted" ⟨[.ref l], kw⟩) (ha2 : ∀ x, argsOk "list.sort" ⟨[.ref x], kw⟩) (ht : ∀ x, Builtin.«list.sort» ⟨[.ref x], kw⟩ = ksk_tree x f false)
    (turn : ∀ (i : Nat) (v : Value) (h' : Heap) (tk : Nat), vs[i]? = some v → (∀ b o, s.heap.get? b = some o → h'.get? b = some o) →
      wpAny (model prog w) A.in1.in1 (call f [v]) (fun k s2 => Kv i k ∧ ∃ h2 tk2, s2 = { s with heap := h2, toks := tk2 } ∧ ∀ b o, h'.get? b = some o → h2.get? b = some o) (fun _ _ => False) { s with heap := h', toks := tk })
    (hS : ∀ ks : List Value, ks.length = vs.length → (∀ i k, ks[i]? = some k → Kv i k) → 2 ≤ vs.length → ∀ (h' : Heap) (tk : Nat), (∀ b o, s.heap.get? b = some o → h'.get? b = some o) → ∃ κ,
      (∀ (Q : SortKind → Shared → Prop) (E : Value → Shared → Prop), Q κ { s with heap := h', toks := tk } → wpAny (model prog w) A.in1.in1 (keyKind' ks.toArray) Q E { s with heap := h', toks := tk }) ∧
      Cmp prog w A.in1.in1 { s with heap := h', toks := tk } κ (fun p => p.1 ∈ ks) (lt2 ltv))
    (h : ∀ (ks : List Value) (out : List Keyed) (h' : Heap) (tk c D : Nat), ks.length = vs.length → (∀ i k, ks[i]? = some k → Kv i k) → Srtd (lt2 ltv) out → Stb (lt2 ltv) out (ks.zip vs) → (∀ b o, s.heap.get? b = some o → h'.get? b = some o) → s.heap.objs.size ≤ D →
      h'.get? D = some (seqObj "list" (out.map (·.2)).toArray c) → Q (.ref D) { s with heap := h', toks := tk }) :
    wpAny (model prog w) A (call (.builtin "sorted") [.ref l] kw) Q E s := by
  refine call_function_entry_kw kind_sorted plain_sorted entry_sorted ha1 ?_
  unfold Builtin.«sorted»
  refine wpAny_bind (m := checkCount "sorted" 1 1 _) (wpAny_pure ?_)
  refine wpAny_bind (collect_list hl ?_ hz)
  refine wpAny_bind (wpAny_newList ?_ hz)
  have hsz : ((s.heap.push (seqObj "list" #[] 0)).update s.heap.objs.size (Obj.mapSeq (· ++ vs.toArray))).objs.size = s.heap.objs.size + 1 := by
    rw [Heap.size_update, size_push']
  have hoL : (((s.heap.push (seqObj "list" #[] 0)).update s.heap.objs.size (Obj.mapSeq (· ++ vs.toArray))).push (seqObj "list" vs.toArray 0)).get? (s.heap.objs.size + 1) = some (seqObj "list" vs.toArray 0) := by
    rw [← hsz]; exact Heap.get?_push_size _ rfl
  have keep : ∀ b o, s.heap.get? b = some o → b ≠ s.heap.objs.size + 1 ∧ (((s.heap.push (seqObj "list" #[] 0)).update s.heap.objs.size (Obj.mapSeq (· ++ vs.toArray))).push (seqObj "list" vs.toArray 0)).get? b = some o := fun b o q => by
    have hlt : b < s.heap.objs.size := Heap.lt_size q
    refine ⟨Nat.ne_of_lt (Nat.lt_succ_of_lt hlt), Heap.get?_push_of_some _ ?_⟩
    rw [Heap.get?_update_ne _ _ _ _ (Nat.ne_of_lt hlt)]
    exact Heap.get?_push_of_some _ q
  show wpAny _ _ _ _ _ { s with heap := ((s.heap.push (seqObj "list" #[] 0)).update s.heap.objs.size (Obj.mapSeq (· ++ vs.toArray))).push (seqObj "list" vs.toArray 0) }
  rw [hsz]
  refine wpAny_bind (wpAny_holding (wpAny_call_entry_kw slot_list_sort ⟨_, hoL, rfl⟩ entry_list_sort ?_ (ha2 _)))
  show wpAny (model prog w) A.in1.in1 (Builtin.«list.sort» ⟨[.ref (s.heap.objs.size + 1)], kw⟩) _ _ _
  rw [ht]
  refine keyed_sort (s := { s with heap := ((s.heap.push (seqObj "list" #[] 0)).update s.heap.objs.size (Obj.mapSeq (· ++ vs.toArray))).push (seqObj "list" vs.toArray 0) }) Kv O hoL hz
    (fun i v h' tk hv k => turn i v h' tk hv fun b o e => k b o (keep b o e).1 (keep b o e).2) (fun ks h1 h2 h3 h' tk k => hS ks h1 h2 h3 h' tk fun b o e => k b o (keep b o e).1 (keep b o e).2)
    fun ks out h' tk c h1 h2 h3 h4 k hD => ⟨_, rfl, ?_⟩
  exact wpAny_pure ⟨_, rfl, h ks out h' tk c (s.heap.objs.size + 1) h1 h2 h3 h4 (fun b o e => k b o (keep b o e).1 (keep b o e).2) (Nat.le_succ _) hD⟩
end
end Sh
namespace Sh
open PySem PySem.Spec PyProof.Rows L2
/-! ### sorted(texts, key = len) -/
def tSortLen (K : PySem.W.Frag) (te : TE) : TE := fun σ H Q => te σ H fun x H1 => ∃ (a : Addr) (xs : List (List Nat)), x = .ref a ∧ SqL K H1 a (xs.map tV) ∧ xs.length ≤ sizeLine ∧ (∀ y, y ∈ xs → y.length ≤ sizeLine) ∧
  ∀ (zs : List (List Nat)) (p : Addr), zs.Perm xs → zs.Pairwise (fun a b : List Nat => a.length ≤ b.length) → H1 p = none → Q (.ref p) (upd H1 p (.lst (zs.map tV)))
theorem v_sortLen {K : PySem.W.Frag} {te : TE} {σ : L2.St} {H : Hp} {Q : VK} (q : te σ H fun x H1 => ∃ (a : Addr) (xs : List (List Nat)), x = .ref a ∧ SqL K H1 a (xs.map tV) ∧ xs.length ≤ sizeLine ∧ (∀ y, y ∈ xs → y.length ≤ sizeLine) ∧
  ∀ (zs : List (List Nat)) (p : Addr), zs.Perm xs → zs.Pairwise (fun a b : List Nat => a.length ≤ b.length) → H1 p = none → Q (.ref p) (upd H1 p (.lst (zs.map tV)))) : tSortLen K te σ H Q := q
theorem ints_list {zs : List Int} : ∀ {ks : List Value}, ks.length = zs.length → (∀ (i : Nat) (k : Value), ks[i]? = some k → ∃ t, k = .int (zs.getD i 0) t) → IntsAre ks zs := by
  induction zs with
  | nil => intro ks h _; rw [List.length_eq_zero_iff.mp h]; exact .nil
  | cons z r ih =>
    intro ks h hk
    cases ks with
    | nil => cases h
    | cons k ks =>
      obtain ⟨t, rfl⟩ := hk 0 k rfl
      exact .cons z t (ih (by simpa using h) fun i k e => hk (i + 1) k e)
def one1 (P : V → Hp → Prop) : List V → Hp → Prop
  | [x], H => P x H
  | _, _ => False
theorem one1_is {P : V → Hp → Prop} {vs : List V} {H : Hp} (h : one1 P vs H) : ∃ x, vs = [x] ∧ P x H := by
  match vs, h with
  | [x], h => exact ⟨x, rfl, h⟩
def txV : Value → List Nat
  | .str z _ => z.cps.toList
  | _ => []
theorem pe_sortLen {X : Cx} {e : Expr} {te : TE} {p pos lp kp : Pos} (hc : X.calm = true) (hg : Gl X "sorted") (hm : X.mg "sorted" = none) (hg2 : Gl X "len") (hm2 : X.mg "len" = none) (he : PE X e te)
    (hs : starEach [e] X.env = (false, eval e X.env) :: starEach [] X.env := by rfl) (h1 : backTo pos (starEach [e] X.env) = (false, eval e X.env) :: backTo pos (starEach [] X.env) := by rfl) (hpl : (backTo pos (starEach [e] X.env)).any (·.1) = false := by rfl) :
    PE X (.Call (.Name "sorted" p) [e] [⟨some "key", .Name "len" lp, kp⟩] pos) (tSortLen X.K te) := by
  refine ⟨fun pins s σ H Q I h => ?_⟩
  refine wpAny_Call_Name_kw (ld_blt I hg hm (show bootBuiltins "sorted" = some (.builtin "sorted") by decide +kernel) ?_)
  refine PyProof.Rows.callWith_kw (thn ((pa_cons he pa_nil hs : PA X [e] _).run pos pins s σ H (one1 fun x H1 => ∃ (a : Addr) (xs : List (List Nat)), x = .ref a ∧ SqL X.K H1 a (xs.map tV) ∧ xs.length ≤ sizeLine ∧ (∀ y, y ∈ xs → y.length ≤ sizeLine) ∧
    ∀ (zs : List (List Nat)) (p : Addr), zs.Perm xs → zs.Pairwise (fun a b : List Nat => a.length ≤ b.length) → H1 p = none → Q (.ref p) (upd H1 p (.lst (zs.map tV)))) I h) fun us s1 ⟨vs, H1, I1, r1, q1⟩ => ?_) h1 hpl
  · obtain ⟨x, rfl, a, xs, rfl, hS, hz, hzy, q⟩ := one1_is q1
    obtain ⟨u, rfl, ru⟩ := vals1 r1
    cases ru
    refine kws_cons (ld_blt I1 hg2 hm2 (show bootBuiltins "len" = some (.builtin "len") by decide +kernel) (kws_nil ?_))
    rw [tV_map] at hS
    obtain ⟨its, rv, hl, _⟩ := I1.list hS
    have hst := rv.strs
    have hlen : its.length = xs.length := by have := hst.length; rw [List.length_map] at this; exact this
    have hzl : ∀ i, (xs.map fun y => (y.length : Int)).getD i 0 = ((xs.getD i []).length : Int) := fun i => by
      rw [List.getD_eq_getElem?_getD, List.getD_eq_getElem?_getD, List.getElem?_map]
      cases xs[i]? <;> rfl
    refine keyed_sorted (ltv := SrtO.ltIv) (fun i k => ∃ t, k = .int ((xs.map fun y => (y.length : Int)).getD i 0) t) SrtO.swo_int hl.isList (by rw [hlen]; exact hz) (ksk_s1 _ _) (fun x => ksk_l1 _ _) (fun x => ksk_t4 _ _) (fun i v h' tk hv k => ?_) (fun ks h1 h2 h3 h' tk k => ?_) (fun ks out h' tk c D h1 h2 h3 h4 k hD hDD => ?_)
    · obtain ⟨t, rfl⟩ := SS.strs_at hst i v hv
      have hi : i < xs.length := by rw [← hlen]; exact (List.getElem?_eq_some_iff.mp hv).1
      have hxi : (xs.map S).getD i default = S (xs.getD i []) := by
        rw [List.getD_eq_getElem?_getD, List.getD_eq_getElem?_getD, List.getElem?_map, List.getElem?_eq_getElem hi]
        rfl
      have hn := line63
      have hy := hzy _ (List.mem_of_getElem? (List.getElem?_eq_getElem hi))
      have e1 : (xs.map S).getD i Str.empty = S (xs.getD i []) := by
        rw [List.getD_eq_getElem?_getD, List.getD_eq_getElem?_getD, List.getElem?_map, List.getElem?_eq_getElem hi]
        rfl
      rw [e1]
      have e2 : (S (xs.getD i [])).length = (xs.getD i []).length := S_len _
      have e3 : xs.getD i [] = xs[i] := by rw [List.getD_eq_getElem?_getD, List.getElem?_eq_getElem hi]; rfl
      refine len_str (by rw [e2, e3]; omega) ⟨⟨_, by rw [hzl, e2]⟩, h', _, rfl, fun _ _ e => e⟩
    · have hI : IntsAre ks (xs.map fun y => (y.length : Int)) := ints_list (by rw [h1, hlen, List.length_map]) h2
      exact (SrtO.ints_sortable (s := { s1 with heap := h', toks := tk }) (a := 0) hI (by omega)) h' (fun b o _ e => e)
    · have hkl : ks.length = its.length := h1
      have hout : ∀ p, p ∈ out → ∃ t t', p.2 = .str (S (txV p.2)) t ∧ p.1 = .int ((txV p.2).length : Nat) t' := fun p hp => by
        have hm := h4.perm.mem_iff.mp hp
        obtain ⟨i, hi, e⟩ := List.mem_iff_getElem.mp hm
        rw [List.length_zip] at hi
        rw [List.getElem_zip] at e
        obtain ⟨t', ht'⟩ := h2 i ks[i] (List.getElem?_eq_getElem (by omega))
        obtain ⟨t, ht⟩ := SS.strs_at hst i its[i] (List.getElem?_eq_getElem (by omega))
        have hi2 : i < xs.length := by omega
        have e1 : (xs.map S).getD i Str.empty = S (xs.getD i []) := by
          rw [List.getD_eq_getElem?_getD, List.getD_eq_getElem?_getD, List.getElem?_map, List.getElem?_eq_getElem hi2]
          rfl
        rw [e1] at ht
        rw [hzl] at ht'
        rw [← e]
        refine ⟨t, t', ?_, ?_⟩
        · show its[i] = .str (S (txV its[i])) t
          rw [ht]
          show _ = Value.str (S (S (xs.getD i [])).cps.toList) t
          rw [S_list]
        · show ks[i] = .int ((txV its[i]).length : Nat) t'
          rw [ht', ht]
          show _ = Value.int (((S (xs.getD i [])).cps.toList.length : Nat) : Int) t'
          rw [S_list]
      have hperm : (out.map fun p => txV p.2).Perm xs := by
        have hp := (h4.perm.map Prod.snd).map txV
        rw [List.map_map, List.map_snd_zip (by omega)] at hp
        have e : its.map txV = xs := by
          refine List.ext_getElem (by rw [List.length_map, hlen]) fun i hi1 hi2 => ?_
          rw [List.length_map] at hi1
          obtain ⟨t, ht⟩ := SS.strs_at hst i its[i] (List.getElem?_eq_getElem hi1)
          have e1 : (xs.map S).getD i Str.empty = S xs[i] := by
            rw [List.getD_eq_getElem?_getD, List.getElem?_map, List.getElem?_eq_getElem hi2]
            rfl
          rw [List.getElem_map, ht, e1]
          exact S_list _
        rw [e] at hp
        exact hp
      have hpw : (out.map fun p => txV p.2).Pairwise (fun a b : List Nat => a.length ≤ b.length) := by
        rw [List.pairwise_map]
        refine List.Pairwise.imp_of_mem (fun {x y} hx hy h => ?_) h3
        obtain ⟨_, _, _, ex⟩ := hout x hx
        obtain ⟨_, _, _, ey⟩ := hout y hy
        have h : SrtO.ltIv y.1 x.1 = false := h
        rw [ex, ey] at h
        have := of_decide_eq_false (p := (((txV y.2).length : Nat) : Int) < (((txV x.2).length : Nat) : Int)) h
        omega
      have hsA : StrsAre (out.map (·.2)) ((out.map fun p => txV p.2).map S) := by
        refine L2.strs_at (by rw [List.length_map, List.length_map, List.length_map]) fun j v hv => ?_
        rw [List.getElem?_map] at hv
        cases e : out[j]? with
        | none => rw [e] at hv; cases hv
        | some p =>
          rw [e] at hv
          obtain ⟨t, _, h5, _⟩ := hout p (List.mem_of_getElem? e)
          refine ⟨S (txV p.2), t, by rw [List.getElem?_map, List.getElem?_map, e]; rfl, ?_⟩
          rw [← Option.some.inj hv]
          exact h5
      have hll : (out.map fun p => txV p.2).length = xs.length := hperm.length_eq
      exact ⟨.ref D, upd H1 D (.lst ((out.map fun p => txV p.2).map tV)), I1.laid (t' := tk) k hD
        (show ObjOk X.prog X.w _ _ _ (.lst ((out.map fun p => txV p.2).map tV)) from ⟨by rw [List.length_map, hll]; exact hz, out.map (·.2), c, by rw [tV_map]; exact vals_of_strs hsA, hDD⟩), rfl, q _ D hperm hpw (I1.hok.fresh hD)⟩
def rListD : List V → Hp → VK → Prop := fun xs H Q => ∃ (a : Addr) (kvs : List (Key × V)), xs = [.ref a] ∧ Rd H a (.dK kvs) ∧ ∀ p, H p = none → Q (.ref p) (upd H p (.lst (kvs.map fun kv => kV kv.1)))
theorem cr_listD {X : Cx} (hc : X.calm = true) : CallR X (.type "list") rListD := call_listD hc
theorem v_listD {H : Hp} {Q : VK} {a : Addr} {kvs : List (Key × V)} (h : H a = some (.dK kvs)) (q : ∀ p, H p = none → Q (.ref p) (upd H p (.lst (kvs.map fun kv => kV kv.1)))) : rListD [.ref a] H Q := ⟨a, kvs, rfl, .inl h, q⟩
def kDc2 (g : TG) (wi1 : TI) (g1 : TG) (tk tv : TE) (vs vs1 : List Nat) (σ : L2.St) (Q : VK) : It → Hp → Prop := fun J H1 => ∀ D, H1 D = none → ∃ (N : Nat) (O : Nat → Hp → Prop), O 0 (upd H1 D (.dK [])) ∧
  ∀ i H, O i H → (J.stop i H ∧ Q (.ref D) H) ∨ (i < N ∧ J.go i H ∧ ∀ x H', J.yld i H x H' → g x (wipe σ vs) H' fun σ2 H2 => wipe σ2 vs = wipe σ vs ∧ wi1 σ2 H2 fun J1 H4 => ∃ (N1 : Nat) (O1 : Nat → Hp → Prop), O1 0 H4 ∧
    ∀ j H, O1 j H → (J1.stop j H ∧ O (i + 1) H) ∨ (j < N1 ∧ J1.go j H ∧ ∀ x H', J1.yld j H x H' → g1 x (wipe σ2 vs1) H' fun σ3 H5 => wipe σ3 vs1 = wipe σ2 vs1 ∧
      tk σ3 H5 fun y H6 => tv σ3 H6 fun z H7 => ∃ kvs k, y = kV k ∧ H7 D = some (.dK kvs) ∧ kvs.length < sizeLine ∧ O1 (j + 1) (upd H7 D (.dK (putK kvs k z)))))
theorem v_dc2 {wi : TI} {g : TG} {wi1 : TI} {g1 : TG} {tk tv : TE} {vs vs1 : List Nat} {σ : L2.St} {H : Hp} {Q : VK} (q : wi σ H (kDc2 g wi1 g1 tk tv vs vs1 σ Q)) : tDc2 wi g wi1 g1 tk tv vs vs1 σ H Q := q
/-- a dict with text keys, all values the same -/
def kvU (u : V) (ks : List (List Nat)) : List (Key × V) := ks.map fun x => (Sum.inr (S x), u)
theorem inrS_inj {x y : List Nat} (h : (Sum.inr (S x) : Key) = Sum.inr (S y)) : x = y := S_inj (Sum.inr.inj h)
theorem DX_kvU (u : V) : ∀ (ks : List (List Nat)) (x : List Nat), DX (kvU u ks) x = if x ∈ ks then some u else none
  | [], x => rfl
  | y :: r, x => by
    have ih := DX_kvU u r x
    unfold DX kvU at ih ⊢
    by_cases e : y = x
    · subst e
      rw [List.map_cons, valV_pos rfl, if_pos List.mem_cons_self]
    · rw [List.map_cons, valV_neg (fun h => e (inrS_inj h)), ih]
      by_cases h : x ∈ r
      · rw [if_pos h, if_pos (List.mem_cons_of_mem _ h)]
      · rw [if_neg h, if_neg (fun h2 => (List.mem_cons.mp h2).elim (fun h3 => e h3.symm) h)]
def insT (y : List Nat) (ks : List (List Nat)) : List (List Nat) := if y ∈ ks then ks else ks ++ [y]
theorem insT_mem {y : List Nat} {ks : List (List Nat)} {x : List Nat} : x ∈ insT y ks ↔ x ∈ ks ∨ x = y := by
  unfold insT
  by_cases h : y ∈ ks
  · rw [if_pos h]; exact ⟨.inl, fun h2 => h2.elim id fun e => e ▸ h⟩
  · rw [if_neg h, List.mem_append, List.mem_singleton]
theorem insT_nd {y : List Nat} {ks : List (List Nat)} (hn : ks.Nodup) : (insT y ks).Nodup := by
  unfold insT
  by_cases h : y ∈ ks
  · rw [if_pos h]; exact hn
  · rw [if_neg h, List.nodup_append]
    refine ⟨hn, by simp, fun a ha b hb e => ?_⟩
    rw [List.mem_singleton.mp hb] at e
    exact h (e ▸ ha)
theorem insT_len {y : List Nat} {ks : List (List Nat)} : (insT y ks).length ≤ ks.length + 1 := by
  unfold insT
  by_cases h : y ∈ ks
  · rw [if_pos h]; omega
  · rw [if_neg h, List.length_append]; exact Nat.le_refl _
theorem putK_kvU (u : V) (ks : List (List Nat)) (y : List Nat) : putK (kvU u ks) (Sum.inr (S y)) u = kvU u (insT y ks) := by
  unfold putK kvU insT
  have ha : ((ks.map fun x => ((Sum.inr (S x) : Key), u)).any fun kv => decide (kv.1 = Sum.inr (S y))) = decide (y ∈ ks) := by
    rw [Bool.eq_iff_iff, List.any_eq_true, decide_eq_true_eq]
    constructor
    · rintro ⟨kv, hkv, e⟩
      obtain ⟨d, hd, rfl⟩ := List.mem_map.mp hkv
      have := inrS_inj (of_decide_eq_true e)
      subst this
      exact hd
    · intro hc
      exact ⟨_, List.mem_map_of_mem hc, decide_eq_true rfl⟩
  rw [ha]
  by_cases h : y ∈ ks
  · rw [if_pos (decide_eq_true h), if_pos h, List.map_map]
    refine List.map_congr_left fun d _ => ?_
    show (if (Sum.inr (S d) : Key) = Sum.inr (S y) then _ else _) = _
    split <;> rfl
  · rw [if_neg (by rw [decide_eq_true_eq]; exact h), if_neg h, List.map_append]
    rfl
/-- a tuple of texts, and behind each a range: keys are texts f i m, all values the same -/
theorem dc2_TR {K : PySem.W.Frag} {wi1 : TI} {tk tv : TE} {a : Addr} {ps : List (List Nat)} {j k c : Nat} {σ : L2.St} {H : Hp} {Q : VK} (n : Nat → Nat) (f : Nat → Nat → List Nat) (u : V) (ha : H a = some (.tup (ps.map tV))) (hc : ∀ i, i < ps.length → n i ≤ c) (hb : c * ps.length < 16777216)
    (hw : ∀ v : V, wipe ((wipe σ [j, k]).set j (some v)) [j, k] = wipe σ [j, k])
    (hi : ∀ i p H', ps[i]? = some p → Same H H' → ∀ R : It → Hp → Prop, R (Itr 0 (n i)) H' → wi1 ((wipe σ [j, k]).set j (some (tV p))) H' R)
    (hk : ∀ i p m H', ps[i]? = some p → m < n i → Same H H' → ∀ Qv : VK, Qv (.str (S (f i m))) H' → tk ((wipe ((wipe σ [j, k]).set j (some (tV p))) [k]).set k (some (.int (0 + (m : Int))))) H' Qv)
    (hv : ∀ i p m H', ps[i]? = some p → m < n i → Same H H' → ∀ Qv : VK, Qv u H' → tv ((wipe ((wipe σ [j, k]).set j (some (tV p))) [k]).set k (some (.int (0 + (m : Int))))) H' Qv)
    (hd : ∀ D ks H2, H D = none → Same H H2 → H2 D = some (.dK (kvU u ks)) → ks.Nodup → (∀ x, x ∈ ks ↔ ∃ i m, i < ps.length ∧ m < n i ∧ x = f i m) → ks.length ≤ c * ps.length → Q (.ref D) H2) :
    kDc2 (gName j) wi1 (gName k) tk tv [j, k] [k] σ Q (Itt K a) H := by
  intro D hD
  refine ⟨ps.length, fun i H' => ∃ ks : List (List Nat), Same H H' ∧ H' D = some (.dK (kvU u ks)) ∧ ks.Nodup ∧ (∀ x, x ∈ ks ↔ ∃ i' m, i' < i ∧ m < n i' ∧ x = f i' m) ∧ ks.length ≤ c * i ∧ i ≤ ps.length, ⟨[], same_upd hD, upd_same, List.nodup_nil, fun x => ⟨(fun h => nomatch h), fun ⟨_, _, h, _⟩ => absurd h (Nat.not_lt_zero _)⟩, Nat.zero_le _, Nat.zero_le _⟩, ?_⟩
  rintro i H1 ⟨l, sm, hl, hnd, hm, hle, hip⟩
  by_cases hlt : i < ps.length
  · obtain ⟨p, hp⟩ : ∃ p, ps[i]? = some p := ⟨_, List.getElem?_eq_getElem hlt⟩
    have item : (ps.map tV)[i]? = some (tV p) := by rw [List.getElem?_map, hp]; rfl
    refine .inr ⟨hlt, ⟨_, tV p, SqT.of (sm _ _ ha), item⟩, ?_⟩
    rintro x H2 ⟨rfl, hx⟩
    have ex := hx _ (SqT.of (sm _ _ ha))
    rw [item] at ex
    cases Option.some.inj ex
    have hcn := hc i hlt
    have e1 : c * i + c ≤ c * ps.length := by rw [← Nat.mul_succ]; exact Nat.mul_le_mul_left c hlt
    refine ⟨hw _, hi i p _ hp sm _ ⟨n i, fun m H' => ∃ ks : List (List Nat), Same H H' ∧ H' D = some (.dK (kvU u ks)) ∧ ks.Nodup ∧ (∀ x, x ∈ ks ↔ (∃ i' m, i' < i ∧ m < n i' ∧ x = f i' m) ∨ ∃ m', m' < m ∧ x = f i m') ∧ ks.length ≤ c * i + m ∧ m ≤ n i,
      ⟨l, sm, hl, hnd, fun x => (hm x).trans ⟨.inl, fun h => h.elim id fun ⟨_, h, _⟩ => absurd h (Nat.not_lt_zero _)⟩, hle, Nat.zero_le _⟩, ?_⟩⟩
    clear hm hle hl sm hnd l
    rintro m H3 ⟨l, sm, hl, hnd, hm, hle, hmn⟩
    by_cases hm2 : m < n i
    · refine .inr ⟨hm2, hm2, ?_⟩
      rintro x H4 ⟨rfl, rfl⟩
      refine ⟨wipe_set, hk i p m _ hp hm2 sm _ (hv i p m _ hp hm2 sm _ ⟨kvU u l, Sum.inr (S (f i m)), rfl, hl, by unfold kvU; rw [List.length_map]; exact sz_lt (by omega), insT (f i m) l, same_mut sm hD, by rw [upd_same, putK_kvU], insT_nd hnd, fun x => ?_, ?_, hm2⟩)⟩
      · rw [insT_mem, hm x]
        constructor
        · rintro ((h | ⟨m', h1, h2⟩) | h)
          · exact .inl h
          · exact .inr ⟨m', Nat.lt_succ_of_lt h1, h2⟩
          · exact .inr ⟨m, Nat.lt_succ_self _, h⟩
        · rintro (h | ⟨m', h1, h2⟩)
          · exact .inl (.inl h)
          · by_cases e : m' = m
            · subst e; exact .inr h2
            · exact .inl (.inr ⟨m', by omega, h2⟩)
      · have := insT_len (y := f i m) (ks := l)
        omega
    · have e : m = n i := by omega
      subst e
      refine .inl ⟨Nat.le_refl _, l, sm, hl, hnd, fun x => (hm x).trans ⟨?_, ?_⟩, by rw [Nat.mul_succ]; omega, hlt⟩
      · rintro (⟨i', m, h1, h2⟩ | ⟨m, h1, h2⟩)
        · exact ⟨i', m, Nat.lt_succ_of_lt h1, h2⟩
        · exact ⟨i, m, Nat.lt_succ_self _, h1, h2⟩
      · rintro ⟨i', m, h1, h2, h3⟩
        by_cases e : i' = i
        · subst e; exact .inr ⟨m, h2, h3⟩
        · exact .inl ⟨i', m, by omega, h2, h3⟩
  · have e : i = ps.length := by omega
    subst e
    exact .inl ⟨⟨_, SqT.of (sm _ _ ha), by rw [List.length_map]; exact Nat.le_refl _⟩, hd D l H1 hD sm hl hnd hm hle⟩
end Sh

namespace Sh
open PySem PySem.Spec PyProof.Rows L2
/-! ### min and sorted of tuples (a number, a number, a text) -/
abbrev T3n := Nat × Nat × List Nat
def key3 (z : T3n) : List Nat := z.1 :: z.2.1 :: z.2.2
def toT (z : T3n) : PySem.W.T3 Int Int Str := ⟨(z.1 : Int), (z.2.1 : Int), S z.2.2⟩
theorem key3_inj {x y : T3n} (h : key3 x = key3 y) : x = y := by
  obtain ⟨a, b, c⟩ := x
  obtain ⟨d, e, f⟩ := y
  simp only [key3, List.cons.injEq] at h
  rw [h.1, h.2.1, h.2.2]
theorem lt3_key (x y : T3n) : PySem.W.DatumOrd.lt (toT x) (toT y) = decide (key3 x < key3 y) := by
  obtain ⟨a, b, c⟩ := x
  obtain ⟨d, e, f⟩ := y
  show (if (a : Int) = (d : Int) then (if (b : Int) = (e : Int) then decide ((S c).cps.toList < (S f).cps.toList) else decide ((b : Int) < (e : Int))) else decide ((a : Int) < (d : Int))) = _
  rw [S_list, S_list]
  unfold key3
  dsimp only
  by_cases h1 : a = d
  · subst h1
    rw [if_pos rfl]
    by_cases h2 : b = e
    · subst h2
      rw [if_pos rfl]
      refine dec_iff ?_
      rw [List.cons_lt_cons_iff, List.cons_lt_cons_iff]
      exact ⟨fun h => .inr ⟨rfl, .inr ⟨rfl, h⟩⟩, fun h => h.elim (fun h => absurd h (Nat.lt_irrefl _)) fun h => h.2.elim (fun h => absurd h (Nat.lt_irrefl _)) fun h => h.2⟩
    · rw [if_neg (by omega)]
      refine dec_iff ?_
      rw [List.cons_lt_cons_iff, List.cons_lt_cons_iff]
      exact ⟨fun h => .inr ⟨rfl, .inl (by omega)⟩, fun h => h.elim (fun h => absurd h (Nat.lt_irrefl _)) fun h => h.2.elim (fun h => by omega) fun h => absurd h.1 h2⟩
  · rw [if_neg (by omega)]
    refine dec_iff ?_
    rw [List.cons_lt_cons_iff]
    exact ⟨fun h => .inl (by omega), fun h => h.elim (fun h => by omega) fun h => absurd h.1 h1⟩
theorem min3_fold : ∀ (ys : List T3n) (x : T3n), ∃ m, m ∈ x :: ys ∧ PySem.W.minOf (toT x) (ys.map toT) = toT m ∧ ∀ y ∈ x :: ys, ¬ key3 y < key3 m := by
  intro ys
  induction ys with
  | nil => exact fun x => ⟨x, List.mem_cons_self, rfl, fun y hy => by rw [List.mem_singleton.mp hy]; exact List.lt_irrefl _⟩
  | cons z ys ih =>
    intro x
    have e : PySem.W.minOf (toT x) ((z :: ys).map toT) = PySem.W.minOf (if PySem.W.DatumOrd.lt (toT z) (toT x) = true then toT z else toT x) (ys.map toT) := rfl
    rw [e, lt3_key]
    by_cases h : key3 z < key3 x
    · rw [if_pos (decide_eq_true h)]
      obtain ⟨m, i1, i3, i2⟩ := ih z
      refine ⟨m, List.mem_cons_of_mem _ i1, i3, fun y hy => ?_⟩
      rcases List.mem_cons.mp hy with rfl | hy
      · exact fun h2 => i2 z List.mem_cons_self (List.lt_trans h h2)
      · exact i2 y hy
    · rw [if_neg (by rw [decide_eq_true_eq]; exact h)]
      obtain ⟨m, i1, i3, i2⟩ := ih x
      refine ⟨m, ?_, i3, fun y hy => ?_⟩
      · rcases List.mem_cons.mp i1 with e | i1
        · rw [e]; exact List.mem_cons_self
        · exact List.mem_cons_of_mem _ (List.mem_cons_of_mem _ i1)
      · rcases List.mem_cons.mp hy with rfl | hy
        · exact i2 y List.mem_cons_self
        · rcases List.mem_cons.mp hy with rfl | hy
          · exact fun h2 => i2 x List.mem_cons_self (List.lt_of_le_of_lt (List.not_lt.mp h) h2)
          · exact i2 y (List.mem_cons_of_mem _ hy)
/-- such tuples at addresses -/
def A3 (H : Hp) (bs : List (Addr × T3n)) : Prop := ∀ z, z ∈ bs → H z.1 = some (.tup [.int (z.2.1 : Int), .int (z.2.2.1 : Int), .str (S z.2.2.2)])
theorem A3.dp {K : PySem.W.Frag} {H : Hp} : ∀ {bs : List (Addr × T3n)}, A3 H bs → DpAll K H (bs.map fun z => V.ref z.1) ((bs.map fun z => toT z.2).map PySem.W.Datum.toD)
  | [], _ => .nil
  | z :: r, h => .cons (.tup (SqT.of (h z List.mem_cons_self)) (.cons (.int _) (.cons (.int _) (.cons (.str _) .nil)))) (A3.dp fun y hy => h y (List.mem_cons_of_mem _ hy))
theorem vals_getR : ∀ {xs : List V} {us : List Value}, Vals xs us → ∀ (i : Nat) {u : Value}, us[i]? = some u → ∃ x, xs[i]? = some x ∧ RelV x u
  | _, _, .nil, i, u, h => by simp at h
  | _, _, .cons r t, 0, u, h => by
    cases Option.some.inj (show some _ = some u from h)
    exact ⟨_, rfl, r⟩
  | _, _, .cons r t, i + 1, u, h => vals_getR t i (by simpa using h)
def rMin3 (K : PySem.W.Frag) : List V → Hp → VK → Prop := fun vs H Q => ∃ (a : Addr) (bs : List (Addr × T3n)), vs = [V.ref a] ∧ SqL K H a (bs.map fun z => V.ref z.1) ∧ A3 H bs ∧ bs ≠ [] ∧ ∀ z, z ∈ bs → (∀ y ∈ bs, ¬ key3 y.2 < key3 z.2) → Q (.ref z.1) H
theorem cr_min3 {X : Cx} (hc : X.calm = true) (hu : X.A.units + 64 < cLine) : CallR X (.builtin "min") (rMin3 X.K) := by
  intro pins s σ H vs us Q I r h
  obtain ⟨a, bs, rfl, hs, h3, hne, q⟩ := h
  obtain ⟨its, rv, hl, _⟩ := I.list hs
  rw [Vals.ref1 r]
  obtain ⟨as, hr⟩ := Dp.readsAll I _ _ _ (A3.dp (K := X.K) h3) rv
  cases bs with
  | nil => exact absurd rfl hne
  | cons b bs =>
    have hh : PySem.W.HoldAll s.heap its.toArray.toList (toT b.2 :: (bs.map fun z => toT z.2)) := ⟨as, hr⟩
    refine PySem.W.min_list_datum (I.ok.hd hc) hl.isList hh (by show _ + 1 + 1 < _; omega) fun i v h' tk hi hv hk => ?_
    obtain ⟨m, m1, m3, m2⟩ := min3_fold (bs.map (·.2)) b.2
    rw [List.map_map] at m3
    have m3 : PySem.W.minOf (toT b.2) (bs.map fun z => toT z.2) = toT m := m3
    rw [m3] at hv
    obtain ⟨l, va, vb, vc, rfl, hT, Ha, Hb, Hc⟩ := PySem.W.t3_of_holds hv
    have hi2 : its[i]? = some (.ref l) := by simpa using hi
    obtain ⟨x, hx, hxr⟩ := vals_getR rv i hi2
    rw [List.getElem?_map] at hx
    obtain ⟨z, hz, rfl⟩ := Option.map_eq_some_iff.mp hx
    have hzm := List.mem_of_getElem? hz
    have hl2 : l = z.1 := by cases hxr; rfl
    subst hl2
    obtain ⟨is3, r3, hT3, _⟩ := I.tuple (SqT.of (h3 z hzm))
    obtain ⟨o, ho, _, n, hd⟩ : s.heap.IsTuple z.1 is3.toArray := hT3
    obtain ⟨o2, ho2, _, n2, hd2⟩ := hT
    rw [hk _ _ ho] at ho2
    obtain rfl := Option.some.inj ho2
    rw [hd] at hd2
    injection hd2 with e1 e2
    have e3 : is3 = [va, vb, vc] := by
      have := congrArg Array.toList e1
      simpa using this
    rw [e3] at r3
    obtain ⟨t1, rfl⟩ := PySem.W.int_of_holds Ha
    obtain ⟨t2, rfl⟩ := PySem.W.int_of_holds Hb
    obtain ⟨t3, rfl⟩ := PySem.W.str_of_holds Hc
    have hzm2 : z.2 = m := by
      cases r3 with
      | cons q1 r3 =>
        cases r3 with
        | cons q2 r3 =>
          cases r3 with
          | cons q3 r3 =>
            obtain ⟨x1, e1⟩ := q1
            obtain ⟨x2, e2⟩ := q2
            obtain ⟨x3, e3⟩ := q3
            have a1 := (Value.int.inj e1).1
            have a2 := (Value.int.inj e2).1
            have a3 := (Value.str.inj e3).1
            have b3 := S_inj a3
            refine Prod.ext (by simp only [toT] at a1; omega) (Prod.ext (by simp only [toT] at a2; omega) b3.symm)
    refine ⟨.ref z.1, H, I.kept hk, rfl, q z hzm fun y hy => ?_⟩
    rw [hzm2]
    refine m2 y.2 ?_
    rcases List.mem_cons.mp hy with rfl | h
    · exact List.mem_cons_self
    · exact List.mem_cons_of_mem _ (List.mem_map_of_mem h)
theorem v_min3 {K : PySem.W.Frag} {H : Hp} {Q : VK} {a : Addr} {bs : List (Addr × T3n)} (hs : H a = some (.lst (bs.map fun z => V.ref z.1))) (h3 : A3 H bs) (hne : bs ≠ []) (q : ∀ z, z ∈ bs → (∀ y ∈ bs, ¬ key3 y.2 < key3 z.2) → Q (.ref z.1) H) : rMin3 K [.ref a] H Q := ⟨a, bs, rfl, SqL.of hs, h3, hne, q⟩
/-- sorted of such tuples: the first is the least -/
theorem v_sort3 {K : PySem.W.Frag} {H : Hp} {Q : VK} {a : Addr} {bs : List (Addr × T3n)} (hs : H a = some (.lst (bs.map fun z => V.ref z.1))) (h3 : A3 H bs) (hz : bs.length ≤ sizeLine)
    (q : ∀ (p : Addr) (zs : List (Addr × T3n)), H p = none → zs.Perm bs → zs.Pairwise (fun x y => ¬ key3 y.2 < key3 x.2) → Q (.ref p) (upd H p (.lst (zs.map fun z => V.ref z.1)))) : rSortD K [.ref a] H Q := by
  have hle : ∀ x y : Addr × T3n, PySem.W.dataLe false (fun b : V × PyData => b.2) (V.ref x.1, PySem.W.Datum.toD (toT x.2)) (V.ref y.1, PySem.W.Datum.toD (toT y.2)) = decide (¬ key3 y.2 < key3 x.2) := fun x y => by
    rw [PySem.W.dataLe_eq]
    show (!PySem.W.dataLt (PySem.W.Datum.toD (toT y.2)) (PySem.W.Datum.toD (toT x.2))) = _
    rw [PySem.W.DatumOrd.lt_eq, lt3_key]
    by_cases h : key3 y.2 < key3 x.2
    · rw [decide_eq_true h, decide_eq_false (fun h2 => h2 h)]; rfl
    · rw [decide_eq_false h, decide_eq_true h]; rfl
  let f : Addr × T3n → V × PyData := fun z => (V.ref z.1, PySem.W.Datum.toD (toT z.2))
  let le : Addr × T3n → Addr × T3n → Bool := fun x y => decide (¬ key3 y.2 < key3 x.2)
  have hms : (bs.map f).mergeSort (PySem.W.dataLe false fun b => b.2) = (bs.mergeSort le).map f :=
    (List.map_mergeSort (r := le) (s := PySem.W.dataLe false fun b => b.2) (f := f) fun x _ y _ => (hle x y).symm).symm
  have hpw : (bs.mergeSort le).Pairwise (fun x y => ¬ key3 y.2 < key3 x.2) := by
    have := List.pairwise_mergeSort (le := le) (fun x y z h1 h2 => by
      have h1 := of_decide_eq_true h1
      have h2 := of_decide_eq_true h2
      refine decide_eq_true fun h => h2 ?_
      rcases List.le_iff_lt_or_eq.mp (List.not_lt.mp h1) with h3 | h3
      · exact List.lt_trans h h3
      · rw [← h3]; exact h) (fun x y => by
      by_cases h : key3 y.2 < key3 x.2
      · have h3 : ¬ key3 x.2 < key3 y.2 := fun h2 => List.lt_irrefl _ (List.lt_trans h h2)
        show (decide _ || decide _) = true
        rw [decide_eq_true h3, Bool.or_true]
      · show (decide _ || decide _) = true
        rw [decide_eq_true h, Bool.true_or]) bs
    exact this.imp fun h => of_decide_eq_true h
  refine ⟨a, bs.map f, rfl, by rw [List.map_map]; exact SqL.of hs, fun b hb => ?_, ?_, ?_, fun b hb => ?_, by rw [List.length_map]; exact hz, fun p hp => ?_⟩
  · obtain ⟨z, hz, rfl⟩ := List.mem_map.mp hb
    exact .tup (SqT.of (h3 z hz)) (.cons (.int _) (.cons (.int _) (.cons (.str _) .nil)))
  · rw [List.map_map]
    exact PySem.W.AllAlike.of (enc := fun z : Addr × T3n => PySem.W.Datum.toD (toT z.2)) fun z y => PySem.W.DatumOrd.alike (toT z.2) (toT y.2)
  · refine .inl fun d hd => ?_
    rw [List.map_map] at hd
    obtain ⟨z, hz, rfl⟩ := List.mem_map.mp hd
    exact ⟨_, _, rfl⟩
  · obtain ⟨z, hz, rfl⟩ := List.mem_map.mp hb
    show (PyData.tuple [.int _, .int _, .str _]).depth ≤ 60
    simp only [PyData.depth, PyData.depthAll]
    omega
  · rw [hms, List.map_map]
    exact q p _ hp (List.mergeSort_perm _ _) hpw
end Sh

namespace Sh
open PySem PySem.Spec PyProof.Rows L2
/-! ### {k: v for tg in iter}, keys that are tuples -/
section
variable {P : Program} {w : World} {kx vx t0 i0 : Expr} {scope : Scope} {pos : Pos} {it acc : Value} {env : Env} {D : Addr}
abbrev dE1 (kx vx t0 i0 : Expr) (scope : Scope) (pos : Pos) : Expr := .DictComp kx vx [⟨t0, i0, [], 0⟩] scope pos
theorem de_turn : compTurn (dE1 kx vx t0 i0 scope pos) 0 it (.ref D) env = (do
    standAt i0.pos
    let r ← pyNext it
    match r with
    | none => pure (.done .next)
    | some v =>
      letOwnedTupleGo t0 it v
      assign t0 env v
      (do let kv ← eval kx env
          let vv ← holding [kv] (eval vx env)
          standAt { kx.pos with endLine := vx.pos.endLine, endCol := vx.pos.endCol }
          holding [kv, vv] (dictSet D kv vv))
      again (.compLoop (dE1 kx vx t0 i0 scope pos) 0 it (.ref D) env)) := by rfl
theorem de_start {A : Around} {R : Result → Shared → Prop} {s : Shared} (h0 : codeAny (model P w) A (.compLoop (dE1 kx vx t0 i0 scope pos) 0 it acc env) R s)
    (h1 : ∀ (Q : Value → Shared → Prop) (E : Value → Shared → Prop), Q it s → wpAny (model P w) A (pyIter it) Q E s) : codeAny (model P w) A (.compStart (dE1 kx vx t0 i0 scope pos) 0 it acc env) R s := by
  refine codeAny_of_tree ?_
  show wpAny _ _ ((compStart (dE1 kx vx t0 i0 scope pos) 0 it acc env).onRaise (fun x => do noteFrame x env; standAt theWindowsPlace)) _ _ s
  refine wpAny_notedAt ?_
  unfold compStart
  refine wpAny_bind (m := ask) (wpAny_askSetting (wpAny_ite ?_))
  split
  · first
      | exact wpAny_bind (wpAny_pure (wpAny_pure ⟨rfl, h0⟩))
      | exact wpAny_pure ⟨rfl, h0⟩
  · refine wpAny_bind (wpAny_rule ?_)
    first
      | exact wpAny_bind (wpAny_standAt (wpAny_bind (h1 _ _ (wpAny_pure ⟨rfl, h0⟩))))
      | (show wpAny _ _ (standAt i0.pos >>= _) _ _ s; exact wpAny_bind (wpAny_standAt (wpAny_bind (h1 _ _ (wpAny_pure ⟨rfl, h0⟩)))))
end
/-- the reading: O i is true of the heap when i items are done -/
def tDcT (wi : TI) (g : TG) (tk tv : TE) (vs : List Nat) : TE := fun σ H Q => wi σ H fun J H1 => ∀ D, H1 D = none → ∃ (N : Nat) (O : Nat → Hp → Prop), O 0 (upd H1 D (.dT [])) ∧
  ∀ i H, O i H → (J.stop i H ∧ Q (.ref D) H) ∨ (i < N ∧ J.go i H ∧ ∀ x H', J.yld i H x H' → g x (wipe σ vs) H' fun σ2 H2 => wipe σ2 vs = wipe σ vs ∧
    tk σ2 H2 fun y H6 => tv σ2 H6 fun z H7 => ∃ kvs k b, y = .ref b ∧ H7 b = some (.tup (k.map kV)) ∧ H7 D = some (.dT kvs) ∧ kvs.length < sizeLine ∧ O (i + 1) (upd H7 D (.dT (putK kvs k z))))
section
variable {X : Cx} {kx vx t0 i0 : Expr} {scope : Scope} {pos pos' : Pos} {own : List (Str × Nat)} {wi : TI} {g : TG} {tk tv : TE}
theorem put_tup {pins : List (Addr × Obj)} {σ : L2.St} {H : Hp} {s : Shared} {E : Value → Shared → Prop} {D b : Addr} {kvs : List (List Key × V)} {k : List Key} {v : V} {r : Value} {Q : Unit → Shared → Prop} (hu : X.A.units < cLine) (I : Inv X pins σ H s) (hD : H D = some (.dT kvs))
    (hb : H b = some (.tup (k.map kV))) (room : kvs.length < sizeLine) (rv : RelV v r) (h : ∀ s', Inv X pins σ (upd H D (.dT (putK kvs k v))) s' → Q () s') : wpAny (model X.prog X.w) X.A (dictSet D (.ref b) r) Q E s := by
  obtain ⟨_, nm, xs, kt, dd⟩ := dt_of I.hok hD
  have lx : xs.length ≤ sizeLine := Nat.le_trans (Nat.le_of_eq (Paired.length kt).symm) (Nat.le_of_lt room)
  refine wpAny_dictSet_heap (hsz := lx) (knd := tupleKind (mixKind X.prog X.w)) hu (key_of I.hok hb) dd fun h' ⟨q, es, ep, hq, a2, a3, a4, _, a5⟩ sb => h _ ?_
  refine d_write I (by rw [hD]; exact True.intro) sb ⟨q, hq⟩ ⟨Nat.le_trans (length_putK kvs k v) room, nm, _, (kt.put k hb rv).keeps fun c ys ec => ?_, q, es, ep, hq, a2, a3, a4, a5⟩
  rw [upd_ne (ne_of ec hD (fun z => nomatch z))]
  exact ec
theorem dcT_core {pins : List (Addr × Obj)} {s : Shared} {σ : L2.St} {H : Hp} {Q : VK} {use : Option (Value → Sem Unit)} {Qf : Value → Shared → Prop} (hc : X.calm = true) (hu : X.A.units < cLine) (hN : X.N.Nodup) (I : Inv X pins σ H s) (ok : BlkOk X.N X.env.scope scope own) (hi : PI X t0 i0 wi)
    (hg : ∀ s H C cl fp, PG (X.blk s H scope (compEnvC scope cl C X.env) fp) t0 g)
    (hk : ∀ s H C cl fp, PE (X.blk s H scope (compEnvC scope cl C X.env) fp) kx tk) (he : ∀ s H C cl fp, PE (X.blk s H scope (compEnvC scope cl C X.env) fp) vx tv)
    (hs : ∀ x, foldedSetIterable i0 X.env x = pure x)
    (h : tDcT wi g tk tv (own.map (·.2)) σ H Q)
    (hRR : ∀ D C s' m H', Inv X pins σ H' s' → Q (.ref D) H' → s'.heap.Ns C m → FpOk X pins H' C → compPost (model X.prog X.w) X.A X.xe use Qf (.ref D) C (.ok .next) s') :
    wpAny (model X.prog X.w) X.A (comprehension (dE1 kx vx t0 i0 scope pos) scope X.env pos' newDict false (eval i0 X.env) use) Qf X.xe s := by
  have hcl : ∀ y ∈ scope.names, y.2 = .free → ∃ c, X.env.cells.lookup y.1 = some c := fun y hy e => (ok.free y hy e).elim (fun k => I.ok.has _ (.inl k)) (fun k => I.ok.has _ (.inr k))
  refine wpAny_comprehension_free (use := use) rfl hs (closure_ok hcl) ok.kind (fun y hy e => by rw [ok.uniq y hy, e]) (thn (hi.run pins s σ H _ I h) fun xv s1 h1 => thn h1 fun itv s2 h2 => ?_)
  obtain ⟨it, fp, tn, J, H2, rfl, I2, T, st2, f2, q⟩ := h2
  refine wpAny_newObj_type (newEnv_comp ?_)
  generalize hD : s2.heap.objs.size = D
  have hDn : H2 D = none := I2.hok.fresh (Nat.le_of_eq hD)
  obtain ⟨N, O, o0, step⟩ := q D hDn
  generalize hp3 : s2.heap.push { cls := .type "dict", data := .dict #[] } = p3
  have grow : ∀ b o, s2.heap.get? b = some o → p3.get? b = some o := fun b o e => by rw [← hp3]; exact Heap.get?_push_of_some _ e
  have hz3 : p3.objs.size = D + 1 := by rw [← hp3, Heap.size_push, hD]
  have I3 : Inv X pins σ (upd H2 D (.dT [])) { s2 with heap := p3 } := I2.laid (t' := s2.toks) grow (Nat.le_of_eq hD) (by rw [← hp3, ← hD]; exact dt_empty s2.heap I2.big)
  have small : ∀ b ∈ fp, b < D := fun b hb => by
    obtain ⟨o, e, _⟩ := T.obj _ _ st2 b hb
    rw [← hD]
    exact Heap.lt_size e
  have f3 : ∀ b ∈ fp, FpOk X pins (upd H2 D (.dT [])) b ∧ b < ({ s2 with heap := p3 } : Shared).heap.objs.size := fun b hb =>
    ⟨⟨by rw [upd_ne (Nat.ne_of_lt (small b hb))]; exact (f2 b hb).1, (f2 b hb).2⟩, by rw [show ({ s2 with heap := p3 } : Shared).heap.objs.size = D + 1 from hz3]; exact Nat.lt_succ_of_lt (small b hb)⟩
  have I4 := block_start I3 ok hN f3
  have st4 : tn 0 (pushCells (p3.push { cls := .type "dict", data := .dict #[] }) scope.names) := T.keep _ _ _ st2 fun b _ o e => pushCells_keeps _ _ _ _ (Heap.get?_push_of_some _ (grow b o e))
  generalize hH3 : upd H2 D (.dT []) = H3 at I3 I4 f3 o0
  generalize hs3 : ({ s2 with heap := p3 } : Shared) = s3 at I3 I4 f3
  have e3 : s3.heap = p3 := by rw [← hs3]
  generalize hcell : cellsFrom (s3.heap.objs.size + 1) scope.names (cloFrom X.env.cells scope.names []) = cl at I4
  have pg := hg s3 H3 s3.heap.objs.size cl fp
  have pk := hk s3 H3 s3.heap.objs.size cl fp
  have pe := he s3 H3 s3.heap.objs.size cl fp
  have nfp : ∀ b ∈ fp, H3 b = none := fun b hb => (f3 b hb).1.1
  generalize hC : s3.heap.objs.size = C at I4 pg pk pe hcell
  show codeAny _ _ (.compStart (dE1 kx vx t0 i0 scope pos) 0 (.ref it) (.ref D) (compEnvC scope cl C X.env)) (compPost (model X.prog X.w) X.A X.xe use Qf (.ref D) C) { s3 with heap := pushCells (s3.heap.push { cls := .type "dict", data := .dict #[] }) scope.names }
  rw [← e3] at st4
  generalize hs4 : ({ s3 with heap := pushCells (s3.heap.push { cls := .type "dict", data := .dict #[] }) scope.names } : Shared) = s4 at I4
  have st4 : tn 0 s4.heap := by rw [← hs4]; exact st4
  have loc : (compEnvC scope cl C X.env).locals = C := rfl
  generalize compEnvC scope cl C X.env = ce at I4 pg pk pe loc
  have stat : ∀ {σ' : L2.St} {H' : Hp} {s' : Shared}, Inv (X.blk s3 H3 scope ce fp) [] σ' H' s' → (∀ b ∈ fp, H' b = none) → ∀ b ∈ fp, FpOk (X.blk s3 H3 scope ce fp) [] H' b := fun {σ' H' s'} I' hn b hb =>
    ⟨hn b hb, (I'.ok.exf b hb).1, I'.ok.exfs b hb, .inl hb, fun x c e => (I'.ok.exf b hb).2 x c e, fun p hp => nomatch (show p ∈ ([] : List (Addr × Obj)) from hp)⟩
  refine de_start ?_ fun Q E q => T.self X.A 0 s4 Q E st4 q
  refine codeAny_loop rfl (fun n s' => ∃ i H', n = N - i ∧ Inv (X.blk s3 H3 scope ce fp) [] (wipe σ (own.map (·.2))) H' s' ∧ tn i s'.heap ∧ (∀ b ∈ fp, H' b = none) ∧ O i H') (fun n s5 hI => ?_) N ⟨0, H3, rfl, I4, st4, nfp, o0⟩
  obtain ⟨i, H5, rfl, I5, st5, n5, o5⟩ := hI
  show wpAny _ X.A ((compTurn (dE1 kx vx t0 i0 scope pos) 0 (.ref it) (.ref D) ce).onRaise (fun x => do noteFrame x ce; theTreesLotGoes x)) _ _ s5
  refine wpAny_noted ?_
  rw [de_turn]
  refine wpAny_bind (wpAny_standAt (wpAny_bind ?_))
  rcases step i H5 o5 with ⟨stop, qq⟩ | ⟨hlt, go, body⟩
  · refine thnF (T.done (X.blk s3 H3 scope ce fp) rfl rfl rfl hc i [] s5 _ H5 (fun _ _ => False) I5 (stat I5 n5) st5 stop) fun r s6 ⟨hr, I6⟩ => ?_
    subst hr
    refine wpAny_pure ?_
    have I7 : Inv X pins σ H5 s6 := I3.call' (ch := fp) I6.os I6.base I6.hok I6.bare fun b hb => let z := (f3 b hb).1; ⟨z.2.2.2.1, z.2.1, z.2.2.2.2.1, z.2.2.2.2.2⟩
    have nC : H5 C = none := by rw [← loc]; exact I6.free
    obtain ⟨m, hn, _⟩ := I6.loc
    have hn' : s6.heap.Ns C m := by rw [← loc]; exact hn
    exact hRR D C s6 m H5 I7 qq hn' (I3.fpOk (Nat.le_of_eq hC) nC)
  · refine thnF (T.item (X.blk s3 H3 scope ce fp) rfl rfl rfl hc i [] s5 _ H5 (fun _ _ => False) I5 (stat I5 n5) st5 go) fun r s6 ⟨u, hr, h6⟩ => ?_
    subst hr
    refine wpAny_bind (thnF h6 fun _ s7 ⟨x, H7, I7, r7, y7, st7, n7⟩ => ?_)
    have P7 := I7.pinned (stat I7 n7) (T.obj _ _ st7)
    refine wpAny_bind (thnF (pg.run _ s7 _ H7 x u _ P7 r7 (body x H7 y7)) fun _ s8 ⟨σ8, H8, I8, hw8, q8⟩ => ?_)
    refine wpAny_bind (wpAny_bind (thnF (pk.run _ s8 σ8 H8 _ I8 q8) fun kv s15 ⟨yk, H15, I15, r15, q15⟩ => ?_))
    refine wpAny_bind (wpAny_holding (thnF (pe.run _ s15 σ8 H15 _ I15 q15) fun vv s17 ⟨yv, H17, I17, r17, kvs, k, b, ek, hb17, hD17, room, o15⟩ => ?_))
    subst ek
    obtain rfl : kv = Value.ref b := r15
    refine wpAny_bind (wpAny_standAt (wpAny_holding ?_))
    refine put_tup (X := X.blk s3 H3 scope ce fp) hu I17 hD17 hb17 room r17 fun s16 I16 => ?_
    refine wpAny_pure ⟨rfl, ?_⟩
    have pin1 : ∀ c ∈ fp, ∀ o, s7.heap.get? c = some o → s16.heap.get? c = some o ∧ (upd H17 D (.dT (putK kvs k yv))) c = none := fun c hb o e =>
      let y := I16.pin (c, o) (List.mem_append_right _ (List.mem_append_right _ (mem_pinsAt hb e)))
      ⟨y.1, y.2.1⟩
    refine ⟨N - (i + 1), by omega, i + 1, _, rfl, (I16.unpinned (pins := [])).weak (by rw [← hw8, wipe_length]) (fun j v e => by rw [← hw8] at e; exact (wipe_some e).1), T.keep _ _ _ st7 fun c hb o e => (pin1 c hb o e).1, fun c hb => ?_, o15⟩
    obtain ⟨o, e, _⟩ := T.obj _ _ st7 c hb
    exact (pin1 c hb o e).2
theorem pe_dcT (hc : X.calm = true) (hu : X.A.units < cLine) (hN : X.N.Nodup) (hi : PI X t0 i0 wi) (ok : BlkOk X.N X.env.scope scope own)
    (hg : ∀ s H C cl fp, PG (X.blk s H scope (compEnvC scope cl C X.env) fp) t0 g)
    (hk : ∀ s H C cl fp, PE (X.blk s H scope (compEnvC scope cl C X.env) fp) kx tk) (he : ∀ s H C cl fp, PE (X.blk s H scope (compEnvC scope cl C X.env) fp) vx tv)
    (hs : ∀ x, foldedSetIterable i0 X.env x = pure x := by intro _; rfl) :
    PE X (dE1 kx vx t0 i0 scope pos) (tDcT wi g tk tv (own.map (·.2))) := by
  refine ⟨fun pins s σ H Q I h => ?_⟩
  rw [arm_eval_DictComp]
  refine dcT_core hc hu hN I ok hi hg hk he hs h fun D C s' m H' I' q hn f => ⟨m, hn, fun h'' sb => ?_⟩
  obtain ⟨f0, f1, f2, f3, f4, f5⟩ := f
  exact ⟨.ref D, H', I'.turned (t' := s'.toks) (fun b o hb e => (sb.2 b hb).trans e) f0 f1 f3 f4 f5, rfl, q⟩
theorem ps_setDcT {i : Nat} {y : Str} {py spos : Pos} (hc : X.calm = true) (hu : X.A.units < cLine) (hN : X.N.Nodup) (hy : X.N[i]? = some y) (hyl : X.env.scope.names.lookup y = some .local)
    (hsw : swapsWith (dE1 kx vx t0 i0 scope pos) (some (.Name y py)) spos.line X.env = pure true) (hi : PI X t0 i0 wi) (ok : BlkOk X.N X.env.scope scope own)
    (hg : ∀ s H C cl fp, PG (X.blk s H scope (compEnvC scope cl C X.env) fp) t0 g)
    (hk : ∀ s H C cl fp, PE (X.blk s H scope (compEnvC scope cl C X.env) fp) kx tk) (he : ∀ s H C cl fp, PE (X.blk s H scope (compEnvC scope cl C X.env) fp) vx tv)
    (hs : ∀ x, foldedSetIterable i0 X.env x = pure x := by intro _; rfl) :
    PS X (.Assign [.Name y py] (dE1 kx vx t0 i0 scope pos) spos) (tAsg (tDcT wi g tk tv (own.map (·.2))) (gName i)) := by
  refine ⟨fun pins s σ H D I h => ?_⟩
  rw [exec_Assign_Name_used _ _ _ _ hsw]
  refine wpAny_bind (wpAny_standAt (wpAny_bind ?_))
  show wpAny _ X.A (do let _ ← comprehension (dE1 kx vx t0 i0 scope pos) scope X.env (firstIterPos [⟨t0, i0, [], 0⟩] pos) newDict false (eval i0 X.env) (some (assign (.Name y py) X.env))) _ _ s
  have h : tDcT wi g tk tv (own.map (·.2)) σ H (fun x H1 => gName i x σ H1 D.nx) := h
  refine wpAny_bind (thn (dcT_core (Qf := fun _ s' => SP X pins D .next s') hc hu hN I ok hi hg hk he hs h fun L C s' m H' I' q hn f => ?_) fun _ s' hq => wpAny_pure (wpAny_pure hq))
  show wpAny _ _ (assign (.Name y py) X.env (.ref L)) _ _ _
  refine wpAny_assign_Name (store_ok2 (v := V.ref L) I' hN hy (.inl hyl) rfl (fun s2 I2 ⟨a, sb, ha⟩ => ?_) (.inr hyl))
  obtain ⟨f0, f1, f2, f3, f4, f5⟩ := f
  have haC : C ≠ a := by
    rcases ha with z | z
    · rw [z]; exact f1
    · exact fun e => f4 y a z e.symm
  refine ⟨m, hn.sameBut sb haC, fun h3 sb3 => ?_⟩
  exact ⟨_, H', I2.turned (t' := s2.toks) (fun b o hb e => (sb3.2 b hb).trans e) f0 f1 f3 f4 f5, q⟩
end
def kDcT (g : TG) (tk tv : TE) (vs : List Nat) (σ : L2.St) (Q : VK) : It → Hp → Prop := fun J H1 => ∀ D, H1 D = none → ∃ (N : Nat) (O : Nat → Hp → Prop), O 0 (upd H1 D (.dT [])) ∧
  ∀ i H, O i H → (J.stop i H ∧ Q (.ref D) H) ∨ (i < N ∧ J.go i H ∧ ∀ x H', J.yld i H x H' → g x (wipe σ vs) H' fun σ2 H2 => wipe σ2 vs = wipe σ vs ∧
    tk σ2 H2 fun y H6 => tv σ2 H6 fun z H7 => ∃ kvs k b, y = .ref b ∧ H7 b = some (.tup (k.map kV)) ∧ H7 D = some (.dT kvs) ∧ kvs.length < sizeLine ∧ O (i + 1) (upd H7 D (.dT (putK kvs k z))))
theorem v_dcT {wi : TI} {g : TG} {tk tv : TE} {vs : List Nat} {σ : L2.St} {H : Hp} {Q : VK} (q : wi σ H (kDcT g tk tv vs σ Q)) : tDcT wi g tk tv vs σ H Q := q
/-- by an invariant -/
theorem dcT_it {σ : L2.St} {H : Hp} {Q : VK} {g : TG} {tk tv : TE} {vs : List Nat} {J : It} {Gd : Hp → Prop} {n : Nat} {Y : Nat → Hp → V → Hp → Prop} (w : Walk J n Gd Y) (Pv : Addr → Nat → Hp → Prop) (h0 : ∀ D, H D = none → Pv D 0 (upd H D (.dT []))) (hG : ∀ D i H', i ≤ n → Pv D i H' → Gd H')
    (hs : ∀ D i x H1 H', H D = none → i < n → Pv D i H1 → Y i H1 x H' → g x (wipe σ vs) H' fun σ2 H2 => wipe σ2 vs = wipe σ vs ∧ tk σ2 H2 fun y H4 => tv σ2 H4 fun z H5 => ∃ kvs k b, y = .ref b ∧ H5 b = some (.tup (k.map kV)) ∧ H5 D = some (.dT kvs) ∧ kvs.length < sizeLine ∧ i + 1 ≤ n ∧ Pv D (i + 1) (upd H5 D (.dT (putK kvs k z))))
    (hd : ∀ D H', H D = none → Pv D n H' → Q (.ref D) H') : kDcT g tk tv vs σ Q J H := by
  intro D hD
  refine ⟨n, fun i H' => i ≤ n ∧ Pv D i H', ⟨Nat.zero_le _, h0 D hD⟩, fun i H1 ⟨hi, p⟩ => ?_⟩
  have q := hG D i H1 hi p
  by_cases hlt : i < n
  · exact .inr ⟨hlt, w.goes i H1 hlt q, fun x H' y => hs D i x H1 H' hD hlt p (w.yields i H1 x H' hlt q y)⟩
  · obtain rfl : i = n := by omega
    exact .inl ⟨w.stops H1 q, hd D H1 hD p⟩
end Sh
namespace L2
open PySem PySem.Spec PyProof.Rows
section
variable {X : Cx}
theorem repr_ints {prog : Program} {w : World} : ∀ {l : List Int} {its : List Value}, Vals (l.map V.int) its → (∀ y ∈ l, Sh.Sm y) → ReprAll prog w its (l.map fun i => (toString i : Str))
  | [], _, r, _ => by
    cases r
    exact .nil
  | y :: l, _, r, h => by
    cases r with
    | cons r1 r2 =>
      obtain ⟨t, rfl⟩ := r1
      have hy := h y List.mem_cons_self
      exact .cons (ReprIs.int t (Sh.num_log hy.1 hy.2)) (repr_ints r2 fun z hz => h z (List.mem_cons_of_mem _ hz))
theorem piled_ints : ∀ l : List Int, (∀ y ∈ l, Sh.Sm y) → piled (l.map fun i => (toString i : Str)) ≤ 10 * l.length
  | [], _ => Nat.zero_le _
  | y :: l, h => by
    have hy := h y List.mem_cons_self
    have h1 := Sh.num_len hy.1 hy.2
    have h2 := piled_ints l fun z hz => h z (List.mem_cons_of_mem _ hz)
    rw [List.map_cons, piled_cons, List.length_cons]
    omega
/-- {t}, t a tuple of small ints: some short text -/
def tFmtI (K : PySem.W.Frag) (te : TE) : TE := fun σ H Q => te σ H fun x H1 => ∃ (a : Addr) (l : List Int), x = .ref a ∧ SqT K H1 a (l.map V.int) ∧ (∀ y ∈ l, Sh.Sm y) ∧ l.length ≤ 90 ∧ ∀ m : Str, m.length ≤ 1000 → Q (.str m) H1
theorem pe_fmtI {e : Expr} {te : TE} {pos : Pos} {k : Nat} (hr : Room k X.A) (he : PE X e te) : PE X (.FormattedValue e (-1) none pos) (tFmtI X.K te) := by
  refine ⟨fun pins s σ H Q I h => ?_⟩
  refine wpAny_FormattedValue_plain (thn (he.run pins s σ H _ I h) fun v s1 hv => ?_)
  obtain ⟨x, H1, I1, r1, a, l, rfl, ht, hc, hz, q⟩ := hv
  cases r1
  obtain ⟨its, rv, ⟨o, ho, hcl, n, hd⟩, _⟩ := I1.tuple ht
  have hp := piled_ints l hc
  have htx := fmt_text (l.map fun i => (toString i : Str))
  have hu := hr.units
  have hsz : (tupleText (l.map fun i => (toString i : Str))).length ≤ sizeLine := Nat.le_trans (Nat.le_trans htx (Nat.add_le_add_right hp 2)) (Sh.sz_of (by omega))
  exact fmt_tuple (ts := l.map fun i => (toString i : Str)) (by omega) ho hcl hd (repr_ints rv hc) hsz fun m u tk hm => ⟨.str m, H1, I1.tok _, ⟨u, rfl⟩, q m (by omega)⟩
end
end L2
namespace Sh
open PySem PySem.Spec PyProof.Rows L2
theorem J_t {K : PySem.W.Frag} {σ : L2.St} {H : Hp} {Q : Str → Hp → Prop} {t : TE} {ts : List TE} {n : Nat} {a : Addr} {l : List Int} (hl : SqT K H a (l.map V.int)) (hs : ∀ y ∈ l, Sm y) (hz : l.length ≤ 90) (hn : n ≤ 90000) (e : ∀ Qv : VK, Qv (.ref a) H → t σ H Qv) (q : J (n + 1000) ts σ H Q) : J n (tFmtI K t :: ts) σ H Q := fun acc ha =>
  v_js (e _ ⟨a, l, rfl, hl, hs, hz, fun m hm => v_kJ (fits (app_le ha hm) (by omega)) (q _ (app_le ha hm))⟩)
end Sh
namespace Sh
open PySem PySem.Spec PyProof.Rows L2
theorem hu0 {A : Around} {k : Nat} (hr : Room k A) : A.units < cLine := Nat.lt_of_succ_lt (hu1 hr)
section
variable {X : Cx} {K : PySem.W.Frag}
theorem op_ltTK (h : X.K = K) (hu : X.A.units < cLine) : OpR X (compareOp .Lt) (rLtT K) := h ▸ op_ltT hu
theorem op_inDK (h : X.K = K) (hu : X.A.units + 64 < cLine) : OpR X (compareOp .In) (rInD K) := h ▸ op_inD hu
variable {σ : L2.St} {H : Hp} {Q : VK}
theorem v_ltT {a b : Addr} {ns ms : List Int} (ha : SqT K H a (ns.map V.int)) (hb : SqT K H b (ms.map V.int)) (q : Q (.bl (HT.lexLt ns ms)) H) : rLtT K (.ref a) (.ref b) H Q := ⟨a, b, ns, ms, rfl, rfl, ha, hb, q⟩
theorem int_any (x : List Int) : ∀ ls : List (List Int), ((ls.map fun l => PyData.tuple (iD l)).any fun e => PyData.eqv e (.tuple (iD x))) = decide (x ∈ ls)
  | [] => by simp
  | l :: ls => by
    have ih := int_any x ls
    rw [List.map_cons, List.any_cons, ih]
    have e : PyData.eqv (PyData.tuple (iD l)) (.tuple (iD x)) = decide (x = l) := by
      rw [show PyData.eqv (.tuple (iD l)) (.tuple (iD x)) = PyData.eqvAll (iD l) (iD x) by simp [PyData.eqv], eqv_ints]
      exact decide_eq_decide.mpr ⟨fun h => h.symm, fun h => h.symm⟩
    rw [e]
    by_cases h : x = l
    · subst h; simp
    · simp [h]
theorem iD_plain : ∀ l : List Int, PyData.plainAll (iD l) = true
  | [] => rfl
  | i :: l => by
    have := iD_plain l
    simpa [iD, PyData.plainAll, PyData.plain] using this
theorem iDs_plain : ∀ ls : List (List Int), PyData.plainAll (ls.map fun l => PyData.tuple (iD l)) = true
  | [] => rfl
  | l :: ls => by
    have h1 := iDs_plain ls
    have h2 := iD_plain l
    simp [PyData.plainAll, PyData.plain, h1, h2]
theorem iD_depth : ∀ l : List Int, (PyData.tuple (iD l)).depth ≤ 60 := fun l => by
  have : PyData.depthAll (iD l) ≤ 1 := by
    induction l with
    | nil => simp [iD, PyData.depthAll]
    | cons i l ih =>
      have : iD (i :: l) = .int i :: iD l := rfl
      rw [this]
      simp only [PyData.depthAll, PyData.depth]
      omega
  simp only [PyData.depth]
  omega
/-- x in a tuple or a list of tuples of ints -/
theorem v_inTs {p b : Addr} {as : List (Addr × List Int)} {x : List Int} (h : SqL K H p (as.map rV) ∨ SqT K H p (as.map rV)) (lt : LTup H as) (hb : H b = some (.tup (x.map V.int))) (q : Q (.bl (decide (x ∈ as.map (·.2)))) H) : rInD K (.ref b) (.ref p) H Q :=
  ⟨p, _, _, _, rfl, h, LTup.dp lt, .tup (SqT.of hb) (dp_ints x), iDs_plain _, iD_plain x, iD_depth x, by rw [int_any]; exact q⟩
theorem v_ixLm1 {p : Addr} {xs : List V} {v : V} (hs : SqL K H p xs) (h : xs[xs.length - 1]? = some v) (q : Q v H) : rIxL K (.ref p) (.int (-1)) H Q := by
  have hl := (List.getElem?_eq_some_iff.mp h).1
  have he := (List.getElem?_eq_some_iff.mp h).2
  refine v_ixLlast (fun x : V => x) (xs := xs.dropLast) (v := v) ?_ q
  have hne : xs ≠ [] := fun e => by rw [e] at hl; exact absurd hl (by decide)
  have : xs.dropLast ++ [v] = xs := by
    conv => rhs; rw [← List.dropLast_concat_getLast hne]
    rw [List.getLast_eq_getElem, he]
  rw [this, List.map_id']
  exact hs
end
end Sh

namespace Sh
open PySem PySem.Spec PyProof.Rows L2
theorem mo_din {ty td : TE} (h1 : MoE ty) (h2 : MoE td) : MoE (tDIn ty td) := fun σ H Q Q' m q => h1 _ _ _ _ (fun y H1 q => h2 _ _ _ _ (fun x H2 ⟨a, o, e1, e2, q⟩ => ⟨a, o, e1, e2, m _ _ q⟩) q) q
theorem mo_dnin {ty td : TE} (h1 : MoE ty) (h2 : MoE td) : MoE (tDNotIn ty td) := fun σ H Q Q' m q => h1 _ _ _ _ (fun y H1 q => h2 _ _ _ _ (fun x H2 ⟨a, o, e1, e2, q⟩ => ⟨a, o, e1, e2, m _ _ q⟩) q) q
theorem mo_dget {ty td : TE} (h1 : MoE td) (h2 : MoE ty) : MoE (tDGet td ty) := fun σ H Q Q' m q => h1 _ _ _ _ (fun y H1 q => h2 _ _ _ _ (fun x H2 ⟨a, o, e1, e2, q⟩ => ⟨a, o, e1, e2, m _ _ q⟩) q) q
end Sh
namespace Sh
open PySem PySem.Spec PyProof.Rows L2
/-! ### sorted of a tuple of texts -/
theorem sorted_tupS {prog : Program} {w : World} {A : Around} {E : Value → Shared → Prop} {s : Shared} {a : Addr} {its : List Value} {zs : List Str} {Q : Value → Shared → Prop} (hT : IsTup s.heap a its.toArray) (hS : StrsAre its zs) (hL : its.length ≤ sizeLine)
    (q : ∀ (h1 h' : Heap) (p : Addr) (out : Array Value) (c : Nat) (ys : List Str), (∀ b o, s.heap.get? b = some o → h1.get? b = some o) → (∀ b o, h1.get? b = some o → h'.get? b = some o) → h1.objs.size ≤ p → h'.get? p = some (seqObj "list" out c) → StrsAre out.toList ys → ys.Perm zs → sortedS ys = true → Q (.ref p) { s with heap := h' }) :
    wpAny (model prog w) A (call (.builtin "sorted") [.ref a]) Q E s := by
  obtain ⟨o, ho, hc, n, hd⟩ := hT
  refine Calls.call_function_entry kind_sorted plain_sorted entry_sorted (args_sorted1 _) ?_
  unfold Builtin.«sorted»
  refine wpAny_bind (m := checkCount "sorted" 1 1 _) (wpAny_pure (wpAny_bind (wpAny_collect_seq a (.inr rfl) ho hc hd (fun h1 k1 => ?_) (by simpa using hL))))
  refine wpAny_bind (wpAny_newList ?_ (by simpa using hL))
  have hoL : (h1.push (seqObj "list" its.toArray 0)).get? h1.objs.size = some (seqObj "list" its.toArray 0) := Heap.get?_push_size _ rfl
  have e2 : wpAny (model prog w) A.in1.in1 (Builtin.«list.sort» ⟨[.ref h1.objs.size], []⟩) (fun r s2 => ∃ (out : Array Value) (ys : List Str), r = .done (.ret .none) ∧ s2 = { s with heap := sortedHeap (h1.push (seqObj "list" its.toArray 0)) h1.objs.size its out } ∧ StrsAre out.toList ys ∧ ys.Perm zs ∧ sortedS ys = true) E { s with heap := h1.push (seqObj "list" its.toArray 0) } := by
    refine list_sort_treeKAny strKind_oneLt (s := { s with heap := h1.push (seqObj "list" its.toArray 0) }) hoL hS.keysOf (fun v₁ v₂ rest e => keyKind_strs (by rw [← e]; exact hS)) hL fun st' a1 a2 => ?_
    obtain ⟨ys, y1, y2, y3⟩ := sorted_out_str hS a1 a2
    exact ⟨_, ys, rfl, rfl, y1, y2, y3⟩
  refine wpAny_bind (wpAny_holding (wpAny_call_entry slot_list_sort ⟨_, hoL, rfl⟩ entry_list_sort (wpAny_mono e2 (fun r s2 h => ?_) fun _ _ e => e) (args_list_sort _)))
  obtain ⟨out, ys, rfl, rfl, y1, y2, y3⟩ := h
  obtain ⟨c, hcx⟩ := sortedHeap_at (vs := its) (out := out) hoL
  refine ⟨_, rfl, wpAny_pure ⟨_, rfl, q h1 _ h1.objs.size out c ys k1 (fun b u e => ?_) (Nat.le_refl _) hcx y1 y2 y3⟩⟩
  have hlt := Heap.lt_size e
  show (sortedHeap (h1.push (seqObj "list" its.toArray 0)) h1.objs.size its out).get? b = some u
  rw [sortedHeap_old (Nat.ne_of_lt hlt) (by rw [size_push']; exact Nat.lt_succ_of_lt hlt)]
  exact Heap.get?_push_of_some _ e
def rSortXT (K : PySem.W.Frag) : List V → Hp → VK → Prop := fun vs H Q => ∃ (a : Addr) (xs : List (List Nat)), vs = [V.ref a] ∧ SqT K H a (xs.map tV) ∧
  ∀ (ys : List (List Nat)) (p : Addr), ys.Perm xs → ys.Pairwise (fun a b : List Nat => a ≤ b) → H p = none → Q (.ref p) (upd H p (.lst (ys.map tV)))
theorem cr_sortXT {X : Cx} : CallR X (.builtin "sorted") (rSortXT X.K) := by
  intro pins s σ H vs us Q I r h
  obtain ⟨a, xs, rfl, hs, q⟩ := h
  rw [tV_map] at hs
  obtain ⟨its, rv, hT, hz⟩ := I.tuple hs
  rw [Vals.ref1 r]
  have hlen0 := rv.length
  rw [List.length_map, List.length_map] at hlen0 hz
  refine sorted_tupS hT rv.strs (by rw [← hlen0]; exact hz) fun h1 h' p out c ys k1 k hp hg hi h2 h3 => ?_
  have e2 : ys.length = xs.length := by rw [h2.length_eq, List.length_map]
  have hlen : (ys.map V.str).length ≤ sizeLine := by rw [List.length_map, e2]; exact hz
  have hperm : (ys.map (·.cps.toList)).Perm xs := by
    have := h2.map (fun z : Str => z.cps.toList)
    rw [List.map_map] at this
    have e : (xs.map ((fun z : Str => z.cps.toList) ∘ S)) = xs := by
      conv => rhs; rw [← List.map_id xs]
      exact List.map_congr_left fun x _ => S_list x
    rw [e] at this
    exact this
  have I1 : Inv X pins σ H { s with heap := h1 } := I.kept (t' := s.toks) k1
  have q2 := q (ys.map (·.cps.toList)) p hperm (sorted_le _ (by rw [map_S_inv]; exact h3)) (I1.hok.fresh hp)
  rw [tV_map, map_S_inv] at q2
  exact ⟨.ref p, upd H p (.lst (ys.map V.str)), I1.laid (t' := s.toks) k hp ⟨hlen, out.toList, c, vals_of_strs hi, hg⟩, rfl, q2⟩
theorem v_sortXT {K : PySem.W.Frag} {H : Hp} {Q : VK} {a : Addr} {xs : List (List Nat)} (hs : SqT K H a (xs.map tV)) (q : ∀ (ys : List (List Nat)) (p : Addr), ys.Perm xs → ys.Pairwise (fun a b : List Nat => a ≤ b) → H p = none → Q (.ref p) (upd H p (.lst (ys.map tV)))) : rSortXT K [.ref a] H Q := ⟨a, xs, rfl, hs, q⟩
end Sh

namespace Sh
open PySem PySem.Spec PyProof.Rows L2
/-! ### truth of a number, ord, bits -/
def tTru (K : PySem.W.Frag) (t : TE) : TT := fun σ H Q => t σ H fun x H' => ∃ k, TruV K x H' k ∧ Q k H'
theorem pt_tru {X : Cx} {a : Expr} {ta : TE} (ha : PE X a ta) (he : ∀ whole, isTrue a X.env whole = (do let v ← whole; standAt a.pos; holding [v] (truthy v))) : PT X a (tTru X.K ta) := pt_truth ha he
def kTru (K : PySem.W.Frag) (Q : Bool → Hp → Prop) : VK := fun x H' => ∃ k, TruV K x H' k ∧ Q k H'
section
variable {K : PySem.W.Frag} {σ : L2.St} {H : Hp} {Q : Bool → Hp → Prop} {t : TE} {Qv : VK}
theorem v_tru (q : t σ H (kTru K Q)) : tTru K t σ H Q := q
theorem v_kTru {i : Int} (q : Q (decide (i ≠ 0)) H) : kTru K Q (.int i) H := ⟨decide (i ≠ 0), by show _ = (i != 0); by_cases h : i = 0 <;> simp [h], q⟩
def rOrd : List V → Hp → VK → Prop := fun xs H Q => ∃ x, xs = [.str x] ∧ x.length = 1 ∧ Q (.int (x.cps.getD 0 0 : Nat)) H
theorem cr_ord {X : Cx} : CallR X (.builtin "ord") rOrd := call_ord
theorem v_ord {c : Nat} (q : Qv (.int (c : Nat)) H) : rOrd [.str (S [c])] H Qv := ⟨S [c], rfl, by rw [S_len]; rfl, q⟩
theorem v_shr {i : Int} {j : Nat} (q : Qv (.int (i / 2 ^ j)) H) : rI (fun _ j => 0 ≤ j) (fun i j => .int (i / 2 ^ j.toNat)) (.int i) (.int (j : Int)) H Qv := ⟨i, j, rfl, rfl, Int.natCast_nonneg _, by show Qv (.int (i / 2 ^ ((j : Int).toNat))) H; rw [Int.toNat_natCast]; exact q⟩
theorem v_shl {i : Int} {j : Nat} (hi : i.natAbs < 2 ^ 64) (hj : j ≤ 1000000) (q : Qv (.int (i * 2 ^ j)) H) : rI CPow (fun i j => .int (i * 2 ^ j.toNat)) (.int i) (.int (j : Int)) H Qv := ⟨i, j, rfl, rfl, ⟨Int.natCast_nonneg _, by omega, hi⟩, by show Qv (.int (i * 2 ^ ((j : Int).toNat))) H; rw [Int.toNat_natCast]; exact q⟩
theorem and_nat (a b : Nat) : Builtin.bitAnd (a : Int) (b : Int) = ((a &&& b : Nat) : Int) := by
  unfold Builtin.bitAnd
  rw [decide_eq_true (Int.natCast_nonneg a), decide_eq_true (Int.natCast_nonneg b)]
  rfl
theorem pow_nat (k : Nat) : (2 : Int) ^ k = ((2 ^ k : Nat) : Int) := by rw [Int.natCast_pow]; rfl
theorem div_nat (a k : Nat) : (a : Int) / 2 ^ k = ((a / 2 ^ k : Nat) : Int) := by rw [pow_nat, Int.natCast_ediv]
theorem mul_nat (a k : Nat) : (a : Int) * 2 ^ k = ((a * 2 ^ k : Nat) : Int) := by rw [pow_nat, Int.natCast_mul]
end
end Sh

namespace Sh
open PySem PySem.Spec PyProof.Rows L2
/-! ### a op b op c op d, as a value -/
def tCh3E (r r' r'' : R2) (ta tb tc td : TE) : TE := fun σ H Q => ta σ H fun x H1 => tb σ H1 fun y H2 => r x y H2 (kB fun k H3 => kIf k (tc σ H3 fun z H4 => r' y z H4 (kB fun k2 H5 => kIf k2 (td σ H5 fun u H6 => r'' z u H6 Q) (Q (.bl false) H5))) (Q (.bl false) H3))
theorem v_ch3 {r r' r'' : R2} {ta tb tc td : TE} {σ : L2.St} {H : Hp} {Q : VK} (q : ta σ H fun x H1 => tb σ H1 fun y H2 => r x y H2 (kB fun k H3 => kIf k (tc σ H3 fun z H4 => r' y z H4 (kB fun k2 H5 => kIf k2 (td σ H5 fun u H6 => r'' z u H6 Q) (Q (.bl false) H5))) (Q (.bl false) H3))) : tCh3E r r' r'' ta tb tc td σ H Q := q
theorem pe_chain3 {X : Cx} {a b c d : Expr} {ta tb tc td : TE} {pos : Pos} {op op' op'' : CmpOp} {r r' r'' : R2} (ho : OpR X (compareOp op) r) (ho' : OpR X (compareOp op') r') (ho2 : OpR X (compareOp op'') r'') (ha : PE X a ta) (hb : PE X b tb) (hc : PE X c tc) (hd : PE X d td)
    (hm : lastMarks [op, op', op''] [b, c, d] = false := by with_unfolding_all rfl) : PE X (.Compare a [op, op', op''] [b, c, d] pos) (tCh3E r r' r'' ta tb tc td) := by
  refine ⟨fun pins s σ H Q I h => ?_⟩
  refine Compare_chain (thn (ha.run pins s σ H _ I h) fun v s1 ⟨x, H1, I1, r1, q1⟩ => chain_link (thn (hb.run pins s1 σ H1 _ I1 q1) fun u s2 ⟨y, H2, I2, r2, q2⟩ =>
    thn (ho pins s2 σ H2 x y v u _ I2 r1 r2 q2) fun d s3 ⟨z, H3, I3, r3, k, e, q3⟩ => ?_)) hm
  subst e
  cases r3
  refine wpAny_truthy_bool ?_
  cases k with
  | false => exact ite_ff ⟨.bl false, H3, I3, rfl, q3⟩
  | true =>
    refine ite_tt (chain_link (thn (hc.run pins s3 σ H3 _ I3 q3) fun w' s4 ⟨z', H4, I4, r4, q4⟩ => thn (ho' pins s4 σ H4 y z' u w' _ I4 r2 r4 q4) fun d' s5 ⟨z2, H5, I5, r5, k2, e2, q5⟩ => ?_))
    subst e2
    cases r5
    refine wpAny_truthy_bool ?_
    cases k2 with
    | false => exact ite_ff ⟨.bl false, H5, I5, rfl, q5⟩
    | true => exact ite_tt (chain_last (thn (hd.run pins s5 σ H5 _ I5 q5) fun w2 s6 ⟨z3, H6, I6, r6, q6⟩ => ho2 pins s6 σ H6 z' z3 w' w2 Q I6 r4 r6 q6))
end Sh

namespace Sh
open PySem PySem.Spec PyProof.Rows L2
section
variable {K : PySem.W.Frag} {σ : L2.St} {H : Hp} {tt : TT} {te : TE} {Q : VK}
/-! ### over a tuple, unpacked: the parts are new tuples of ints -/
theorem lc_TB {α : Type} (G : α → V) {a : Addr} {xs : List α} {g : TG} {vs : List Nat} (st : α → L2.St) (p : α → Bool) (f : α → List Int) (hx : H a = some (.tup (xs.map G))) (hn : xs.length ≤ sizeLine)
    (hg : ∀ x H', x ∈ xs → Same H H' → ∀ P : L2.St → Hp → Prop, P (st x) H' → g (G x) (wipe σ vs) H' P) (hw : ∀ x, wipe (st x) vs = wipe σ vs)
    (ht : ∀ x H', x ∈ xs → Same H H' → ∀ Qb : Bool → Hp → Prop, (∀ H2, Same H' H2 → Qb (p x) H2) → tt (st x) H' Qb)
    (he : ∀ x H', x ∈ xs → p x = true → Same H H' → ∀ Qv : VK, (∀ T H2, Same H' H2 → H2 T = some (.tup ((f x).map V.int)) → Qv (.ref T) H2) → te (st x) H' Qv)
    (hd : ∀ L as H2, H L = none → Same H H2 → H2 L = some (.lst (as.map rV)) → LTup H2 as → as.map (·.2) = (xs.filter p).map f → Q (.ref L) H2) : kLc g tt te vs σ Q (Itt K a) H := by
  refine lc_gen xs.length (fun L i acc H' => AsI H L (((xs.take i).filter p).map f) acc H') (fun L hL => AsI.new hL) (fun L acc H' hL hI => ⟨_, SqT.of (hI.1 _ _ hx), by rw [List.length_map]; exact Nat.le_refl _⟩)
    (fun L i acc H' hL hi hI => ⟨_, G xs[i], SqT.of (hI.1 _ _ hx), by rw [List.getElem?_map, List.getElem?_eq_getElem hi]; rfl⟩) ?_ ?_
  · rintro L i acc H' hL hi hLe hI v H2 ⟨rfl, hv⟩ Kp Kn hp hnn
    have ev := hv _ (SqT.of (hI.1 _ _ hx))
    rw [List.getElem?_map, List.getElem?_eq_getElem hi] at ev
    cases Option.some.inj ev
    have hm : xs[i] ∈ xs := List.getElem_mem hi
    refine hg _ _ hm hI.1 _ ⟨hw _, ht _ _ hm hI.1 _ fun H3 s3 => ?_⟩
    have hI3 := hI.same s3
    have hL3 := s3 _ _ hLe
    have er : xs.take (i + 1) = xs.take i ++ [xs[i]] := by rw [List.take_add_one, List.getElem?_eq_getElem hi]; rfl
    by_cases hpi : p xs[i] = true
    · rw [hpi, if_pos rfl]
      refine he _ _ hm hpi hI3.1 _ fun T H4 s4 hT => hp _ _ (s4 _ _ hL3) ?_ ?_
      · rw [hI.len, List.length_map]
        have := List.length_filter_le p (xs.take i)
        rw [List.length_take] at this
        omega
      · have := (hI3.same s4).put hL (s4 _ _ hL3) hT
        rw [er, List.filter_append, List.map_append]
        simpa [hpi] using this
    · rw [if_neg hpi]
      refine hnn _ hL3 ?_
      rw [er, List.filter_append, List.map_append]
      simpa [hpi] using hI3
  · rintro L acc H' hL hLe ⟨sm, as, rfl, lt, e⟩
    rw [List.take_length] at e
    exact hd L as H' hL sm hLe lt e
end
end Sh
namespace Sh
open PySem PySem.Spec PyProof.Rows L2 HT
/-! ### t[::-1] of a tuple -/
section
variable {prog : Program} {w : World} {A : Around} {E : Value → Shared → Prop} {s : Shared}
theorem pick_rev (xs : Array Value) : ((List.range xs.size).filterMap fun (m : Nat) => xs[(((xs.size : Int) - 1) + (m : Int) * (-1)).toNat]?).toArray = xs.toList.reverse.toArray := by
  congr 1
  have h : ∀ (l : List Nat), (∀ m, m ∈ l → m < xs.size) → (l.filterMap fun (m : Nat) => xs[(((xs.size : Int) - 1) + (m : Int) * (-1)).toNat]?) = l.map fun m => xs.getD (xs.size - 1 - m) .none := by
    intro l
    induction l with
    | nil => intro _; rfl
    | cons m l ih =>
      intro hl
      have hm := hl m List.mem_cons_self
      have e : (((xs.size : Int) - 1) + (m : Int) * (-1)).toNat = xs.size - 1 - m := by omega
      have hlt : xs.size - 1 - m < xs.size := by omega
      rw [List.filterMap_cons, e, Array.getElem?_eq_getElem hlt, List.map_cons, ih fun k hk => hl k (List.mem_cons_of_mem _ hk)]
      simp [Array.getD, hlt]
  rw [h _ fun m hm => List.mem_range.mp hm]
  refine List.ext_getElem (by simp) fun i h1 h2 => ?_
  have hi : i < xs.size := by simpa using h1
  have hlt : xs.size - 1 - i < xs.size := by omega
  simp [Array.getD, hlt, List.getElem_reverse]
theorem getItem_tuple_rev {t sl : Addr} {u : Tok} {items : Array Value} {Q : Value → Shared → Prop} (ht : IsTup s.heap t items) (hs : s.heap.IsSliceOf sl .none .none (.int (-1) u))
    (h : Q (.ref s.heap.objs.size) { s with heap := s.heap.push { cls := .type "tuple", data := .seq items.toList.reverse.toArray } })
    (hsz : items.size ≤ sizeLine) : wpAny (model prog w) A (getItem (.ref t) (.ref sl)) Q E s := by
  have htake : sizeOk (.seq items.toList.reverse.toArray) := by
    show items.toList.reverse.toArray.size ≤ sizeLine
    rw [List.size_toArray, List.length_reverse, Array.length_toList]
    exact hsz
  obtain ⟨os, hos, hcs, hds⟩ := id hs
  have hTs : s.TypeIs (.ref sl) "slice" := ⟨os, hos, hcs⟩
  unfold getItem
  try with_reducible refine wpAny_holding ?_
  first | refine wpAny_bind (wpAny_pure ?_) | skip
  refine wpAny_bind (wpAny_sequenceKey ht.typeIs (by decide) ?_)
  refine wpAny_bind (wpAny_callSpecial?_slot (name := Str.ofString "__getitem__") ht.typeIs PyProof.Rows.slot_tuple_getitem
    (wpAny_call_entry PyProof.Rows.slot_tuple_getitem ht.typeIs entry_tuple_getitem ?_ (args_tuple_getitem _ _)))
  show wpAny _ _ (Builtin.Tuple.tupleItemsOf (.ref t) >>= _) _ _ s
  refine wpAny_bind (tupleItemsOf_ ht ?_)
  refine wpAny_bind (wpAny_typeOf hTs ?_)
  rw [if_pos (by decide)]
  have hap : ∀ {R : Int × Int × Nat → Shared → Prop}, R ((items.size : Int) - 1, -1, items.size) s → wpAny (model prog w) A.in1 (Builtin.Slice.sliceApplied (.ref sl) (pure (items.size : Int))) R (fun e s' => E e s') s := fun {R} hR => by
    unfold Builtin.Slice.sliceApplied Builtin.Slice.sliceFields
    refine wpAny_bind (wpAny_bind (wpAny_field hos hds (x := .none) rfl (wpAny_bind (wpAny_field hos hds (x := .none) rfl (wpAny_bind (wpAny_field hos hds (x := .int (-1) u) rfl (wpAny_pure ?_)))))))
    refine wpAny_bind (slicePart_int ?_)
    show wpAny _ _ (if ((-1 : Int) == 0) = true then _ else _) _ _ s
    rw [if_neg (by decide)]
    refine wpAny_bind (slicePart_none (wpAny_bind (slicePart_none (wpAny_bind (wpAny_pure ?_)))))
    show wpAny _ _ (pure ((items.size : Int) - 1, (-1 : Int), Builtin.Slice.slicePlaces ((items.size : Int) - 1) (-1) (-1))) _ _ s
    have e : Builtin.Slice.slicePlaces ((items.size : Int) - 1) (-1) (-1) = items.size := by
      unfold Builtin.Slice.slicePlaces
      rw [if_neg (by decide)]
      split
      · simp only [Int.neg_neg, Int.ediv_one]
        omega
      · omega
    rw [e]
    exact wpAny_pure hR
  refine wpAny_bind (hap ?_)
  have hno : ¬ ((((items.size : Int) - 1) == 0 && (-1 : Int) == 1 && items.size == items.size) = true) := by simp
  show wpAny _ _ (if (((items.size : Int) - 1) == 0 && (-1 : Int) == 1 && items.size == items.size) = true then _ else _) _ _ s
  rw [if_neg hno, pick_rev]
  first
    | exact wpAny_bind (m := Builtin.Tuple.tupleExact _) (wpAny_newObj_type (wpAny_pure ⟨_, rfl, wpAny_pure h⟩) htake)
    | exact wpAny_bind (m := Builtin.Tuple.tupleExact _) (wpAny_newObj_type (wpAny_bind (wpAny_pure (wpAny_pure ⟨_, rfl, wpAny_pure h⟩))) htake)
    | exact wpAny_bind (wpAny_bind (m := Builtin.Tuple.tupleExact _) (wpAny_newObj_type (wpAny_pure (wpAny_pure ⟨_, rfl, wpAny_pure h⟩)) htake))
    | exact wpAny_bind (wpAny_bind (m := Builtin.Tuple.tupleExact _) (wpAny_newObj_type (wpAny_pure ⟨_, rfl, wpAny_pure h⟩) htake))
end
section
variable {X : Cx} {e : Expr} {te : TE} {ts : TO} {pos p2 : Pos} {st : Expr}
def tRevT (K : PySem.W.Frag) (te : TE) (ts : TO) : TE := fun σ H Q => te σ H fun x H1 => ts σ H1 fun o H2 => o = some (-1) ∧ ∃ a xs, x = .ref a ∧ SqT K H2 a xs ∧ ∀ p, H2 p = none → Q (.ref p) (upd H2 p (.tup xs.reverse))
theorem pe_revT (he : PE X e te) (hs : PO X (some st) ts) : PE X (.Subscript e (.Slice none none (some st) p2) pos) (tRevT X.K te ts) := by
  refine ⟨fun pins s σ H Q I h => ?_⟩
  refine Subscript_ (thn (he.run pins s σ H _ I h) fun v s1 ⟨x, H1, I1, r1, q1⟩ => ?_)
  refine wpAny_Slice ?_
  rw [evalPart_none]
  refine wpAny_pure (wpAny_pure ?_)
  refine thn (hs.run pins s1 σ H1 _ I1 q1) fun vs s2 ⟨o, H2, I2, ps, q2⟩ => ?_
  obtain ⟨rfl, a, xs, rfl, hx, q⟩ := q2
  cases r1
  cases ps with
  | int i u =>
    have I4 : Inv X pins σ H2 { s2 with heap := s2.heap.push { cls := .type "slice", data := .fields #[.none, .none, .int (-1) u] } } := I2.kept (t' := s2.toks) fun b ob q => Heap.get?_push_of_some _ q
    obtain ⟨its, r, ht, hz⟩ := I4.tuple hx
    show wpAny (model X.prog X.w) X.A (subscriptTail e (.Slice none none (some st) p2) (.ref a) (.ref s2.heap.objs.size)) (EP X pins σ Q) X.xe { s2 with heap := s2.heap.push { cls := .type "slice", data := .fields #[.none, .none, .int (-1) u] } }
    have hlen : its.toArray.size = xs.length := by rw [List.size_toArray]; exact r.length.symm
    refine tail_any (ops := [.ref a, .ref s2.heap.objs.size]) ht.typeIs PyProof.Rows.slot_tuple_getitem.lookup ?_ (by with_unfolding_all rfl)
    refine getItem_tuple_rev ht (Heap.IsSliceOf.new ..) ?_ (by rw [hlen]; exact hz)
    refine ⟨.ref _, _, I4.laid (t' := s2.toks) (o := .tup xs.reverse) (fun b ob q => Heap.get?_push_of_some _ q) (Nat.le_refl _) ?_, rfl, q _ (I4.hok.fresh (Nat.le_refl _))⟩
    exact ⟨by rw [List.length_reverse]; exact hz, _, r.reverse, IsTup.new _ _⟩
theorem v_revT {K : PySem.W.Frag} {σ : L2.St} {H : Hp} {Q : VK} (q : te σ H fun x H1 => ts σ H1 fun o H2 => o = some (-1) ∧ ∃ a xs, x = .ref a ∧ SqT K H2 a xs ∧ ∀ p, H2 p = none → Q (.ref p) (upd H2 p (.tup xs.reverse))) : tRevT K te ts σ H Q := q
end
end Sh
namespace Sh
open PySem PySem.Spec PyProof.Rows L2
/-! ### t >= u of two tuples of ints -/
theorem lexAt_shift {e r : Nat → Bool} {z : Bool} : ∀ k i, Ob.lexAt e r z (i + 1) k = Ob.lexAt (fun j => e (j + 1)) (fun j => r (j + 1)) z i k
  | 0, _ => rfl
  | k + 1, i => by
    rw [Ob.lexAt_succ, Ob.lexAt_succ, lexAt_shift k (i + 1)]
theorem lex_ge : ∀ ns ms : List Int, Ob.lexAt (fun j => decide (ns.getD j 0 = ms.getD j 0)) (fun j => decide (ms.getD j 0 ≤ ns.getD j 0)) (decide (ns.length ≥ ms.length)) 0 (min ns.length ms.length) = !HT.lexLt ns ms
  | [], [] => rfl
  | [], m :: ms => by
    show decide (0 ≥ ms.length + 1) = !true
    exact decide_eq_false (by omega)
  | n :: ns, [] => by
    show decide (ns.length + 1 ≥ 0) = !false
    exact decide_eq_true (by omega)
  | n :: ns, m :: ms => by
    rw [List.length_cons, List.length_cons, Nat.add_min_add_right, Ob.lexAt_succ, lexAt_shift]
    have ih := lex_ge ns ms
    show (if decide (n = m) = true then Ob.lexAt (fun j => decide (ns.getD j 0 = ms.getD j 0)) (fun j => decide (ms.getD j 0 ≤ ns.getD j 0)) (decide (ns.length + 1 ≥ ms.length + 1)) 0 (min ns.length ms.length) else decide (m ≤ n)) = !(if n = m then HT.lexLt ns ms else decide (n < m))
    rw [show decide (ns.length + 1 ≥ ms.length + 1) = decide (ns.length ≥ ms.length) from decide_eq_decide.mpr (by omega), ih]
    by_cases h : n = m
    · rw [if_pos (decide_eq_true h), if_pos h]
    · rw [if_neg (by simp [h]), if_neg h, Bool.eq_iff_iff, decide_eq_true_iff, Bool.not_eq_true', decide_eq_false_iff_not]
      omega
def rGeT (K : PySem.W.Frag) : R2 := fun x y H Q => ∃ (a b : Addr) (ns ms : List Int), x = .ref a ∧ y = .ref b ∧ SqT K H a (ns.map V.int) ∧ SqT K H b (ms.map V.int) ∧ Q (.bl (!HT.lexLt ns ms)) H
theorem op_geT {X : Cx} (hu : X.A.units < cLine) : OpR X (compareOp .GtE) (rGeT X.K) := by
  intro pins s σ H x y v u Q I rx ry h
  obtain ⟨a, b, ns, ms, rfl, rfl, ha, hb, q⟩ := h
  cases rx
  cases ry
  obtain ⟨its, r1, p1, _⟩ := I.tuple ha
  obtain ⟨its2, r2, p2, _⟩ := I.tuple hb
  have i1 : IntsAre its ns := Vals.ints r1
  have i2 : IntsAre its2 ms := Vals.ints r2
  have e1 : its.toArray.size = ns.length := by rw [List.size_toArray]; exact i1.length
  have e2 : its2.toArray.size = ms.length := by rw [List.size_toArray]; exact i2.length
  have at1 : ∀ j (h1 : j < its.toArray.size), ∃ t, its.toArray[j] = .int (ns.getD j 0) t := fun j h1 => PyProof.Rows.IntsAre.int_at i1 _ _ (by simp at h1; simp [h1])
  have at2 : ∀ j (h1 : j < its2.toArray.size), ∃ t, its2.toArray[j] = .int (ms.getD j 0) t := fun j h1 => PyProof.Rows.IntsAre.int_at i2 _ _ (by simp at h1; simp [h1])
  have R := Ob.RcOp.tuples_ge (A := X.A) (s := s) (e := fun j => decide (ns.getD j 0 = ms.getD j 0)) (r := fun j => decide (ms.getD j 0 ≤ ns.getD j 0)) p1 p2 hu (fun j h1 h2 => by
    obtain ⟨t, et⟩ := at1 j h1
    obtain ⟨t', et'⟩ := at2 j h2
    rw [et, et']
    have z : (ns.getD j 0 == ms.getD j 0) = decide (ns.getD j 0 = ms.getD j 0) := by
      by_cases q : ns.getD j 0 = ms.getD j 0
      · rw [decide_eq_true q]; exact beq_iff_eq.mpr q
      · rw [decide_eq_false q]; exact beq_eq_false_iff_ne.mpr q
    rw [← z]
    exact SeqAt.EqAt.int_int _ _ _ _) (fun j h1 h2 _ => by
    obtain ⟨t, et⟩ := at1 j h1
    obtain ⟨t', et'⟩ := at2 j h2
    rw [et, et']
    exact Ob.RcOp.ge_int _ _ _ _)
  rw [e1, e2, lex_ge] at R
  have z : wpAny (model X.prog X.w) X.A (compareOp .GtE (.ref a) (.ref b)) (EP X pins σ Q) X.xe s := R X.prog X.w X.xe (EP X pins σ Q) ⟨.bl _, H, I, rfl, q⟩
  exact z
theorem op_geTK {X : Cx} {K : PySem.W.Frag} (h : X.K = K) (hu : X.A.units < cLine) : OpR X (compareOp .GtE) (rGeT K) := h ▸ op_geT hu
theorem v_geT {K : PySem.W.Frag} {H : Hp} {Q : VK} {a b : Addr} {ns ms : List Int} (ha : SqT K H a (ns.map V.int)) (hb : SqT K H b (ms.map V.int)) (q : Q (.bl (!HT.lexLt ns ms)) H) : rGeT K (.ref a) (.ref b) H Q := ⟨a, b, ns, ms, rfl, rfl, ha, hb, q⟩
end Sh

namespace Sh
open PySem PySem.Spec PyProof.Rows L2
/-! ### sorted of a list of tuples of ints, any order -/
theorem v_sortTG {K : PySem.W.Frag} {H : Hp} {Q : VK} {a : Addr} {as : List (Addr × List Int)} (hs : SqL K H a (as.map rV)) (hT : LTup H as) (hz : as.length ≤ sizeLine) (hne : ∀ z, z ∈ as → z.2 ≠ [])
    (q : ∀ (p : Addr) (zs : List (Addr × List Int)), H p = none → zs.Perm as → (zs.map (·.2)).Pairwise (fun x y : List Int => x ≤ y) → Q (.ref p) (upd H p (.lst (zs.map rV)))) : rSortD K [.ref a] H Q := by
  have hle : ∀ x y : Addr × List Int, PySem.W.dataLe false (fun b : V × PyData => b.2) (rV x, PyData.tuple (iD x.2)) (rV y, PyData.tuple (iD y.2)) = decide (x.2 ≤ y.2) := fun x y => by
    rw [PySem.W.dataLe_eq]
    show (!PySem.W.dataLt (.tuple (iD y.2)) (.tuple (iD x.2))) = _
    rw [lt_intTup, listLt_iff]
    by_cases h : y.2 < x.2
    · rw [decide_eq_true h, decide_eq_false (List.not_le.mpr h)]; rfl
    · rw [decide_eq_false h, decide_eq_true (List.not_lt.mp h)]; rfl
  let f : Addr × List Int → V × PyData := fun z => (rV z, PyData.tuple (iD z.2))
  let le : Addr × List Int → Addr × List Int → Bool := fun x y => decide (x.2 ≤ y.2)
  have hms : (as.map f).mergeSort (PySem.W.dataLe false fun b => b.2) = (as.mergeSort le).map f :=
    (List.map_mergeSort (r := le) (s := PySem.W.dataLe false fun b => b.2) (f := f) fun x _ y _ => (hle x y).symm).symm
  have hpw : ((as.mergeSort le).map (·.2)).Pairwise (fun x y : List Int => x ≤ y) := by
    have := List.pairwise_mergeSort (le := le) (fun x y z h1 h2 => decide_eq_true (List.le_trans (of_decide_eq_true h1) (of_decide_eq_true h2))) (fun x y => by
      rcases List.le_total x.2 y.2 with h | h
      · show (decide _ || decide _) = true
        rw [decide_eq_true h, Bool.true_or]
      · show (decide _ || decide _) = true
        rw [decide_eq_true h, Bool.or_true]) as
    rw [List.pairwise_map]
    exact this.imp fun h => of_decide_eq_true h
  refine ⟨a, as.map f, rfl, by rw [List.map_map]; exact hs, fun b hb => ?_, ?_, ?_, fun b hb => ?_, by rw [List.length_map]; exact hz, fun p hp => ?_⟩
  · obtain ⟨z, hz, rfl⟩ := List.mem_map.mp hb
    exact .tup (SqT.of (hT z hz)) (dp_ints z.2)
  · rw [List.map_map]
    exact PySem.W.AllAlike.of (enc := fun z : Addr × List Int => PyData.tuple (iD z.2)) fun z y => alike_iD z.2 y.2
  · refine .inl fun d hd => ?_
    rw [List.map_map] at hd
    obtain ⟨z, hz, rfl⟩ := List.mem_map.mp hd
    cases e : z.2 with
    | nil => exact absurd e (hne z hz)
    | cons i r => exact ⟨.int i, iD r, by show PyData.tuple (iD z.2) = _; rw [e]; rfl⟩
  · obtain ⟨z, hz, rfl⟩ := List.mem_map.mp hb
    have := (Shp.tup (n := 0) (shp_iD z.2)).dep
    show (PyData.tuple (iD z.2)).depth ≤ 60
    omega
  · rw [hms, List.map_map]
    exact q p (as.mergeSort le) hp (List.mergeSort_perm _ _) hpw
end Sh

namespace Sh
open PySem PySem.Spec PyProof.Rows L2
/-! ### tuples of any items at addresses: what stands at z.1 is told by enc z.2 -/
section
variable {β : Type}
def LE (enc : β → List V) (H : Hp) (as : List (Addr × β)) : Prop := ∀ z, z ∈ as → H z.1 = some (.tup (enc z.2))
abbrev rE (z : Addr × β) : V := .ref z.1
theorem LE.same {enc : β → List V} {H H' : Hp} {as : List (Addr × β)} (h : LE enc H as) (s : Same H H') : LE enc H' as := fun z hz => s _ _ (h z hz)
theorem LE.upd {enc : β → List V} {H : Hp} {as : List (Addr × β)} {l : Addr} {xs : List V} {o : HO} (h : LE enc H as) (hl : H l = some (.lst xs)) : LE enc (L2.upd H l o) as := fun z hz => by
  rw [upd_ne (fun e => by have := h z hz; rw [e, hl] at this; cases this)]
  exact h z hz
theorem LE.updK {enc : β → List V} {H : Hp} {as : List (Addr × β)} {l : Addr} {kvs : List (Key × V)} {o : HO} (h : LE enc H as) (hl : H l = some (.dK kvs)) : LE enc (L2.upd H l o) as := fun z hz => by
  rw [upd_ne (fun e => by have := h z hz; rw [e, hl] at this; cases this)]
  exact h z hz
theorem LE.app {enc : β → List V} {H : Hp} {as bs : List (Addr × β)} (h : LE enc H as) (h2 : LE enc H bs) : LE enc H (as ++ bs) := fun z hz => (List.mem_append.mp hz).elim (h z) (h2 z)
theorem LE.nil {enc : β → List V} {H : Hp} : LE enc H [] := fun z hz => nomatch hz
theorem LE.one {enc : β → List V} {H : Hp} {z : Addr × β} (h : H z.1 = some (.tup (enc z.2))) : LE enc H [z] := fun y hy => by rw [List.mem_singleton.mp hy]; exact h
theorem LE.sub {enc : β → List V} {H : Hp} {as bs : List (Addr × β)} (h : LE enc H as) (hs : ∀ z, z ∈ bs → z ∈ as) : LE enc H bs := fun z hz => h z (hs z hz)
theorem LE.dp {K : PySem.W.Frag} {enc : β → List V} {dat : β → List PyData} {H : Hp} (hd : ∀ x, DpAll K H (enc x) (dat x)) : ∀ {as : List (Addr × β)}, LE enc H as → DpAll K H (as.map rE) ((as.map (·.2)).map fun e => .tuple (dat e))
  | [], _ => .nil
  | z :: as, h => .cons (.tup (SqT.of (h z List.mem_cons_self)) (hd z.2)) (LE.dp hd fun y hy => h y (List.mem_cons_of_mem _ hy))
def AsE (enc : β → List V) (H0 : Hp) (L : Addr) (ms : List β) (acc : List V) (H' : Hp) : Prop := Same H0 H' ∧ ∃ as : List (Addr × β), acc = as.map rE ∧ LE enc H' as ∧ as.map (·.2) = ms
theorem AsE.put {enc : β → List V} {H0 H' : Hp} {L T : Addr} {ms : List β} {acc : List V} {e : β} (h : AsE enc H0 L ms acc H') (h0 : H0 L = none) (hL : H' L = some (.lst acc)) (hT : H' T = some (.tup (enc e))) : AsE enc H0 L (ms ++ [e]) (acc ++ [.ref T]) (L2.upd H' L (.lst (acc ++ [.ref T]))) := by
  obtain ⟨sm, as, rfl, lt, rfl⟩ := h
  exact ⟨fun b o e => by rw [upd_ne (ne_of_none e h0)]; exact sm _ _ e, as ++ [(T, e)], by rw [List.map_append]; rfl, LE.upd (LE.app lt (LE.one hT)) hL, by rw [List.map_append]; rfl⟩
theorem AsE.same {enc : β → List V} {H0 H1 H2 : Hp} {L : Addr} {ms : List β} {acc : List V} (h : AsE enc H0 L ms acc H1) (s : Same H1 H2) : AsE enc H0 L ms acc H2 := by
  obtain ⟨sm, as, e, lt, f⟩ := h
  exact ⟨sm.trans s, as, e, lt.same s, f⟩
theorem AsE.new {enc : β → List V} {H0 : Hp} {L : Addr} (h0 : H0 L = none) : AsE enc H0 L [] [] (L2.upd H0 L (.lst [])) := ⟨same_upd h0, [], rfl, LE.nil, rfl⟩
theorem AsE.len {enc : β → List V} {H0 H' : Hp} {L : Addr} {ms : List β} {acc : List V} (h : AsE enc H0 L ms acc H') : acc.length = ms.length := by
  obtain ⟨_, as, rfl, _, rfl⟩ := h
  rw [List.length_map, List.length_map]
end
section
variable {σ : L2.St} {H : Hp} {tt : TT} {te : TE} {Q : VK} {J : It} {α β : Type} {Gd : Hp → Prop}
/-- over anything that walks, any target; the items are new tuples -/
theorem lc_walkE (enc : β → List V) (G : α → V) {xs : List α} {g : TG} {vs : List Nat} (st : α → L2.St) (w : Walk J xs.length Gd (YAt (xs.map G))) (hG : ∀ H', Same H H' → Gd H') (p : α → Bool) (f : α → β) (hn : xs.length ≤ sizeLine)
    (hg : ∀ x H', x ∈ xs → Same H H' → ∀ P : L2.St → Hp → Prop, P (st x) H' → g (G x) (wipe σ vs) H' P) (hw : ∀ x, wipe (st x) vs = wipe σ vs)
    (ht : ∀ x H', x ∈ xs → Same H H' → ∀ Qb : Bool → Hp → Prop, (∀ H2, Same H' H2 → Qb (p x) H2) → tt (st x) H' Qb)
    (he : ∀ x H', x ∈ xs → p x = true → Same H H' → ∀ Qv : VK, (∀ T H2, Same H' H2 → H2 T = some (.tup (enc (f x))) → Qv (.ref T) H2) → te (st x) H' Qv)
    (hd : ∀ L as H2, H L = none → Same H H2 → H2 L = some (.lst (as.map rE)) → LE enc H2 as → as.map (·.2) = (xs.filter p).map f → Q (.ref L) H2) : kLc g tt te vs σ Q J H := by
  intro L hL
  refine lc_it w (fun i H' => ∃ acc, H' L = some (.lst acc) ∧ AsE enc H L (((xs.take i).filter p).map f) acc H') ⟨[], upd_same, AsE.new hL⟩ (fun i H' _ ⟨acc, _, e⟩ => hG _ e.1) ?_ (fun H' ⟨acc, hLe, sm, as, e1, e2, e3⟩ => by
    subst e1
    rw [List.take_length] at e3
    exact hd L as H' hL sm hLe e2 e3)
  rintro i y H' H2 hi ⟨acc, hLe, hI⟩ ⟨rfl, hy⟩
  obtain ⟨x, hx2, rfl⟩ : ∃ x, xs[i]? = some x ∧ y = G x := by
    rw [List.getElem?_map] at hy
    cases e : xs[i]? with
    | none => rw [e] at hy; cases hy
    | some u => rw [e] at hy; exact ⟨u, rfl, (Option.some.inj hy).symm⟩
  have hm : x ∈ xs := List.mem_of_getElem? hx2
  have et : xs.take (i + 1) = xs.take i ++ [x] := by rw [List.take_add_one, hx2]; rfl
  refine hg x _ hm hI.1 _ ⟨hw _, ht x _ hm hI.1 _ fun H3 s3 => ?_⟩
  have hI3 := hI.same s3
  have hL3 := s3 _ _ hLe
  by_cases hp : p x = true
  · rw [hp, if_pos rfl]
    refine he x _ hm hp hI3.1 _ fun T H4 s4 hT => ⟨acc, s4 _ _ hL3, ?_, _, upd_same, ?_⟩
    · rw [hI.len, List.length_map]
      have := List.length_filter_le p (xs.take i)
      rw [List.length_take] at this
      omega
    · have := (hI3.same s4).put hL (s4 _ _ hL3) hT
      rw [et, List.filter_append, List.map_append]
      simpa [hp] using this
  · rw [if_neg hp]
    refine ⟨acc, hL3, ?_⟩
    rw [et, List.filter_append, List.map_append]
    simpa [hp] using hI3
/-- over anything that walks, any target; the items are plain values -/
theorem lc_walkP (G : α → V) {xs : List α} {g : TG} {vs : List Nat} (st : α → L2.St) (w : Walk J xs.length Gd (YAt (xs.map G))) (hG : ∀ H', Same H H' → Gd H') (p : α → Bool) (f : α → V) (hn : xs.length ≤ sizeLine)
    (hg : ∀ x H', x ∈ xs → Same H H' → ∀ P : L2.St → Hp → Prop, P (st x) H' → g (G x) (wipe σ vs) H' P) (hw : ∀ x, wipe (st x) vs = wipe σ vs)
    (ht : ∀ x H', x ∈ xs → Same H H' → ∀ Qb : Bool → Hp → Prop, (∀ H2, Same H' H2 → Qb (p x) H2) → tt (st x) H' Qb)
    (he : ∀ x H', x ∈ xs → p x = true → Same H H' → ∀ Qv : VK, (∀ H2, Same H' H2 → Qv (f x) H2) → te (st x) H' Qv)
    (hd : ∀ L H2, H L = none → Same H H2 → H2 L = some (.lst ((xs.filter p).map f)) → Q (.ref L) H2) : kLc g tt te vs σ Q J H := by
  intro L hL
  refine lc_it w (fun i H' => Same H H' ∧ H' L = some (.lst (((xs.take i).filter p).map f))) ⟨same_upd hL, upd_same⟩ (fun i H' _ e => hG _ e.1) ?_ (fun H' e => by
    have e2 := e.2
    rw [List.take_length] at e2
    exact hd L H' hL e.1 e2)
  rintro i y H' H2 hi ⟨sm, hLe⟩ ⟨rfl, hy⟩
  obtain ⟨x, hx2, rfl⟩ : ∃ x, xs[i]? = some x ∧ y = G x := by
    rw [List.getElem?_map] at hy
    cases e : xs[i]? with
    | none => rw [e] at hy; cases hy
    | some u => rw [e] at hy; exact ⟨u, rfl, (Option.some.inj hy).symm⟩
  have hm : x ∈ xs := List.mem_of_getElem? hx2
  have et : xs.take (i + 1) = xs.take i ++ [x] := by rw [List.take_add_one, hx2]; rfl
  refine hg x _ hm sm _ ⟨hw _, ht x _ hm sm _ fun H3 s3 => ?_⟩
  by_cases hp : p x = true
  · rw [hp, if_pos rfl]
    refine he x _ hm hp (sm.trans s3) _ fun H4 s4 => ⟨_, s4 _ _ (s3 _ _ hLe), ?_, same_mut (sm.trans (s3.trans s4)) hL, ?_⟩
    · rw [List.length_map]
      have := List.length_filter_le p (xs.take i)
      rw [List.length_take] at this
      omega
    · rw [upd_same, et, List.filter_append, List.map_append, List.filter_cons_of_pos hp]; rfl
  · rw [if_neg hp]
    refine ⟨sm.trans s3, ?_⟩
    rw [et, List.filter_append, List.filter_cons_of_neg hp, List.filter_nil, List.append_nil]
    exact s3 _ _ hLe
end
/-- over a list, over a tuple: as lc_walk wants it -/
theorem walk_L {K : PySem.W.Frag} {a : Addr} {α : Type} {G : α → V} {xs : List α} : Walk (Itl K a) xs.length (fun H => SqL K H a (xs.map G)) (YAt (xs.map G)) := by
  have w := walk_list (K := K) (a := a) (xs := xs.map G)
  rwa [List.length_map] at w
theorem walk_T {K : PySem.W.Frag} {a : Addr} {α : Type} {G : α → V} {xs : List α} : Walk (Itt K a) xs.length (fun H => SqT K H a (xs.map G)) (YAt (xs.map G)) := by
  have w := walk_tup (K := K) (a := a) (xs := xs.map G)
  rwa [List.length_map] at w
theorem walk_V {d : Addr} {o : Obj} {kvs : List (Key × V)} : Walk (Itd d o kvs) kvs.length (fun H => H d = some (.frz o (.dK kvs))) (YAt (kvs.map (·.2))) :=
  walk_values.mono (fun _ h => h) fun i H v H' hi _ ⟨h1, k, h2⟩ => ⟨h1, by rw [List.getElem?_map, h2]; rfl⟩
def kVals (R : It → Hp → Prop) : VK := fun x H1 => ∃ d o kvs, x = .ref d ∧ H1 d = some (.frz o (.dK kvs)) ∧ R (Itd d o kvs) H1
theorem v_iVals {td : TE} {σ : L2.St} {H : Hp} {R : It → Hp → Prop} (q : td σ H (kVals R)) : iVals td σ H R := q
theorem v_kVals {d : Addr} {o : Obj} {kvs : List (Key × V)} {H : Hp} {R : It → Hp → Prop} (h : H d = some (.frz o (.dK kvs))) (q : R (Itd d o kvs) H) : kVals R (.ref d) H := ⟨d, o, kvs, rfl, h, q⟩
def kItems (R : It → Hp → Prop) : VK := fun x H1 => ∃ d o kvs, x = .ref d ∧ H1 d = some (.frz o (.dK kvs)) ∧ R (Iti d o kvs) H1
theorem v_iItems {td : TE} {σ : L2.St} {H : Hp} {R : It → Hp → Prop} (q : td σ H (kItems R)) : iItems td σ H R := q
theorem v_kItems {d : Addr} {o : Obj} {kvs : List (Key × V)} {H : Hp} {R : It → Hp → Prop} (h : H d = some (.frz o (.dK kvs))) (q : R (Iti d o kvs) H) : kItems R (.ref d) H := ⟨d, o, kvs, rfl, h, q⟩
/-- xs.pop() -/
theorem v_pop {α : Type} (G : α → V) {l : Addr} {xs : List α} {x : α} {H : Hp} {Q : VK} (h : H l = some (.lst ((xs ++ [x]).map G))) (q : Q (G x) (upd H l (.lst (xs.map G)))) : rPop (.ref l) [] H Q := by
  refine ⟨l, _, G x, rfl, rfl, h, ?_, ?_⟩
  · rw [List.map_append, List.length_append, List.length_map]
    simp
  · rw [List.map_append]
    simpa using q
/-! ### pairs (a text, a number) -/
abbrev SI := List Nat × Int
def eSI (z : SI) : List V := [.str (S z.1), .int z.2]
def dSI (z : SI) : List PyData := [.str (S z.1), .int z.2]
theorem dp_SI {K : PySem.W.Frag} {H : Hp} (z : SI) : DpAll K H (eSI z) (dSI z) := .cons (.str _) (.cons (.int _) .nil)
theorem shp_SI {z : SI} (h : ∀ c, c ∈ z.1 → c < 55000) {n : Nat} : Shp (.tuple (dSI z)) (n + 1) := Shp.tup (.cons (Shp.str h) (.cons (Shp.int _) .nil))
theorem eqv_SI (z y : SI) : PyData.eqv (.tuple (dSI z)) (.tuple (dSI y)) = decide (z = y) := by
  have e : (S z.1 == S y.1) = decide (z.1 = y.1) := by
    by_cases h : z.1 = y.1
    · rw [h]; simp
    · rw [decide_eq_false h]
      exact beq_eq_false_iff_ne.mpr fun e => h (S_inj e)
  have e2 : (z.2 == y.2) = decide (z.2 = y.2) := by
    by_cases h : z.2 = y.2
    · rw [h]; simp
    · rw [decide_eq_false h]
      exact beq_eq_false_iff_ne.mpr h
  have e3 : decide (z = y) = (decide (z.1 = y.1) && decide (z.2 = y.2)) := by
    rw [← Bool.decide_and]
    exact decide_eq_decide.mpr ⟨fun h => by rw [h]; exact ⟨rfl, rfl⟩, fun h => Prod.ext h.1 h.2⟩
  rw [e3]
  show PyData.eqv (.tuple [.str _, .int _]) (.tuple [.str _, .int _]) = _
  simp only [PyData.eqv, PyData.eqvAll, Bool.and_true, e, e2]
theorem eqv_SIs : ∀ (zs ys : List SI), PyData.eqvAll (zs.map fun z => .tuple (dSI z)) (ys.map fun z => .tuple (dSI z)) = decide (zs = ys)
  | [], [] => rfl
  | [], _ :: _ => by simp [PyData.eqvAll]
  | _ :: _, [] => by simp [PyData.eqvAll]
  | z :: zs, y :: ys => by
    show (PyData.eqv (.tuple (dSI z)) (.tuple (dSI y)) && PyData.eqvAll (zs.map fun z => .tuple (dSI z)) (ys.map fun z => .tuple (dSI z))) = _
    rw [eqv_SIs zs ys, eqv_SI]
    by_cases h1 : z = y <;> by_cases h2 : zs = ys <;> simp [h1, h2]
theorem eqv_SIt (zs ys : List SI) : PyData.eqv (.tuple (zs.map fun z => .tuple (dSI z))) (.tuple (ys.map fun z => .tuple (dSI z))) = decide (zs = ys) := by
  simp only [PyData.eqv]
  exact eqv_SIs zs ys
section
variable {K : PySem.W.Frag} {H : Hp} {Q : VK} {a b : Addr} {as bs : List (Addr × SI)}
theorem shp_SIs {as : List (Addr × SI)} (h : ∀ z, z ∈ as → ∀ c, c ∈ z.2.1 → c < 55000) : ShpA ((as.map (·.2)).map fun e => PyData.tuple (dSI e)) 1 := ShpA.of fun d hd => by
  obtain ⟨e, he, rfl⟩ := List.mem_map.mp hd
  obtain ⟨z, hz, rfl⟩ := List.mem_map.mp he
  exact shp_SI (h z hz)
theorem v_eqSIs (ha : SqT K H a (as.map rE)) (hA : LE eSI H as) (hb : SqT K H b (bs.map rE)) (hB : LE eSI H bs) (h1 : ∀ z, z ∈ as → ∀ c, c ∈ z.2.1 → c < 55000) (h2 : ∀ z, z ∈ bs → ∀ c, c ∈ z.2.1 → c < 55000)
    (q : Q (.bl (decide (as.map (·.2) = bs.map (·.2)))) H) : rEqD K (.ref a) (.ref b) H Q :=
  ⟨.tuple _, .tuple _, .tup ha (hA.dp dp_SI), .tup hb (hB.dp dp_SI), (Shp.tup (shp_SIs h1)).shaped (by decide), (Shp.tup (shp_SIs h2)).shaped (by decide), by
    rw [eqv_SIt]; exact q⟩
theorem v_neSIs (ha : SqT K H a (as.map rE)) (hA : LE eSI H as) (hb : SqT K H b (bs.map rE)) (hB : LE eSI H bs) (h1 : ∀ z, z ∈ as → ∀ c, c ∈ z.2.1 → c < 55000) (h2 : ∀ z, z ∈ bs → ∀ c, c ∈ z.2.1 → c < 55000)
    (q : Q (.bl (!decide (as.map (·.2) = bs.map (·.2)))) H) : rNeD K (.ref a) (.ref b) H Q :=
  ⟨.tuple _, .tuple _, .tup ha (hA.dp dp_SI), .tup hb (hB.dp dp_SI), (Shp.tup (shp_SIs h1)).shaped (by decide), (Shp.tup (shp_SIs h2)).shaped (by decide), by
    rw [eqv_SIt]; exact q⟩
def oSI (z : SI) : Str × Int := (S z.1, z.2)
theorem v_sortSIp {as : List (Addr × SI)} (hs : H a = some (.lst (as.map rE))) (hA : LE eSI H as) (hz : as.length ≤ sizeLine) (hn : (as.map (·.2.1)).Nodup)
    (q : ∀ (p : Addr) (zs : List (Addr × SI)), H p = none → zs.Perm as → (zs.map (·.2.1)).Pairwise (fun a b : List Nat => a < b) → Q (.ref p) (upd H p (.lst (zs.map rE)))) : rSortD K [.ref a] H Q := by
  let f : Addr × SI → V × PyData := fun z => (V.ref z.1, PySem.W.Datum.toD (oSI z.2))
  let le : Addr × SI → Addr × SI → Bool := fun x y => !PySem.W.DatumOrd.lt (oSI y.2) (oSI x.2)
  have hle : ∀ x y : Addr × SI, PySem.W.dataLe false (fun b : V × PyData => b.2) (f x) (f y) = le x y := fun x y => by
    rw [PySem.W.dataLe_eq]
    show (!PySem.W.dataLt (PySem.W.Datum.toD (oSI y.2)) (PySem.W.Datum.toD (oSI x.2))) = _
    rw [PySem.W.DatumOrd.lt_eq]
  have lts : ∀ x y : SI, PySem.W.DatumOrd.lt (oSI x) (oSI y) = if x.1 = y.1 then decide (x.2 < y.2) else decide (x.1 < y.1) := fun x y => by
    show (if S x.1 = S y.1 then decide (x.2 < y.2) else decide ((S x.1).cps.toList < (S y.1).cps.toList)) = _
    rw [S_list, S_list]
    by_cases h : x.1 = y.1
    · rw [if_pos (by rw [h]), if_pos h]
    · rw [if_neg (fun e => h (S_inj e)), if_neg h]
  have ltt : ∀ x y : SI, PySem.W.DatumOrd.lt (oSI x) (oSI y) = true ↔ x.1 < y.1 ∨ (x.1 = y.1 ∧ x.2 < y.2) := fun x y => by
    rw [lts]
    by_cases h : x.1 = y.1
    · rw [if_pos h, decide_eq_true_eq]
      exact ⟨fun h2 => .inr ⟨h, h2⟩, fun h2 => h2.elim (fun h3 => by rw [h] at h3; exact absurd h3 (List.lt_irrefl _)) fun h3 => h3.2⟩
    · rw [if_neg h, decide_eq_true_eq]
      exact ⟨.inl, fun h2 => h2.elim id fun h3 => absurd h3.1 h⟩
  have let' : ∀ x y : Addr × SI, le x y = true ↔ x.2.1 < y.2.1 ∨ (x.2.1 = y.2.1 ∧ x.2.2 ≤ y.2.2) := fun x y => by
    show (!PySem.W.DatumOrd.lt (oSI y.2) (oSI x.2)) = true ↔ _
    rw [Bool.not_eq_true', ← Bool.not_eq_true, ltt]
    constructor
    · intro h
      rcases List.le_iff_lt_or_eq.mp (List.not_lt.mp fun h2 => h (.inl h2)) with h3 | h3
      · exact .inl h3
      · exact .inr ⟨h3, Int.not_lt.mp fun h4 => h (.inr ⟨h3.symm, h4⟩)⟩
    · rintro (h | ⟨h, h2⟩) (h3 | ⟨h3, h4⟩)
      · exact List.lt_irrefl _ (List.lt_trans h h3)
      · rw [h3] at h; exact List.lt_irrefl _ h
      · rw [h] at h3; exact List.lt_irrefl _ h3
      · omega
  have hms : (as.map f).mergeSort (PySem.W.dataLe false fun b => b.2) = (as.mergeSort le).map f :=
    (List.map_mergeSort (r := le) (s := PySem.W.dataLe false fun b => b.2) (f := f) fun x _ y _ => (hle x y).symm).symm
  have hpw : (as.mergeSort le).Pairwise (fun x y => le x y = true) := by
    refine List.pairwise_mergeSort (le := le) (fun x y z h1 h2 => ?_) (fun x y => ?_) as
    · rw [let'] at h1 h2 ⊢
      rcases h1 with h1 | ⟨h1, h3⟩
      · rcases h2 with h2 | ⟨h2, _⟩
        · exact .inl (List.lt_trans h1 h2)
        · rw [← h2]; exact .inl h1
      · rcases h2 with h2 | ⟨h2, h4⟩
        · rw [h1]; exact .inl h2
        · exact .inr ⟨h1.trans h2, Int.le_trans h3 h4⟩
    · show (le x y || le y x) = true
      by_cases h : le x y = true
      · rw [h, Bool.true_or]
      · have h2 : le y x = true := by
          rw [let'] at h ⊢
          rcases List.le_iff_lt_or_eq.mp (List.not_lt.mp fun h2 => h (.inl h2)) with h3 | h3
          · exact .inl h3
          · refine .inr ⟨h3, ?_⟩
            exact Int.not_lt.mp fun h4 => h (.inr ⟨h3.symm, Int.le_of_lt h4⟩)
        rw [h2, Bool.or_true]
  refine ⟨a, as.map f, rfl, by rw [List.map_map]; exact SqL.of hs, fun b hb => ?_, ?_, ?_, fun b hb => ?_, by rw [List.length_map]; exact hz, fun p hp => ?_⟩
  · obtain ⟨z, hz, rfl⟩ := List.mem_map.mp hb
    exact .tup (SqT.of (hA z hz)) (.cons (.str _) (.cons (.int _) .nil))
  · rw [List.map_map]
    exact PySem.W.AllAlike.of (enc := fun z : Addr × SI => PySem.W.Datum.toD (oSI z.2)) fun z y => PySem.W.DatumOrd.alike (oSI z.2) (oSI y.2)
  · refine .inl fun d hd => ?_
    rw [List.map_map] at hd
    obtain ⟨z, hz, rfl⟩ := List.mem_map.mp hd
    exact ⟨_, _, rfl⟩
  · obtain ⟨z, hz, rfl⟩ := List.mem_map.mp hb
    show (PyData.tuple [.str _, .int _]).depth ≤ 60
    simp only [PyData.depth, PyData.depthAll]
    omega
  · rw [hms, List.map_map]
    have hperm : (as.mergeSort le).Perm as := List.mergeSort_perm _ _
    refine q p _ hp hperm ?_
    have hnd : ((as.mergeSort le).map (·.2.1)).Nodup := (hperm.map (·.2.1)).nodup_iff.mpr hn
    have hnd2 : (as.mergeSort le).Pairwise (fun x y => x.2.1 ≠ y.2.1) := List.pairwise_map.mp hnd
    rw [List.pairwise_map]
    refine (hpw.and hnd2).imp fun {x y} ⟨h1, h2⟩ => ?_
    exact ((let' x y).mp h1).elim id fun h3 => absurd h3.1 h2
end
theorem v_listT {K : PySem.W.Frag} {H : Hp} {Q : VK} {p : Addr} {xs : List V} (hs : SqT K H p xs) (q : ∀ l, H l = none → Q (.ref l) (upd H l (.lst xs))) : rListQ K [.ref p] H Q := ⟨p, xs, rfl, .inr hs, q⟩
end Sh

namespace Sh
open PySem PySem.Spec PyProof.Rows L2 LamX
/-! ### a lambda with one parameter, called -/
structure LamS1 (a : Str) (sc scope : Scope) : Prop where
  kind : scope.kind = .function
  co : scope.isCoroutine = false
  gen : scope.isGenerator = false
  par : scope.names.lookup a = some .local
  own : ∀ y ∈ scope.names, y.2 ≠ .cell
  free : ∀ y ∈ scope.names, y.2 = .free → sc.names.lookup y.1 = some .cell ∨ sc.names.lookup y.1 = some .free
def lamSB1 (a : Str) (sc scope : Scope) : Bool :=
  decide (scope.kind = .function) && !scope.isCoroutine && !scope.isGenerator && decide (scope.names.lookup a = some .local) && scope.names.all fun y => !decide (y.2 = .cell) && (!decide (y.2 = .free) || decide (sc.names.lookup y.1 = some .cell) || decide (sc.names.lookup y.1 = some .free))
theorem lamS1_by {a : Str} {sc scope : Scope} (h : lamSB1 a sc scope = true) : LamS1 a sc scope := by
  unfold lamSB1 at h
  simp only [Bool.and_eq_true, Bool.or_eq_true, Bool.not_eq_true', decide_eq_true_eq, decide_eq_false_iff_not, List.all_eq_true] at h
  obtain ⟨⟨⟨⟨h1, h2⟩, h3⟩, h5⟩, h4⟩ := h
  refine ⟨h1, h2, h3, h5, fun y hy => (h4 y hy).1, fun y hy e => ?_⟩
  rcases (h4 y hy).2 with (z | z) | z
  · exact absurd e z
  · exact .inl z
  · exact .inr z
theorem LamS1.has {X : Cx} {a : Str} {scope : Scope} (L : LamS1 a X.env.scope scope) (ok : X.Ok) : ∀ y ∈ scope.names, y.2 = .free → ∃ c, X.env.cells.lookup y.1 = some c := fun y hy e => by
  rcases L.free y hy e with k | k
  · exact ok.has _ (.inl k)
  · exact ok.has _ (.inr k)
section
variable {X : Cx} {pins : List (Addr × Obj)} {σ : L2.St} {H : Hp} {s : Shared}
abbrev lamObj (X : Cx) (params : Arguments) (body : Expr) (scope : Scope) (pm : Value) (c' : Addr) (ctv : Value) : Obj := PySem.W.kla_obj "<lambda>" (X.env.qual ++ "<lambda>") params body scope (cloFrom X.env.cells scope.names []) pm c' ctv
/-- f(v): the body is read with the parameter's name at v -/
theorem lam_call {A : Around} {a : Str} {params : Arguments} {body : Expr} {scope : Scope} {pm ctv : Value} {f c' : Addr} {s1 : Shared} {v : Value} {Q E : Value → Shared → Prop} (L : LamS1 a X.env.scope scope) (hr : Room 1 A)
    (of1 : s1.heap.get? f = some (lamObj X params body scope pm c' ctv)) (hco : ∃ (oc : Obj) (vs : Array Value) (t : Tok), s1.heap.get? c' = some oc ∧ oc.data = .fields vs ∧ vs[1]? = some (.str (X.env.qual ++ "<lambda>") t)) (hnl : s1.heap.NoLimit)
    (hbind : bindArgs (PySem.W.kla_fn "<lambda>" (X.env.qual ++ "<lambda>") params body scope (cloFrom X.env.cells scope.names []) pm (.ref c') ctv) ⟨[v], []⟩ = pure [(a, v)])
    (h : ∀ (h₁ : Heap) (tk : Nat), (∀ b o, s1.heap.get? b = some o → h₁.get? b = some o) → h₁.Ns s1.heap.objs.size (fun y => [(a, v)].reverse.lookup y) →
      wpAny (model X.prog X.w) (A.deeper (lamEnv X scope s1.heap.objs.size f c')) (eval body (lamEnv X scope s1.heap.objs.size f c')) Q (fun _ _ => False) { s1 with heap := h₁, toks := tk }) :
    wpAny (model X.prog X.w) A (call (.ref f) [v]) Q E s1 := by
  obtain ⟨oc, vs, t, hoc, hdc, hvc⟩ := hco
  have rc : codeAny (model X.prog X.w) A (.call (.ref f) ⟨[v], []⟩) (fun r s' => ∃ u, r = .ok (.ret u) ∧ Q u s') s1 := by
    refine PySem.W.kla_callFunE hr.depth of1 rfl L.co L.gen rfl ⟨c', oc, vs, t, rfl, hoc, hdc, hvc⟩ ?_
    rw [hbind]
    refine wpAny_pure (wpAny_newFunctionEnv (fun y hy => L.own y hy) (fun y hy => ?_) (fun h₁ hns hsb => ⟨hnl.fresh _ hsb, ?_⟩) L.kind)
    · rw [List.mem_singleton.mp hy]
      exact L.par
    show codeAny _ _ (.expr body (lamEnv X scope s1.heap.objs.size f c')) _ _
    have kp : ∀ b o, s1.heap.get? b = some o → h₁.get? b = some o := fun b o e => hsb.extBut b o (Nat.ne_of_lt (Heap.lt_size e)) (Heap.get?_push_of_some _ e)
    exact PySem.W.kla_codeExpr (wpAny_mono (h h₁ _ kp hns) (fun v s' hq => ⟨v, rfl, hq⟩) fun e s' hq => hq.elim)
  refine wpAny_call (codeAny_mono rc fun r s' hq => ?_)
  obtain ⟨u, rfl, hq⟩ := hq
  exact hq
end
/-! ### names within it -/
section
variable {X : Cx} {pins : List (Addr × Obj)} {σ : L2.St} {H : Hp} {s : Shared}
theorem lam_par {A : Around} {a : Str} {scope : Scope} {b f c' : Addr} {p : Pos} {s1 : Shared} {v : Value} {Q E : Value → Shared → Prop} (L : LamS1 a X.env.scope scope) (hns : s1.heap.Ns b (fun y => [(a, v)].reverse.lookup y)) (h : Q v s1) (hd : (a == ("__debug__" : Str)) = false := by decide) :
    wpAny (model X.prog X.w) A (eval (.Name a p) (lamEnv X scope b f c')) Q E s1 :=
  wpAny_Name (wpAny_loadName_local (env := lamEnv X scope b f c') L.kind L.par hns (by simp) h) hd
theorem lam_free {a y : Str} {scope : Scope} {i : Nat} {x : V} (I : Inv X pins σ H s) (L : LamS1 a X.env.scope scope) (hy : scope.names.lookup y = some .free) (hN : X.N[i]? = some y) (hσ : σ[i]? = some (some x)) :
    ∃ v, RelV x v ∧ ∀ (A : Around) (b f c' : Addr) (p : Pos) (h : Heap) (tk : Nat) (Q E : Value → Shared → Prop), (∀ b o, s.heap.get? b = some o → h.get? b = some o) → Q v { s with heap := h, toks := tk } → ((y == ("__debug__" : Str)) = false) → ((y == ("__classdict__" : Str)) = false) →
      wpAny (model X.prog X.w) A (eval (.Name y p) (lamEnv X scope b f c')) Q E { s with heap := h, toks := tk } := by
  have hmem : (y, NameKind.free) ∈ scope.names := PySem.mem_of_lookup hy
  have hvis : Vis X.env.scope y := (L.free _ hmem rfl).elim (fun k => .inr (.inl k)) (fun k => .inr (.inr k))
  obtain ⟨m, hn, hl⟩ := I.loc
  obtain ⟨v, r, q⟩ := hl i y x hN hσ hvis
  rcases q with ⟨k', _⟩ | ⟨_, c, hc, o, ho, hd⟩
  · exfalso
    have k' : X.env.scope.names.lookup y = some .local := k'
    rcases L.free _ hmem rfl with k2 | k2 <;> rw [show X.env.scope.names.lookup y = _ from k2] at k' <;> cases k'
  · refine ⟨v, r, fun A b f c' p h tk Q E kp q hdb hcd => ?_⟩
    obtain ⟨c2, h2⟩ : ∃ c2, (cloFrom X.env.cells scope.names []).lookup y = some c2 := mem_lookup (cloFrom_has (cells := X.env.cells) (acc := []) hmem)
    have hc2 : c2 = c := by
      rcases cloFrom_mem (PySem.mem_of_lookup h2) with hm | ⟨h3, h4⟩
      · cases hm
      · rw [h4]
        have hc : X.env.cells.lookup y = some c := hc
        rw [hc]; rfl
    subst hc2
    exact wpAny_Name (wpAny_loadName_free (env := lamEnv X scope b f c') L.kind hy h2 ⟨o, kp _ _ ho, hd⟩ q hcd) hdb
end
/-- a list of numbers in a heap, read item by item -/
theorem each_nat : ∀ {ns : List Nat} {its : List Value}, Vals (ns.map nV) its → PySem.W.EachIs (fun (v : Value) (n : Nat) => ∃ t, v = Value.int (n : Int) t) its ns
  | [], _, .nil => .nil
  | n :: ns, _, .cons r t => .cons r (each_nat t)
theorem vals_each : ∀ {ns : List Nat} {its : List Value}, PySem.W.EachIs (fun (v : Value) (n : Nat) => ∃ t, v = Value.int (n : Int) t) its ns → Vals (ns.map nV) its
  | _, _, .nil => .nil
  | _, _, .cons r t => .cons r (vals_each t)
def keyIx (z : List Nat) (n : Nat) : PyData := .str (S [z.getD n 0])
theorem keyIx_le (z : List Nat) : PySem.W.dataLe false (keyIx z) = fun i j => decide (z.getD i 0 ≤ z.getD j 0) := by
  funext i j
  rw [PySem.W.dataLe_eq]
  show (!PySem.W.dataLt (.str (S [z.getD j 0])) (.str (S [z.getD i 0]))) = _
  rw [PySem.W.dataLt_str, S_list, S_list]
  by_cases h : z.getD i 0 ≤ z.getD j 0
  · rw [decide_eq_true h, decide_eq_false]; rfl
    intro h2
    rcases List.cons_lt_cons_iff.mp h2 with h3 | ⟨_, h3⟩
    · omega
    · exact List.lt_irrefl _ h3
  · rw [decide_eq_false h, decide_eq_true]; rfl
    exact List.cons_lt_cons_iff.mpr (.inl (by omega))
/-- sorted(ns, key = lambda a: y[a]) -/
def tSortIx (K : PySem.W.Frag) (T : List (Addr × Str)) (iy : Nat) (te : TE) : TE := fun σ H Q => te σ H fun x H1 => ∃ (l : Addr) (ns z : List Nat), x = .ref l ∧ SqL K H1 l (ns.map nV) ∧ (∀ n, n ∈ ns → n < z.length) ∧ ns.length ≤ sizeLine ∧ z.length ≤ sizeLine ∧
  σ[iy]? = some (some (.str (S z))) ∧ Tabs T H1 ∧ ∀ (p : Addr) (H2 : Hp), ExtN H1 H2 → Tabs T H2 → H2 p = none → Q (.ref p) (upd H2 p (.lst ((ns.mergeSort fun i j => decide (z.getD i 0 ≤ z.getD j 0)).map nV)))
theorem pe_sortIx {X : Cx} {T : List (Addr × Str)} {iy : Nat} {a y : Str} {e : Expr} {te : TE} {c P : Addr} {params : Arguments} {scope : Scope} {p pos lpos kp p1 p2 p3 : Pos} (hg : Gl X "sorted") (hm : X.mg "sorted" = none) (he : PE X e te)
    (TB : TabB X.base X.mg c P) (hcode : X.env.code = .ref c) (hmT : (P, X.env.qual ++ "<lambda>") ∈ T) (hu : ∀ p ∈ T, p.1 = P → p.2 = X.env.qual ++ "<lambda>") (hr : Room 3 X.A) (L : LamS1 a X.env.scope scope) (hy : scope.names.lookup y = some .free) (hN : X.N[iy]? = some y) (hdef : defaultsOf params X.env = ([], []))
    (hbind : ∀ (q : Str) (cl : List (Str × Addr)) (pm cv ctv v : Value), bindArgs (PySem.W.kla_fn "<lambda>" q params (.Subscript (.Name y p1) (.Name a p2) p3) scope cl pm cv ctv) ⟨[v], []⟩ = pure [(a, v)])
    (hda : (a == ("__debug__" : Str)) = false := by decide) (hdy : (y == ("__debug__" : Str)) = false := by decide) (hcy : (y == ("__classdict__" : Str)) = false := by decide)
    (hs : starEach [e] X.env = (false, eval e X.env) :: starEach [] X.env := by rfl) (h1 : backTo pos (starEach [e] X.env) = (false, eval e X.env) :: backTo pos (starEach [] X.env) := by rfl) (hpl : (backTo pos (starEach [e] X.env)).any (·.1) = false := by rfl) :
    PE X (.Call (.Name "sorted" p) [e] [⟨some "key", .Lambda params (.Subscript (.Name y p1) (.Name a p2) p3) scope lpos, kp⟩] pos) (tSortIx X.K T iy te) := by
  refine ⟨fun pins s σ H Q I h => ?_⟩
  refine wpAny_Call_Name_kw (ld_blt I hg hm (show bootBuiltins "sorted" = some (.builtin "sorted") by decide +kernel) ?_)
  refine PyProof.Rows.callWith_kw (thn ((pa_cons he pa_nil hs : PA X [e] _).run pos pins s σ H (one1 fun x H1 => ∃ (l : Addr) (ns z : List Nat), x = .ref l ∧ SqL X.K H1 l (ns.map nV) ∧ (∀ n, n ∈ ns → n < z.length) ∧ ns.length ≤ sizeLine ∧ z.length ≤ sizeLine ∧
    σ[iy]? = some (some (.str (S z))) ∧ Tabs T H1 ∧ ∀ (p : Addr) (H2 : Hp), ExtN H1 H2 → Tabs T H2 → H2 p = none → Q (.ref p) (upd H2 p (.lst ((ns.mergeSort fun i j => decide (z.getD i 0 ≤ z.getD j 0)).map nV)))) I h) fun us s1 ⟨vs, H1, I1, r1, q1⟩ => ?_) h1 hpl
  obtain ⟨x, rfl, l, ns, z, rfl, hS, hlt, hz, hzz, hσ, hT, q⟩ := one1_is q1
  obtain ⟨u, rfl, ru⟩ := vals1 r1
  cases ru
  refine kws_cons (lam_make2 I1 TB hcode hmT hu hT hdef (L.has I1.ok) fun f c' pm ctv H2 s2 I2 eN T2 hf hfn hfr hco => kws_nil ?_)
  have hS2 : SqL X.K H2 l (ns.map nV) := by
    rcases hS with (hS | ⟨o, hS⟩) | hS
    · exact .inl (.inl (eN _ _ hS fun ps e => by cases e))
    · exact .inl (.inr ⟨o, eN _ _ hS fun ps e => by cases e⟩)
    · exact .inr hS
  obtain ⟨its, rv, hl, _⟩ := I2.list hS2
  have hei := each_nat rv
  obtain ⟨vy, ry, hrd⟩ := lam_free I2 L hy hN hσ
  obtain ⟨ty, rfl⟩ := ry
  have hn := line63
  have hsl := sizeLine_eq
  have hE := PySem.W.sorted_key_data (prog := X.prog) (w := X.w) (A := X.A) (s := s2) (E := X.xe) (Q := EP X pins σ Q) (R := fun (v : Value) (n : Nat) => ∃ t, v = Value.int (n : Int) t) (b := false) (f := .ref f) (l := l) (kw := [(Str.ofString "key", .ref f)]) (vs := its) (bs := ns) (keyIx z) hl.isList hei
  refine hE ?_ ?_ hz (fun x _ => ?_) (ksk_s1 _ _) (fun x => ksk_l1 _ _) (fun x => ksk_t1 _ _) (fun v n hv hn h tk kp => ?_) (fun out cn h' tk kp hfr2 hD hol hout => ?_)
  · exact PySem.W.AllAlike.of (enc := keyIx z) fun i j => PySem.W.DatumOrd.alike (S [z.getD i 0]) (S [z.getD j 0])
  · refine .inr fun d hd => ?_
    obtain ⟨n, _, rfl⟩ := List.mem_map.mp hd
    exact ⟨(fun e => by cases e), fun xs e => by cases e⟩
  · have := hr.units
    show X.A.units + 2 + (PyData.str _).depth < cLine
    simp only [PyData.depth]
    omega
  · obtain ⟨t, rfl⟩ := hv
    have hnz := hlt n hn
    obtain ⟨⟨oc, vs, tq, hoc, hdc, hvc⟩, _, _⟩ := I2.hok c' _ hco
    have Ik : Inv X pins σ H2 { s2 with heap := h, toks := tk } := I2.kept kp
    refine lam_call (s1 := { s2 with heap := h, toks := tk }) L (hr.in1.in1) (kp _ _ hf) ⟨oc, vs, tq, kp _ _ hoc, hdc, hvc⟩ Ik.nolimit (hbind _ _ _ _ _ _) (fun h₁ tk1 kp1 hns => ?_)
    have kp2 : ∀ b o, s2.heap.get? b = some o → h₁.get? b = some o := fun b o e => kp1 b o (kp b o e)
    refine Subscript_Name ?_
    refine hrd _ _ _ _ _ h₁ tk1 _ _ kp2 ?_ hdy hcy
    refine lam_par L hns ?_ hda
    refine ⟨"str", "str.__getitem__", slot_str_getitem.lookup, typeIs_str _ _ _, ?_⟩
    refine getItem_str (c := z.getD n 0) (by
      have e1 : decide ((n : Int) < -(2 ^ 63 : Int)) = false := decide_eq_false (by omega)
      have e2 : decide ((n : Int) ≥ 2 ^ 63) = false := decide_eq_false (by omega)
      rw [e1, e2, Bool.or_false]) ?_ ?_
    · have hg : (S z).cps.toList[n]? = some (z.getD n 0) := by
        rw [S_list, List.getD_eq_getElem?_getD, List.getElem?_eq_getElem hnz]; rfl
      obtain ⟨j, g1, g2, _⟩ := atI_get (atI_nat hg)
      have hlz : (S z).cps.toList.length = (S z).length := by simp [Str.length]
      rw [hlz] at g1
      rw [g1]
      simpa using g2
    · exact ⟨h₁, _, rfl, fun b o e => kp1 b o e, Reads.str _ _⟩
  · rw [keyIx_le] at hout
    have hvv := vals_each hout
    exact ⟨.ref (s2.heap.objs.size + 1), upd H2 (s2.heap.objs.size + 1) (.lst ((ns.mergeSort fun i j => decide (z.getD i 0 ≤ z.getD j 0)).map nV)), I2.laid (t' := tk) kp (Nat.le_succ _)
      (show ObjOk X.prog X.w _ _ _ (.lst ((ns.mergeSort fun i j => decide (z.getD i 0 ≤ z.getD j 0)).map nV)) from ⟨by rw [List.length_map, (List.mergeSort_perm _ _).length_eq]; exact hz, out, cn, hvv, hD⟩), rfl, q _ H2 eN T2 (I2.hok.fresh (Nat.le_succ _))⟩
theorem v_sortIx {K : PySem.W.Frag} {T : List (Addr × Str)} {iy : Nat} {te : TE} {σ : L2.St} {H : Hp} {Q : VK} (q : te σ H fun x H1 => ∃ (l : Addr) (ns z : List Nat), x = .ref l ∧ SqL K H1 l (ns.map nV) ∧ (∀ n, n ∈ ns → n < z.length) ∧ ns.length ≤ sizeLine ∧ z.length ≤ sizeLine ∧
  σ[iy]? = some (some (.str (S z))) ∧ Tabs T H1 ∧ ∀ (p : Addr) (H2 : Hp), ExtN H1 H2 → Tabs T H2 → H2 p = none → Q (.ref p) (upd H2 p (.lst ((ns.mergeSort fun i j => decide (z.getD i 0 ≤ z.getD j 0)).map nV)))) : tSortIx K T iy te σ H Q := q
/-! ### a def whose own code object is known; the end of a law with a table -/
section
variable {P : Program} {w : World} {K : PySem.W.Frag} {mg : Str → Option Value} {base : Heap}
theorem okT {x qual : Str} {st : Stmt} {f : Addr} {fd : FuncData} {N ps : List Str} {k : Nat} {sp : Sp} {cv : Value} (F : Fun K x qual st f fd) (hc : fd.code = cv) (S : FnScope N ps (defScope st)) (len : ∀ vs H Q E, sp vs H Q E → vs.length = ps.length)
    (hbody : ∀ (A : Around) (outer : List Env) (s : Shared) (H : Hp) (vs : List V) (Q : VK) (E : XK), Room k (A.deeper (envOfC qual (defScope st) s.heap.objs.size f cv)) → sp vs H Q E →
      ∃ t, PSs (cxOf CX0 P w K mg base N qual (defScope st) f cv A outer s H E).nox (defBody st) t ∧ t { nx := fun _ H' => Q .non H', rt := Q } (L2.start N vs) H) : FnOk P w K mg base CX0 (k + 1) f fd ps sp := by
  obtain ⟨oc, od, kV, doc, pm, an, cdv, ct, osl, rfl, lk, hcd⟩ := F.ex
  have e : cdv = cv := hc
  subst e
  refine fn_of lk hcd S len fun A outer s H vs Q E hr hsp => ?_
  obtain ⟨t, h, q⟩ := hbody A outer s H vs Q E hr hsp
  exact ⟨t, h.nox, q⟩
end
theorem walk_tab {l : PySem.W.OpenLaw} {n k : Nat} {q : Program} {loose : List Str} {XP : (Str → Option Value) → Heap → Prop} {YP : World → Heap → Prop} {d : DefRec} {K : Params → PySem.W.Frag} {CX : World → CXT} {x xs : Str}
    (hn : l.most = some n) (hn2 : n ≤ sizeLine) (hdf : d.params.defaults = []) (hr : Room k callerA) (hY : ∀ (w : World) (h : Heap), YP w h → (K w.params).In h) (hrec : ((PyProof.Rows.recsOf q).find? (fun e => e.name == xs)).isSome = true)
    (F : ∀ (w : World) (mg : Str → Option Value) (fa : Addr) (h : Heap), (K w.params).In h → h.Ns mainGlobals mg → mg d.name = some (.ref fa) → (∀ c P, PySem.W.tabIn (K w.params) xs = some (c, P) → PySem.W.CodeHd h c P ∧ h.get? P = some (PySem.W.tabObj #[])) → LawAtS l w (K w.params) (CX w) k n x mg fa h)
    (hCX : ∀ (w : World) (H : Hp) (s : Shared) (e : Value) (s' : Shared), CX w [] H s (fun _ _ _ => False) e s' → False) :
    PySem.W.WalkO q loose XP YP l.row.toRowW d [] (fun f vs => PySem.call f vs) := by
  refine Att.attach_callB hn hdf fun w s₀ s₁ mg mb fa o pm cd doc a vs ns G Y ho hd hcd hmg hobj hints hlen hbits hg => ?_
  have KX := hY w _ Y
  obtain ⟨dr, hdr⟩ := Option.isSome_iff_exists.mp hrec
  obtain ⟨fd, cs, sp, hT, nT, C, hb, hsp, hF⟩ := F w mg fa _ KX G.T.g hmg fun c P ht => PySem.W.tab_of G.T KX hdr ht
  exact law_callTs KX G.T.g G.T.b G.T.builtins G.T.nolimit hg hT nT C G.T.bmain hobj hints (Nat.le_trans hlen hn2) hr hF hb (fun H hH hS => hsp H a ns hlen hbits hH hS) fun H e s' => hCX w H s₁ e s'
/-- the name that the code object of a lambda in the def x bears -/
abbrev lamQ (x : Str) : Str := (x ++ ".<locals>.") ++ "<lambda>"
/-- the place of a text in a list of texts -/
theorem v_idxLX {K : PySem.W.Frag} {H : Hp} {Q : VK} {a : Addr} {xs : List (List Nat)} {m : List Nat} (hs : SqL K H a (xs.map tV)) (hm : m ∈ xs) (q : Q (.int (xs.idxOf m : Nat)) H) : rIndex K (.ref a) [.str (S m)] H Q := by
  have hl := List.idxOf_lt_length_of_mem hm
  refine ⟨a, _, .str (S m), xs.idxOf m, tV m, rfl, rfl, hs, rfl, flat_tV xs, ?_, ?_, fun k z hk hz => ?_, q⟩
  · rw [List.getElem?_map, List.getElem?_eq_getElem hl, List.getElem_idxOf hl]; rfl
  · show eqV (tV m) (tV m) = true
    rw [eqV_tV]; simp
  · rw [List.getElem?_map, List.getElem?_eq_getElem (by omega)] at hz
    cases hz
    show eqV (tV _) (tV m) = false
    rw [eqV_tV]
    have := List.not_of_lt_findIdx (p := (· == m)) (xs := xs) (i := k) hk
    simpa using this
end Sh

namespace Sh
open PySem PySem.Spec PyProof.Rows L2 LamX
/-! ### sorted(texts, key = lambda a: (len(a), a)) -/
section
variable {X : Cx} {pins : List (Addr × Obj)} {σ : L2.St} {H : Hp} {s : Shared}
/-- a built-in's name within a lambda -/
theorem lam_blt {A : Around} {a y : Str} {scope : Scope} {b f c' : Addr} {p : Pos} {h : Heap} {tk : Nat} {u : Value} {Q E : Value → Shared → Prop} (I : Inv X pins σ H s) (L : LamS1 a X.env.scope scope) (hy : (lamEnv X scope b f c').kindOf y = some .globalImplicit) (hm : X.mg y = none) (hv : bootBuiltins y = some u)
    (kp : ∀ b o, s.heap.get? b = some o → h.get? b = some o) (q : Q u { s with heap := h, toks := tk }) (hn : y ≠ "__name__" := by decide) (hd : (y == ("__debug__" : Str)) = false := by decide) :
    wpAny (model X.prog X.w) A (eval (.Name y p) (lamEnv X scope b f c')) Q E { s with heap := h, toks := tk } := by
  have Ik : Inv X pins σ H { s with heap := h, toks := tk } := I.kept kp
  obtain ⟨mb, h1, h2⟩ := Ik.mod.blt
  exact Calls.Name_function_global L.kind hy (Calls.loadGlobal_builtin (Ik.mod.glob.keeps Ik.bk) hm (h1.keeps Ik.bk) ((h2 y hn).trans hv) q) hd
end
theorem each_txt : ∀ {xs : List (List Nat)} {its : List Value}, Vals (xs.map tV) its → PySem.W.EachIs (fun (v : Value) (x : List Nat) => ∃ t, v = Value.str (S x) t) its xs
  | [], _, .nil => .nil
  | _ :: _, _, .cons r t => .cons r (each_txt t)
theorem vals_txt : ∀ {xs : List (List Nat)} {its : List Value}, PySem.W.EachIs (fun (v : Value) (x : List Nat) => ∃ t, v = Value.str (S x) t) its xs → Vals (xs.map tV) its
  | _, _, .nil => .nil
  | _, _, .cons r t => .cons r (vals_txt t)
def oLw (x : List Nat) : Int × Str := ((x.length : Int), S x)
def keyLw (x : List Nat) : PyData := PySem.W.Datum.toD (oLw x)
/-- by the length, then as texts -/
def lwB (x y : List Nat) : Bool := decide (x.length < y.length ∨ (x.length = y.length ∧ ¬ y < x))
theorem keyLw_le : PySem.W.dataLe false keyLw = lwB := by
  funext x y
  rw [PySem.W.dataLe_eq]
  show (!PySem.W.dataLt (PySem.W.Datum.toD (oLw y)) (PySem.W.Datum.toD (oLw x))) = _
  rw [PySem.W.DatumOrd.lt_eq]
  show (!(if (y.length : Int) = (x.length : Int) then decide ((S y).cps.toList < (S x).cps.toList) else decide ((y.length : Int) < (x.length : Int)))) = _
  rw [S_list, S_list]
  unfold lwB
  by_cases h : y.length = x.length
  · rw [if_pos (by omega)]
    by_cases h2 : y < x
    · rw [decide_eq_true h2, decide_eq_false]; rfl
      rintro (h3 | ⟨_, h3⟩)
      · omega
      · exact h3 h2
    · rw [decide_eq_false h2, decide_eq_true]; rfl
      exact .inr ⟨h.symm, h2⟩
  · rw [if_neg (by omega)]
    by_cases h2 : y.length < x.length
    · rw [decide_eq_true (by omega : (y.length : Int) < (x.length : Int)), decide_eq_false]; rfl
      rintro (h3 | ⟨h3, _⟩) <;> omega
    · rw [decide_eq_false (by omega : ¬ (y.length : Int) < (x.length : Int)), decide_eq_true]; rfl
      exact .inl (by omega)
def tSortLw (K : PySem.W.Frag) (T : List (Addr × Str)) (te : TE) : TE := fun σ H Q => te σ H fun x H1 => ∃ (l : Addr) (xs : List (List Nat)), x = .ref l ∧ SqL K H1 l (xs.map tV) ∧ xs.length ≤ sizeLine ∧ (∀ y, y ∈ xs → y.length ≤ sizeLine) ∧
  Tabs T H1 ∧ ∀ (p : Addr) (H2 : Hp), ExtN H1 H2 → Tabs T H2 → H2 p = none → Q (.ref p) (upd H2 p (.lst ((xs.mergeSort lwB).map tV)))
theorem pe_sortLw {X : Cx} {T : List (Addr × Str)} {a : Str} {e : Expr} {te : TE} {c P : Addr} {params : Arguments} {scope : Scope} {p pos lpos kp p1 p2 p3 p4 p5 : Pos} {kd : Nat} (hg : Gl X "sorted") (hm : X.mg "sorted" = none) (he : PE X e te)
    (TB : TabB X.base X.mg c P) (hcode : X.env.code = .ref c) (hmT : (P, X.env.qual ++ "<lambda>") ∈ T) (hu : ∀ p ∈ T, p.1 = P → p.2 = X.env.qual ++ "<lambda>") (hr : Room 3 X.A) (L : LamS1 a X.env.scope scope) (hml : X.mg "len" = none)
    (hyl : ∀ (b f c' : Addr), (lamEnv X scope b f c').kindOf "len" = some .globalImplicit) (hdef : defaultsOf params X.env = ([], []))
    (hbind : ∀ (q : Str) (cl : List (Str × Addr)) (pm cv ctv v : Value), bindArgs (PySem.W.kla_fn "<lambda>" q params (.Tuple [.Call (.Name "len" p1) [.Name a p2] [] p3, .Name a p4] kd p5) scope cl pm cv ctv) ⟨[v], []⟩ = pure [(a, v)])
    (hda : (a == ("__debug__" : Str)) = false := by decide)
    (hs : starEach [e] X.env = (false, eval e X.env) :: starEach [] X.env := by rfl) (h1 : backTo pos (starEach [e] X.env) = (false, eval e X.env) :: backTo pos (starEach [] X.env) := by rfl) (hpl : (backTo pos (starEach [e] X.env)).any (·.1) = false := by rfl) :
    PE X (.Call (.Name "sorted" p) [e] [⟨some "key", .Lambda params (.Tuple [.Call (.Name "len" p1) [.Name a p2] [] p3, .Name a p4] kd p5) scope lpos, kp⟩] pos) (tSortLw X.K T te) := by
  refine ⟨fun pins s σ H Q I h => ?_⟩
  refine wpAny_Call_Name_kw (ld_blt I hg hm (show bootBuiltins "sorted" = some (.builtin "sorted") by decide +kernel) ?_)
  refine PyProof.Rows.callWith_kw (thn ((pa_cons he pa_nil hs : PA X [e] _).run pos pins s σ H (one1 fun x H1 => ∃ (l : Addr) (xs : List (List Nat)), x = .ref l ∧ SqL X.K H1 l (xs.map tV) ∧ xs.length ≤ sizeLine ∧ (∀ y, y ∈ xs → y.length ≤ sizeLine) ∧
    Tabs T H1 ∧ ∀ (p : Addr) (H2 : Hp), ExtN H1 H2 → Tabs T H2 → H2 p = none → Q (.ref p) (upd H2 p (.lst ((xs.mergeSort lwB).map tV)))) I h) fun us s1 ⟨vs, H1, I1, r1, q1⟩ => ?_) h1 hpl
  obtain ⟨x, rfl, l, xs, rfl, hS, hz, hxz, hT, q⟩ := one1_is q1
  obtain ⟨u, rfl, ru⟩ := vals1 r1
  cases ru
  refine kws_cons (lam_make2 I1 TB hcode hmT hu hT hdef (L.has I1.ok) fun f c' pm ctv H2 s2 I2 eN T2 hf hfn hfr hco => kws_nil ?_)
  have hS2 : SqL X.K H2 l (xs.map tV) := by
    rcases hS with (hS | ⟨o, hS⟩) | hS
    · exact .inl (.inl (eN _ _ hS fun ps e => by cases e))
    · exact .inl (.inr ⟨o, eN _ _ hS fun ps e => by cases e⟩)
    · exact .inr hS
  obtain ⟨its, rv, hl, _⟩ := I2.list hS2
  have hei := each_txt rv
  have hn := line63
  have hsl := sizeLine_eq
  have hE := PySem.W.sorted_key_data (prog := X.prog) (w := X.w) (A := X.A) (s := s2) (E := X.xe) (Q := EP X pins σ Q) (R := fun (v : Value) (x : List Nat) => ∃ t, v = Value.str (S x) t) (b := false) (f := .ref f) (l := l) (kw := [(Str.ofString "key", .ref f)]) (vs := its) (bs := xs) keyLw hl.isList hei
  refine hE ?_ ?_ hz (fun x _ => ?_) (ksk_s1 _ _) (fun x => ksk_l1 _ _) (fun x => ksk_t1 _ _) (fun v x hv hx h tk kp => ?_) (fun out cn h' tk kp hfr2 hD hol hout => ?_)
  · exact PySem.W.AllAlike.of (enc := keyLw) fun i j => PySem.W.DatumOrd.alike (oLw i) (oLw j)
  · exact .inl fun d hd => by
      obtain ⟨x, _, rfl⟩ := List.mem_map.mp hd
      exact ⟨_, _, rfl⟩
  · have := hr.units
    show X.A.units + 2 + (PyData.tuple [.int _, .str _]).depth < cLine
    simp only [PyData.depth, PyData.depthAll]
    omega
  · obtain ⟨t, rfl⟩ := hv
    have hxl := hxz x hx
    obtain ⟨⟨oc, vs, tq, hoc, hdc, hvc⟩, _, _⟩ := I2.hok c' _ hco
    have Ik : Inv X pins σ H2 { s2 with heap := h, toks := tk } := I2.kept kp
    refine lam_call (s1 := { s2 with heap := h, toks := tk }) L (hr.in1.in1) (kp _ _ hf) ⟨oc, vs, tq, kp _ _ hoc, hdc, hvc⟩ Ik.nolimit (hbind _ _ _ _ _ _) (fun h₁ tk1 kp1 hns => ?_)
    have kp2 : ∀ b o, s2.heap.get? b = some o → h₁.get? b = some o := fun b o e => kp1 b o (kp b o e)
    refine wpAny_Tuple (wpAny_items_cons (Call_Name1 (lam_blt Ik L (hyl _ _ _) hml (show bootBuiltins "len" = some (.builtin "len") by decide +kernel) kp1 ?_)))
    refine Calls.callWith_builtin rfl (Calls.evalArgs_plain (Calls.spliced_cons (lam_par L hns (Calls.spliced_nil ?_) hda)))
    refine len_str (by rw [S_len]; omega) ?_
    refine wpAny_items_cons (lam_par L hns (wpAny_items_nil ?_) hda)
    refine ⟨by show 2 ≤ sizeLine; omega, h₁.push _, _, rfl, fun b o e => Heap.get?_push_of_some _ (kp1 b o e), ?_⟩
    rw [S_len]
    exact Reads.tuple (o := { cls := .type "tuple", data := .seq [_, _].toArray }) (Heap.get?_push_size _ rfl) rfl rfl (.cons (.int _ _) (.cons (.str _ _) .nil))
  · rw [keyLw_le] at hout
    have hvv := vals_txt hout
    exact ⟨.ref (s2.heap.objs.size + 1), upd H2 (s2.heap.objs.size + 1) (.lst ((xs.mergeSort lwB).map tV)), I2.laid (t' := tk) kp (Nat.le_succ _)
      (show ObjOk X.prog X.w _ _ _ (.lst ((xs.mergeSort lwB).map tV)) from ⟨by rw [List.length_map, (List.mergeSort_perm _ _).length_eq]; exact hz, out, cn, hvv, hD⟩), rfl, q _ H2 eN T2 (I2.hok.fresh (Nat.le_succ _))⟩
theorem v_sortLw {K : PySem.W.Frag} {T : List (Addr × Str)} {te : TE} {σ : L2.St} {H : Hp} {Q : VK} (q : te σ H fun x H1 => ∃ (l : Addr) (xs : List (List Nat)), x = .ref l ∧ SqL K H1 l (xs.map tV) ∧ xs.length ≤ sizeLine ∧ (∀ y, y ∈ xs → y.length ≤ sizeLine) ∧
  Tabs T H1 ∧ ∀ (p : Addr) (H2 : Hp), ExtN H1 H2 → Tabs T H2 → H2 p = none → Q (.ref p) (upd H2 p (.lst ((xs.mergeSort lwB).map tV)))) : tSortLw K T te σ H Q := q
/-- what such a sort gives -/
theorem lw_sorted (xs : List (List Nat)) : (xs.mergeSort lwB).Pairwise fun x y => x.length < y.length ∨ (x.length = y.length ∧ ¬ y < x) := by
  have h := List.pairwise_mergeSort (le := lwB) (fun a b c h1 h2 => by
    unfold lwB at h1 h2 ⊢
    rw [decide_eq_true_eq] at h1 h2 ⊢
    rcases h1 with h1 | ⟨h1, h3⟩ <;> rcases h2 with h2 | ⟨h2, h4⟩
    · exact .inl (by omega)
    · exact .inl (by omega)
    · exact .inl (by omega)
    · exact .inr ⟨by omega, fun h => h4 (Std.lt_of_lt_of_le h (List.not_lt.mp h3))⟩) (fun a b => by
    unfold lwB
    rw [Bool.or_eq_true, decide_eq_true_eq, decide_eq_true_eq]
    rcases Nat.lt_trichotomy a.length b.length with h | h | h
    · exact .inl (.inl h)
    · by_cases h2 : b < a
      · exact .inr (.inr ⟨h.symm, List.lt_asymm h2⟩)
      · exact .inl (.inr ⟨h, h2⟩)
    · exact .inr (.inl h)) xs
  refine h.imp fun {a b} hab => ?_
  unfold lwB at hab
  rwa [decide_eq_true_eq] at hab
end Sh

namespace Sh
open PySem PySem.Spec PyProof.Rows L2
/-! ### d.setdefault(k, x), keys that are texts or ints -/
def tSetDef (td ty tx : TE) : TE := fun σ H Q => td σ H fun x H1 => ∃ a, x = .ref a ∧ IsD H1 a ∧ ty σ H1 fun y H2 => tx σ H2 fun z H3 => ∃ kvs k, H3 a = some (.dK kvs) ∧ y = kV k ∧ kvs.length < sizeLine ∧
  (∀ v, valV kvs k = some v → Q v H3) ∧ (valV kvs k = none → Q z (upd H3 a (.dK (putK kvs k z))))
theorem d_setdef {X : Cx} {pins : List (Addr × Obj)} {σ : L2.St} {H : Hp} {s : Shared} {a : Addr} {kvs : List (Key × V)} {k : Key} {z : V} {u r : Value} {A : Around} {E : Value → Shared → Prop} {Q : Value → Shared → Prop}
    (I : Inv X pins σ H s) (e : H a = some (.dK kvs)) (ry : RelV (kV k) u) (rz : RelV z r) (hl : kvs.length < sizeLine)
    (h1 : ∀ v w' s', valV kvs k = some v → RelV v w' → Inv X pins σ H s' → Q w' s') (h2 : valV kvs k = none → ∀ s', Inv X pins σ (upd H a (.dK (putK kvs k z))) s' → Q r s') :
    wpAny (model X.prog X.w) A (call (.builtin "dict.setdefault") [.ref a, u, r]) Q E s := by
  obtain ⟨z0, hd, vs, rel, dd⟩ := dk_of I.hok e
  have hz : vs.length ≤ sizeLine := by rw [← rel.length]; exact z0
  have hl2 : (putK kvs k z).length ≤ sizeLine := by have := length_putK kvs k z; omega
  refine call_meetsIn PySem.F.slot_dict_setdefault dd.typeIs PySem.F.entry_dict_setdefault (PySem.F.args_dict_setdefault_3 _ _ _) (kt_meets_setdefault (mixKind X.prog X.w) a (kV_is ry) hd r) ⟨vs, dd, hz, fun v hv => ?_, fun hn h' dd' hs => ?_⟩
  · have hr := rel.val k
    rw [hv] at hr
    cases hk : valV kvs k with
    | none => rw [hk] at hr; cases hr
    | some y =>
      rw [hk] at hr
      exact h1 y v _ hk hr (I.tok _)
  · have hk : valV kvs k = none := by
      have hr := rel.val k
      rw [hn] at hr
      cases hk : valV kvs k with
      | none => rfl
      | some y => rw [hk] at hr; cases hr
    refine h2 hk _ ?_
    have he : ∃ q, h'.get? a = some q := let ⟨q, _, _, hq, _⟩ := dd'; ⟨q, hq⟩
    exact d_write I (by rw [e]; exact True.intro) hs he (dk_new hl2 hd (rel.put k rz) dd')
theorem pe_setdef {X : Cx} {o e f : Expr} {apos cpos : Pos} {td ty tx : TE} (ho : PE X o td) (he : PE X e ty) (hf : PE X f tx) (m : M2 X o "setdefault" apos e f cpos) : PE X (.Call (.Attribute o "setdefault" apos) [e, f] [] cpos) (tSetDef td ty tx) := by
  refine ⟨fun pins s σ H Q I h => ?_⟩
  refine wpAny_Call_method m.base m.few m.line PySem.F.plainAttrs_dict PySem.F.slot_dict_setdefault PySem.F.type_dict_setdefault (thn (ho.run pins s σ H _ I h) fun u s1 ⟨x, H1, I1, rx, a, ex, d, q1⟩ => ?_)
  subst ex
  obtain rfl : u = Value.ref a := rx
  obtain ⟨t1, t2, _⟩ := isD_at I1 d
  refine ⟨t1, t2, ?_⟩
  rw [m.trees]
  refine Calls.callWith_builtin rfl (Calls.evalArgs_plain (Calls.spliced_cons (thn (he.run pins s1 σ H1 _ I1 q1) fun iv s2 ⟨y, H2, I2, ry, q2⟩ =>
    Calls.spliced_cons (thn (hf.run pins s2 σ H2 _ I2 q2) fun fv s3 ⟨z, H3, I3, rz, kvs, k, ea, ey, hl, q3, q4⟩ => Calls.spliced_nil ?_))))
  subst ey
  exact d_setdef I3 ea ry rz hl (fun v w' s' hv rv I4 => ⟨v, H3, I4, rv, q3 v hv⟩) fun hn s' I4 => ⟨z, _, I4, rz, q4 hn⟩
theorem v_setdef {td ty tx : TE} {σ : L2.St} {H : Hp} {Q : VK} (q : td σ H fun x H1 => ∃ a, x = .ref a ∧ IsD H1 a ∧ ty σ H1 fun y H2 => tx σ H2 fun z H3 => ∃ kvs k, H3 a = some (.dK kvs) ∧ y = kV k ∧ kvs.length < sizeLine ∧
  (∀ v, valV kvs k = some v → Q v H3) ∧ (valV kvs k = none → Q z (upd H3 a (.dK (putK kvs k z))))) : tSetDef td ty tx σ H Q := q
/-! ### list(d.values()) of a dict whose keys are tuples -/
theorem kt_vals {H : Hp} {kvs : List (List Key × V)} {xs : List (List Key × Addr × Value)} (r : KT H kvs xs) : Vals (kvs.map (·.2)) (xs.map fun x => x.2.2) := by
  unfold KT at r
  induction r with
  | nil => exact .nil
  | cons h _ ih => exact .cons h.2.2 ih
def tListV (td : TE) : TE := fun σ H Q => td σ H fun x H1 => ∃ (d : Addr) (kvs : List (List Key × V)), x = .ref d ∧ H1 d = some (.dT kvs) ∧ ∀ p, H1 p = none → Q (.ref p) (upd H1 p (.lst (kvs.map (·.2))))
theorem v_listV {td : TE} {σ : L2.St} {H : Hp} {Q : VK} (q : td σ H fun x H1 => ∃ (d : Addr) (kvs : List (List Key × V)), x = .ref d ∧ H1 d = some (.dT kvs) ∧ ∀ p, H1 p = none → Q (.ref p) (upd H1 p (.lst (kvs.map (·.2))))) : tListV td σ H Q := q
theorem pe_listV {X : Cx} {e : Expr} {td : TE} {x : Str} {p pos apos cpos : Pos} (hc : X.calm = true) (hg : Gl X x) (hm : X.mg x = none) (hv : bootBuiltins x = some (.type "list")) (he : PE X e td) (hn : x ≠ "__name__" := by decide) (hdb : (x == ("__debug__" : Str)) = false := by decide)
    (hbase : attributeBase e "values" X.env (eval e X.env) = eval e X.env := by rfl) (hline : (apos.endLine == cpos.line) = true := by rfl)
    (hes : starEach [.Call (.Attribute e "values" apos) [] [] cpos] X.env = (false, eval (.Call (.Attribute e "values" apos) [] [] cpos) X.env) :: starEach [] X.env := by rfl) (hpl : (backTo pos (starEach [] X.env)).any (·.1) = false := by rfl) :
    PE X (.Call (.Name x p) [.Call (.Attribute e "values" apos) [] [] cpos] [] pos) (tListV td) := by
  refine ⟨fun pins s σ H Q I h => ?_⟩
  refine wpAny_Call_Name_kw (ld_blt I hg hm hv ?_ hn hdb)
  refine PyProof.Rows.callWith_type1 ?_ hes hpl
  rw [hes]
  show wpAny _ _ (spliced ((false, eval (.Call (.Attribute e "values" apos) [] [] cpos) X.env) :: backTo pos (starEach [] X.env))) _ _ s
  refine Calls.spliced_cons ?_
  refine wpAny_Call_method (T := "dict") (id := "dict.values") hbase rfl hline F.plainAttrs_dict F.slot_dict_values F.type_dict_values (thn (he.run pins s σ H _ I h) fun u s1 ⟨x, H1, I1, rx, d, kvs, ex, hd, q⟩ => ?_)
  subst ex
  obtain rfl : u = Value.ref d := rx
  obtain ⟨z, lo, xs, rel, dd⟩ := dt_rd I1.hok (.inl hd)
  obtain ⟨es, ep, hr, hsz, hes2⟩ := dd.raw
  refine ⟨dd.typeIs, fun b q => by cases q; obtain ⟨ob, h1, h2, _⟩ := hr; exact ⟨ob, h1, h2.2.1⟩, ?_⟩
  have I2 : Inv X pins σ H1 { s1 with heap := s1.heap.push { cls := .type "dict_values", data := .fields #[.ref d] } } := I1.kept (t' := s1.toks) fun b ob q => Heap.get?_push_of_some _ q
  have hl : kvs.length = xs.length := Paired.length rel
  show wpAny _ _ (callWith cpos (.builtin "dict.values") [.ref d] [] []) _ X.xe s1
  refine method_meetsIn F.slot_dict_values F.entry_dict_values rfl (PySem.evalArgs_none ⟨rfl, dd.typeIs, F.args_dict_values_1 _, _, meets_dict_values_raw d lo, ⟨es, ep, hr⟩, ?_⟩)
  refine Calls.spliced_nil ?_
  refine PySem.W.kdl_call (s := { s1 with heap := s1.heap.push { cls := .type "dict_values", data := .fields #[.ref d] } }) (PySem.KdlSrc.rawValues (r := s1.heap.objs.size) (d := d) (es := es) (ep := ep)) (I.ok.hd hc) ⟨⟨_, Heap.get?_push_size _ rfl, rfl, rfl⟩, hr.at fun o e => Heap.get?_push_of_some _ e⟩ (by omega) fun h' tk acc c hk hS hacc => ?_
  have hv : acc.toList = xs.map fun x => x.2.2 := by
    refine List.ext_getElem? fun j => ?_
    rw [Array.getElem?_toList, List.getElem?_map]
    by_cases hj : j < es.size
    · have hja : j < acc.size := by rw [hacc.1]; exact hj
      obtain ⟨hi, e⟩ := hacc.2 j acc[j] (Array.getElem?_eq_getElem hja)
      obtain ⟨y, hy, _, e2, _⟩ := hes2 j hj
      rw [Array.getElem?_eq_getElem hja, hy, e, e2]; rfl
    · rw [Array.getElem?_eq_none (by rw [hacc.1]; omega), List.getElem?_eq_none (by omega)]; rfl
  refine ⟨.ref _, upd H1 _ (.lst (kvs.map (·.2))), I2.laid (t' := tk) hk (Nat.le_refl _) (show ObjOk X.prog X.w _ _ _ (.lst (kvs.map (·.2))) from ⟨by rw [List.length_map]; exact z, acc.toList, c, by rw [hv]; exact kt_vals rel, ?_⟩), rfl, q _ (I2.hok.fresh (Nat.le_refl _))⟩
  rw [Array.toArray_toList]
  exact hS
end Sh

namespace Sh
open PySem PySem.Spec PyProof.Rows L2
theorem hu65 {A : Around} {k : Nat} (hr : Room k A) : A.units + 65 < cLine := by have := hr.un; omega
/-! ### pairs (the length of a text, the text) -/
def eLw (w : List Nat) : List V := [.int (w.length : Int), .str (S w)]
def dLw (w : List Nat) : List PyData := [.int (w.length : Int), .str (S w)]
def oLwP (w : List Nat) : Int × Str := ((w.length : Int), S w)
abbrev lwR (x y : List Nat) : Prop := x.length < y.length ∨ (x.length = y.length ∧ x < y)
theorem dp_Lw {K : PySem.W.Frag} {H : Hp} (w : List Nat) : DpAll K H (eLw w) (dLw w) := .cons (.int _) (.cons (.str _) .nil)
theorem shp_Lw {w : List Nat} (h : ∀ c, c ∈ w → c < 55000) {n : Nat} : Shp (.tuple (dLw w)) (n + 1) := Shp.tup (.cons (Shp.int _) (.cons (Shp.str h) .nil))
theorem eqv_Lw (z y : List Nat) : PyData.eqv (.tuple (dLw z)) (.tuple (dLw y)) = decide (z = y) := by
  have e : (S z == S y) = decide (z = y) := by
    by_cases h : z = y
    · rw [h]; simp
    · rw [decide_eq_false h]
      exact beq_eq_false_iff_ne.mpr fun e => h (S_inj e)
  show PyData.eqv (.tuple [.int _, .str _]) (.tuple [.int _, .str _]) = _
  simp only [PyData.eqv, PyData.eqvAll, Bool.and_true, e]
  by_cases h : z = y
  · rw [h]; simp
  · rw [decide_eq_false h]; simp
theorem ltLwP (x y : List Nat) : PySem.W.DatumOrd.lt (oLwP x) (oLwP y) = decide (lwR x y) := by
  show (if (x.length : Int) = (y.length : Int) then decide ((S x).cps.toList < (S y).cps.toList) else decide ((x.length : Int) < (y.length : Int))) = _
  rw [S_list, S_list]
  by_cases h : x.length = y.length
  · rw [if_pos (by rw [h])]
    exact decide_eq_decide.mpr ⟨fun h2 => .inr ⟨h, h2⟩, fun h2 => h2.elim (fun h3 => absurd h3 (by omega)) fun h3 => h3.2⟩
  · rw [if_neg (by omega)]
    exact decide_eq_decide.mpr ⟨fun h2 => .inl (by omega), fun h2 => h2.elim (fun h3 => by omega) fun h3 => absurd h3.1 h⟩
theorem lwR_tr {x y z : List Nat} (h1 : lwR x y) (h2 : lwR y z) : lwR x z := by
  rcases h1 with h1 | ⟨h1, h3⟩ <;> rcases h2 with h2 | ⟨h2, h4⟩
  · exact .inl (by omega)
  · exact .inl (by omega)
  · exact .inl (by omega)
  · exact .inr ⟨by omega, List.lt_trans h3 h4⟩
theorem lwR_irr {x : List Nat} : ¬ lwR x x := fun h => h.elim (fun h => Nat.lt_irrefl _ h) fun h => List.lt_irrefl _ h.2
theorem lwR_tri {x y : List Nat} (h : ¬ lwR x y) (hne : x ≠ y) : lwR y x := by
  rcases Nat.lt_trichotomy x.length y.length with h1 | h1 | h1
  · exact absurd (.inl h1) h
  · refine .inr ⟨h1.symm, ?_⟩
    have h2 : ¬ x < y := fun h2 => h (.inr ⟨h1, h2⟩)
    rcases List.le_iff_lt_or_eq.mp (List.not_lt.mp h2) with h3 | h3
    · exact h3
    · exact absurd h3.symm hne
  · exact .inl h1
theorem maxLw_fold : ∀ (ys : List (List Nat)) (x : List Nat), ∃ m, m ∈ x :: ys ∧ PySem.W.maxOf (oLwP x) (ys.map oLwP) = oLwP m ∧ ∀ y ∈ x :: ys, ¬ lwR m y := by
  intro ys
  induction ys with
  | nil => exact fun x => ⟨x, List.mem_cons_self, rfl, fun y hy => by rw [List.mem_singleton.mp hy]; exact lwR_irr⟩
  | cons z ys ih =>
    intro x
    have e : PySem.W.maxOf (oLwP x) ((z :: ys).map oLwP) = PySem.W.maxOf (if PySem.W.DatumOrd.lt (oLwP x) (oLwP z) = true then oLwP z else oLwP x) (ys.map oLwP) := rfl
    rw [e, ltLwP]
    by_cases h : lwR x z
    · rw [if_pos (decide_eq_true h)]
      obtain ⟨m, i1, i3, i2⟩ := ih z
      refine ⟨m, List.mem_cons_of_mem _ i1, i3, fun y hy => ?_⟩
      rcases List.mem_cons.mp hy with rfl | hy
      · exact fun h2 => i2 z List.mem_cons_self (lwR_tr h2 h)
      · exact i2 y hy
    · rw [if_neg (by rw [decide_eq_true_eq]; exact h)]
      obtain ⟨m, i1, i3, i2⟩ := ih x
      refine ⟨m, ?_, i3, fun y hy => ?_⟩
      · rcases List.mem_cons.mp i1 with e | i1
        · rw [e]; exact List.mem_cons_self
        · exact List.mem_cons_of_mem _ (List.mem_cons_of_mem _ i1)
      · rcases List.mem_cons.mp hy with rfl | hy
        · exact i2 y List.mem_cons_self
        · rcases List.mem_cons.mp hy with rfl | hy
          · intro h2
            by_cases hyx : y = x
            · rw [hyx] at h2; exact i2 x List.mem_cons_self h2
            · exact i2 x List.mem_cons_self (lwR_tr h2 (lwR_tri h fun e => hyx e.symm))
          · exact i2 y (List.mem_cons_of_mem _ hy)
theorem LE.dpO {K : PySem.W.Frag} {H : Hp} {bs : List (Addr × List Nat)} (h : LE eLw H bs) : DpAll K H (bs.map rE) ((bs.map fun z => oLwP z.2).map PySem.W.Datum.toD) := by
  have := h.dp (K := K) dp_Lw
  rw [List.map_map] at this ⊢
  exact this
def rMaxLw (K : PySem.W.Frag) : List V → Hp → VK → Prop := fun vs H Q => ∃ (a : Addr) (bs : List (Addr × List Nat)), vs = [V.ref a] ∧ SqL K H a (bs.map rE) ∧ LE eLw H bs ∧ bs ≠ [] ∧ ∀ z, z ∈ bs → (∀ y ∈ bs, ¬ lwR z.2 y.2) → Q (.ref z.1) H
theorem cr_maxLw {X : Cx} (hc : X.calm = true) (hu : X.A.units + 64 < cLine) : CallR X (.builtin "max") (rMaxLw X.K) := by
  intro pins s σ H vs us Q I r h
  obtain ⟨a, bs, rfl, hs, h3, hne, q⟩ := h
  obtain ⟨its, rv, hl, _⟩ := I.list hs
  rw [Vals.ref1 r]
  obtain ⟨as, hr⟩ := Dp.readsAll I _ _ _ (LE.dpO (K := X.K) h3) rv
  cases bs with
  | nil => exact absurd rfl hne
  | cons b bs =>
    have hh : PySem.W.HoldAll s.heap its.toArray.toList (oLwP b.2 :: (bs.map fun z => oLwP z.2)) := ⟨as, hr⟩
    refine PySem.W.max_list_datum (I.ok.hd hc) hl.isList hh (by show _ + 1 + 1 < _; omega) fun i v h' tk hi hv hk => ?_
    obtain ⟨m, m1, m3, m2⟩ := maxLw_fold (bs.map (·.2)) b.2
    rw [List.map_map] at m3
    have m3 : PySem.W.maxOf (oLwP b.2) (bs.map fun z => oLwP z.2) = oLwP m := m3
    rw [m3] at hv
    obtain ⟨l, va, vb, rfl, hT, Ha, Hb⟩ := PySem.W.pair_of_holds hv
    have hi2 : its[i]? = some (.ref l) := by simpa using hi
    obtain ⟨x, hx, hxr⟩ := vals_getR rv i hi2
    rw [List.getElem?_map] at hx
    obtain ⟨z, hz, rfl⟩ := Option.map_eq_some_iff.mp hx
    have hzm := List.mem_of_getElem? hz
    have hl2 : l = z.1 := by cases hxr; rfl
    subst hl2
    obtain ⟨is3, r3, hT3, _⟩ := I.tuple (SqT.of (h3 z hzm))
    obtain ⟨o, ho, _, n, hd⟩ : s.heap.IsTuple z.1 is3.toArray := hT3
    obtain ⟨o2, ho2, _, n2, hd2⟩ := hT
    rw [hk _ _ ho] at ho2
    obtain rfl := Option.some.inj ho2
    rw [hd] at hd2
    injection hd2 with e1 e2
    have e3 : is3 = [va, vb] := by
      have := congrArg Array.toList e1
      simpa using this
    rw [e3] at r3
    obtain ⟨t1, rfl⟩ := PySem.W.int_of_holds Ha
    obtain ⟨t2, rfl⟩ := PySem.W.str_of_holds Hb
    have hzm2 : z.2 = m := by
      cases r3 with
      | cons q1 r3 =>
        cases r3 with
        | cons q2 r3 =>
          obtain ⟨x2, e2⟩ := q2
          have a2 := (Value.str.inj e2).1
          exact (S_inj a2).symm
    refine ⟨.ref z.1, H, I.kept hk, rfl, q z hzm fun y hy => ?_⟩
    rw [hzm2]
    refine m2 y.2 ?_
    rcases List.mem_cons.mp hy with rfl | h
    · exact List.mem_cons_self
    · exact List.mem_cons_of_mem _ (List.mem_map_of_mem h)
section
variable {K : PySem.W.Frag} {H : Hp} {Q : VK} {a b : Addr} {as bs : List (Addr × List Nat)}
theorem v_maxLw (hs : SqL K H a (bs.map rE)) (h3 : LE eLw H bs) (hne : bs ≠ []) (q : ∀ z, z ∈ bs → (∀ y ∈ bs, ¬ lwR z.2 y.2) → Q (.ref z.1) H) : rMaxLw K [.ref a] H Q := ⟨a, bs, rfl, hs, h3, hne, q⟩
/-- xs.index(pair) -/
theorem v_idxLw {w : List Nat} {j : Nat} (hs : H a = some (.lst (as.map rE))) (hA : LE eLw H as) (hb : H b = some (.tup (eLw w))) (h1 : ∀ z, z ∈ as → ∀ c, c ∈ z.2 → c < 55000) (h2 : ∀ c, c ∈ w → c < 55000)
    (hj : (as.map (·.2))[j]? = some w) (hn : (as.map (·.2)).Nodup) (q : Q (.int (j : Nat)) H) : rIndexD K (.ref a) [.ref b] H Q := by
  refine ⟨a, .ref b, .tuple (dLw w), (as.map (·.2)).map fun e => .tuple (dLw e), j, .tuple (dLw w), rfl, rfl, .lst (SqL.of hs) (hA.dp dp_Lw), .tup (SqT.of hb) (dp_Lw w), ?_, (shp_Lw h2).shaped (n := 1) (by decide), by rw [List.getElem?_map, hj]; rfl, by rw [eqv_Lw]; exact decide_eq_true rfl, fun m z' hm hz => ?_, q⟩
  · refine (Shp.lst (n := 1) (ShpA.of fun d hd => ?_)).shaped (by decide)
    obtain ⟨e, he, rfl⟩ := List.mem_map.mp hd
    obtain ⟨z, hz, rfl⟩ := List.mem_map.mp he
    exact shp_Lw (h1 z hz)
  · rw [List.getElem?_map] at hz
    obtain ⟨e, he, rfl⟩ := Option.map_eq_some_iff.mp hz
    rw [eqv_Lw]
    refine decide_eq_false fun e2 => ?_
    subst e2
    obtain ⟨m1, m2⟩ := List.getElem?_eq_some_iff.mp he
    obtain ⟨j1, j2⟩ := List.getElem?_eq_some_iff.mp hj
    exact List.pairwise_iff_getElem.mp hn m j m1 j1 hm (m2.trans j2.symm)
theorem v_sortLwP {as : List (Addr × List Nat)} (hs : SqL K H a (as.map rE)) (hA : LE eLw H as) (hz : as.length ≤ sizeLine)
    (q : ∀ (p : Addr) (zs : List (Addr × List Nat)), H p = none → zs.Perm as → zs.Pairwise (fun x y => ¬ lwR y.2 x.2) → Q (.ref p) (upd H p (.lst (zs.map rE)))) : rSortD K [.ref a] H Q := by
  let f : Addr × List Nat → V × PyData := fun z => (V.ref z.1, PySem.W.Datum.toD (oLwP z.2))
  let le : Addr × List Nat → Addr × List Nat → Bool := fun x y => decide (¬ lwR y.2 x.2)
  have hle : ∀ x y : Addr × List Nat, PySem.W.dataLe false (fun b : V × PyData => b.2) (f x) (f y) = le x y := fun x y => by
    rw [PySem.W.dataLe_eq]
    show (!PySem.W.dataLt (PySem.W.Datum.toD (oLwP y.2)) (PySem.W.Datum.toD (oLwP x.2))) = _
    rw [PySem.W.DatumOrd.lt_eq, ltLwP]
    show (!decide (lwR y.2 x.2)) = decide (¬ lwR y.2 x.2)
    rw [decide_not]
  have hms : (as.map f).mergeSort (PySem.W.dataLe false fun b => b.2) = (as.mergeSort le).map f :=
    (List.map_mergeSort (r := le) (s := PySem.W.dataLe false fun b => b.2) (f := f) fun x _ y _ => (hle x y).symm).symm
  have hpw : (as.mergeSort le).Pairwise (fun x y => ¬ lwR y.2 x.2) := by
    have := List.pairwise_mergeSort (le := le) (fun x y z h1 h2 => by
      have h1 := of_decide_eq_true h1
      have h2 := of_decide_eq_true h2
      refine decide_eq_true fun h => ?_
      by_cases e : x.2 = y.2
      · rw [← e] at h2; exact h2 h
      · exact h2 (lwR_tr h (lwR_tri h1 (fun e2 => e e2.symm)))) (fun x y => by
      by_cases h : lwR y.2 x.2
      · have h3 : ¬ lwR x.2 y.2 := fun h2 => lwR_irr (lwR_tr h h2)
        show (decide _ || decide _) = true
        rw [decide_eq_true h3, Bool.or_true]
      · show (decide _ || decide _) = true
        rw [decide_eq_true h, Bool.true_or]) as
    exact this.imp fun h => of_decide_eq_true h
  refine ⟨a, as.map f, rfl, by rw [List.map_map]; exact hs, fun b hb => ?_, ?_, ?_, fun b hb => ?_, by rw [List.length_map]; exact hz, fun p hp => ?_⟩
  · obtain ⟨z, hz, rfl⟩ := List.mem_map.mp hb
    exact .tup (SqT.of (hA z hz)) (.cons (.int _) (.cons (.str _) .nil))
  · rw [List.map_map]
    exact PySem.W.AllAlike.of (enc := fun z : Addr × List Nat => PySem.W.Datum.toD (oLwP z.2)) fun z y => PySem.W.DatumOrd.alike (oLwP z.2) (oLwP y.2)
  · refine .inl fun d hd => ?_
    rw [List.map_map] at hd
    obtain ⟨z, hz, rfl⟩ := List.mem_map.mp hd
    exact ⟨_, _, rfl⟩
  · obtain ⟨z, hz, rfl⟩ := List.mem_map.mp hb
    show (PyData.tuple [.int _, .str _]).depth ≤ 60
    simp only [PyData.depth, PyData.depthAll]
    omega
  · rw [hms, List.map_map]
    exact q p _ hp (List.mergeSort_perm _ _) hpw
end
theorem call_tupK {X : Cx} {K : PySem.W.Frag} (h : X.K = K) : CallR X (.type "tuple") (rTupQ K) := h ▸ call_tupQ
/-! ### a def whose own code object is known and that may raise -/
section
variable {P : Program} {w : World} {K : PySem.W.Frag} {mg : Str → Option Value} {base : Heap}
theorem okTX {x qual : Str} {st : Stmt} {f : Addr} {fd : FuncData} {N ps : List Str} {k : Nat} {sp : Sp} {cv : Value} (F : Fun K x qual st f fd) (hc : fd.code = cv) (S : FnScope N ps (defScope st)) (len : ∀ vs H Q E, sp vs H Q E → vs.length = ps.length)
    (hbody : ∀ (A : Around) (outer : List Env) (s : Shared) (H : Hp) (vs : List V) (Q : VK) (E : XK), Room k (A.deeper (envOfC qual (defScope st) s.heap.objs.size f cv)) → sp vs H Q E →
      ∃ t, PSs (cxOf (L2.CX P w) P w K mg base N qual (defScope st) f cv A outer s H E) (defBody st) t ∧ t { nx := fun _ H' => Q .non H', rt := Q } (L2.start N vs) H) : FnOk P w K mg base (L2.CX P w) (k + 1) f fd ps sp := by
  obtain ⟨oc, od, kV, doc, pm, an, cdv, ct, osl, rfl, lk, hcd⟩ := F.ex
  have e : cdv = cv := hc
  subst e
  exact fn_of lk hcd S len fun A outer s H vs Q E hr hsp => hbody A outer s H vs Q E hr hsp
end
end Sh

local macro_rules | `(tactic| walk_at "v1") => `(tactic| first
  | with_reducible refine Sh.v_seq ?_
  | with_reducible refine Sh.v_asg ?_
  | with_reducible refine Sh.v_op ?_
  | with_reducible refine Sh.v_c ?_
  | ((with_reducible refine' Sh.v_var ?h ?q); (case h => exact rfl))
  | with_reducible refine Sh.v_name ?_
  | with_reducible refine Sh.v_test ?_
  | with_reducible refine Sh.v_B ?_
  | with_reducible refine Sh.v_kB ?_
  | with_reducible refine Sh.v_I0 ?_
  | with_reducible refine Sh.v_eqI ?_
  | with_reducible refine Sh.v_neI ?_
  | with_reducible refine Sh.v_eqS ?_
  | with_reducible refine Sh.v_neS ?_
  | with_reducible refine Sh.v_eqB ?_
  | with_reducible refine Sh.v_neB ?_
  | with_reducible refine Sh.v_cb ?_
  | with_reducible refine Sh.v_cons ?_
  | with_reducible refine Sh.v_nil ?_
  | with_reducible refine Sh.v_call ?_
  | with_reducible refine Sh.v_ret ?_
  | with_reducible refine Sh.v_ifS ?_
  | with_reducible refine Sh.v_ifE ?_
  | with_reducible refine Sh.v_drop ?_
  | with_reducible refine Sh.v_int ?_
  | with_reducible refine Sh.v_abs ?_
  | with_reducible refine Sh.v_max2 ?_
  | with_reducible refine Sh.v_min2 ?_
  | with_reducible refine Sh.v_sl ?_
  | with_reducible refine Sh.v_part ?_
  | with_reducible refine Sh.v_kP ?_
  | with_reducible refine Sh.v_nopart ?_
  | with_reducible refine Sh.v_not ?_
  | with_reducible refine Sh.v_andV ?_
  | with_reducible refine Sh.v_orV ?_
  | with_reducible refine Sh.v_notV ?_
  | with_reducible refine Sh.v_kAnd ?_
  | with_reducible refine Sh.v_kNot ?_
  | with_reducible refine Sh.v_un ?_
  | with_reducible refine Sh.v_neg ?_
  | with_reducible refine Sh.v_bm ?_
  | with_reducible refine Sh.v_bm0 ?_
  | with_reducible refine Sh.v_tup ?_
  | with_reducible refine Sh.v_lst ?_
  | with_reducible refine Sh.v_next ?_
  | ((with_reducible refine' Sh.v_aug ?h ?q); (case h => exact rfl))
  | with_reducible refine Sh.v_ipI ?_
  | with_reducible refine Sh.v_sub ?_)
local macro_rules | `(tactic| walk_at "vc") => `(tactic| repeat (walk_at "v1"))
local macro_rules | `(tactic| walk_at "mo") => `(tactic| repeat (first
  | with_reducible exact Sh.mo_var | with_reducible exact Sh.mo_c | with_reducible exact Sh.mo_nil
  | with_reducible exact Sh.mo_I0 | with_reducible exact Sh.mo_I | with_reducible exact Sh.mo_eq | with_reducible exact Sh.mo_ne
  | with_reducible exact Sh.mo_ixS | with_reducible exact Sh.mo_ixL | with_reducible exact Sh.mo_ixT | with_reducible exact Sh.mo_lenS | with_reducible exact Sh.mo_lenQ
  | with_reducible refine Sh.mo_and ?_ ?_ | with_reducible refine Sh.mo_or ?_ ?_ | with_reducible refine Sh.mo_not ?_
  | with_reducible refine Sh.mo_test ?_ | with_reducible refine Sh.mo_B ?_ | with_reducible refine Sh.mo_op ?_ ?_ ?_
  | with_reducible refine Sh.mo_cb ?_ ?_ | with_reducible refine Sh.mo_cons ?_ ?_))
local macro_rules | `(tactic| walk_at "hh") => `(tactic| first | assumption | exact L2.upd_same | (rw [L2.upd_ne (by assumption)]; first | assumption | exact L2.upd_same) | (rw [L2.upd_ne (Ne.symm (by assumption))]; first | assumption | exact L2.upd_same))
local macro_rules | `(tactic| walk_at "ix") => `(tactic| first
  | ((with_reducible refine' Sh.v_ixLi ?hs ?h0 ?h ?q); (case hs => walk_at "hh"); (case h0 => first | decide | omega); (case h => exact rfl))
  | ((with_reducible refine' Sh.v_ixTi ?hs ?h0 ?h ?q); (case hs => walk_at "hh"); (case h0 => first | decide | omega); (case h => exact rfl))
  | ((with_reducible refine' Sh.v_setLi ?hs ?h0 ?h ?q); (case hs => walk_at "hh"); (case h0 => first | decide | omega); (case h => first | exact of_decide_eq_true rfl | (simp; done))))
local macro_rules | `(tactic| walk_at "md") => `(tactic| ((with_reducible refine' Sh.v_I ?c ?q); (case c => first | assumption | exact ⟨by decide, by decide⟩ | exact ⟨by decide, by decide, by decide⟩ | exact ⟨by omega, by omega⟩ | (show (0 : Int) < _; first | decide | omega) | exact Or.inr ⟨by decide, by decide⟩ | exact Or.inl ⟨by decide, by decide⟩)))
local macro_rules | `(tactic| walk_at "lp") => `(tactic| first
  | with_reducible refine Sh.v_for ?_
  | with_reducible refine Sh.v_lc ?_
  | with_reducible refine Sh.v_rng1 ?_
  | with_reducible refine Sh.v_rng2 ?_
  | with_reducible refine Sh.v_iL ?_
  | with_reducible refine Sh.v_iT ?_
  | with_reducible refine Sh.v_iS ?_
  | with_reducible refine Sh.v_kS ?_
  | with_reducible refine Sh.v_iES ?_
  | with_reducible refine Sh.v_kES ?_
  | with_reducible refine Sh.v_iE ?_
  | with_reducible refine Sh.v_m1 ?_
  | with_reducible refine Sh.v_m0 ?_
  | with_reducible refine Sh.v_yes ?_
  | with_reducible refine Sh.v_callS ?_
  | with_reducible refine Sh.v_chain ?_
  | with_reducible refine Sh.v_ltS ?_
  | with_reducible refine Sh.v_gtS ?_
  | with_reducible refine Sh.v_tupR ?_
  | with_reducible refine Sh.v_lstR ?_
  | with_reducible refine Sh.v_ends ?_
  | with_reducible refine Sh.v_starts ?_
  | with_reducible refine Sh.v_gCons ?_
  | with_reducible refine Sh.v_gNil ?_
  | ((with_reducible refine' Sh.v_kR1 ?h ?q); (case h => exact ⟨by omega, by omega⟩))
  | ((with_reducible refine' Sh.v_kR2 ?h ?q); (case h => exact ⟨by omega, by omega, by omega, by omega⟩)))
local macro_rules | `(tactic| walk_at "pure") => `(tactic| (intro Qb kQ; (repeat (first | walk_at "v1" | walk_at "ix" | walk_at "md" | walk_at "lp")); exact kQ))
local macro_rules | `(tactic| walk_at "vx") => `(tactic| repeat (first | walk_at "v1" | walk_at "ix" | walk_at "md" | walk_at "lp"))
local macro_rules | `(tactic| walk_at "mo2") => `(tactic| repeat (first
  | with_reducible exact Sh.mo_var | with_reducible exact Sh.mo_c | with_reducible exact Sh.mo_nil
  | with_reducible exact Sh.mo_I0 | with_reducible exact Sh.mo_I | with_reducible exact Sh.mo_eq | with_reducible exact Sh.mo_ne
  | with_reducible exact Sh.mo_ixS | with_reducible exact Sh.mo_ixL | with_reducible exact Sh.mo_ixT | with_reducible exact Sh.mo_lenS | with_reducible exact Sh.mo_lenQ
  | with_reducible exact Sh.mo_ends | with_reducible exact Sh.mo_starts | with_reducible exact Sh.mo_slS | with_reducible exact Sh.mo_nopart
  | with_reducible refine Sh.mo_and ?_ ?_ | with_reducible refine Sh.mo_or ?_ ?_ | with_reducible refine Sh.mo_not ?_
  | with_reducible refine Sh.mo_test ?_ | with_reducible refine Sh.mo_B ?_ | with_reducible refine Sh.mo_op ?_ ?_ ?_
  | with_reducible refine Sh.mo_m1 ?_ ?_ ?_ | with_reducible refine Sh.mo_sl ?_ ?_ ?_ ?_ | with_reducible refine Sh.mo_part ?_
  | with_reducible refine Sh.mo_cb ?_ ?_ | with_reducible refine Sh.mo_cons ?_ ?_))
local macro_rules | `(tactic| walk_at "fs") => `(tactic| first
  | with_reducible refine Sh.v_js ?_
  | with_reducible refine Sh.v_jn ?_
  | with_reducible refine Sh.v_fmt ?_)
local macro_rules | `(tactic| walk_at "mo3") => `(tactic| repeat (first
  | with_reducible exact Sh.mo_var | with_reducible exact Sh.mo_c | with_reducible exact Sh.mo_nil
  | with_reducible exact Sh.mo_I0 | with_reducible exact Sh.mo_I | with_reducible exact Sh.mo_eq | with_reducible exact Sh.mo_ne
  | with_reducible exact Sh.mo_ixS | with_reducible exact Sh.mo_ixL | with_reducible exact Sh.mo_ixT | with_reducible exact Sh.mo_lenS | with_reducible exact Sh.mo_lenQ
  | with_reducible exact Sh.mo_max
  | with_reducible refine Sh.mo_and ?_ ?_ | with_reducible refine Sh.mo_or ?_ ?_ | with_reducible refine Sh.mo_not ?_
  | with_reducible refine Sh.mo_test ?_ | with_reducible refine Sh.mo_B ?_ | with_reducible refine Sh.mo_op ?_ ?_ ?_
  | with_reducible refine Sh.mo_cb ?_ ?_ | with_reducible refine Sh.mo_cons ?_ ?_))
local macro_rules | `(tactic| walk_at "mo4") => `(tactic| repeat (first
  | with_reducible exact Sh.mo_var | with_reducible exact Sh.mo_c | with_reducible exact Sh.mo_nil
  | with_reducible exact Sh.mo_I0 | with_reducible exact Sh.mo_I | with_reducible exact Sh.mo_eq | with_reducible exact Sh.mo_ne
  | with_reducible exact Sh.mo_ixS | with_reducible exact Sh.mo_ixL | with_reducible exact Sh.mo_ixT | with_reducible exact Sh.mo_lenS | with_reducible exact Sh.mo_lenQ
  | with_reducible exact Sh.mo_max
  | with_reducible refine Sh.mo_and ?_ ?_ | with_reducible refine Sh.mo_or ?_ ?_ | with_reducible refine Sh.mo_not ?_
  | with_reducible refine Sh.mo_test ?_ | with_reducible refine Sh.mo_B ?_ | with_reducible refine Sh.mo_op ?_ ?_ ?_
  | with_reducible refine Sh.mo_cb ?_ ?_ | with_reducible refine Sh.mo_cons ?_ ?_ | with_reducible refine Sh.mo_fld ?_))
local macro_rules | `(tactic| walk_at "mo5") => `(tactic| repeat (first
  | with_reducible exact Sh.mo_var | with_reducible exact Sh.mo_c | with_reducible exact Sh.mo_nil
  | with_reducible exact Sh.mo_I0 | with_reducible exact Sh.mo_I | with_reducible exact Sh.mo_eq | with_reducible exact Sh.mo_ne
  | with_reducible exact Sh.mo_ixS | with_reducible exact Sh.mo_ixL | with_reducible exact Sh.mo_ixT | with_reducible exact Sh.mo_lenS | with_reducible exact Sh.mo_lenQ
  | with_reducible refine Sh.mo_and ?_ ?_ | with_reducible refine Sh.mo_or ?_ ?_ | with_reducible refine Sh.mo_not ?_
  | with_reducible refine Sh.mo_test ?_ | with_reducible refine Sh.mo_B ?_ | with_reducible refine Sh.mo_op ?_ ?_ ?_
  | with_reducible refine Sh.mo_din ?_ ?_ | with_reducible refine Sh.mo_dnin ?_ ?_ | with_reducible refine Sh.mo_dget ?_ ?_
  | with_reducible refine Sh.mo_cb ?_ ?_ | with_reducible refine Sh.mo_cons ?_ ?_))
def Pr.spLawT (K : PySem.W.Frag) (cT : PySem.Addr) : L2.Sp := fun vs H Q _ => ∃ (a : PySem.Addr) (ns : List Int), vs = [.ref a] ∧ L2.SqL K H a (ns.map L2.V.int) ∧ ns.length ≤ 63 ∧ H cT = some (.tbl #[]) ∧ ∀ H', Q (.bl true) H'
def Pr.spLawK (K : PySem.W.Frag) : L2.Sp := fun vs H Q _ => ∃ (a : PySem.Addr) (ns : List Int), vs = [.ref a] ∧ L2.SqL K H a (ns.map L2.V.int) ∧ ns.length ≤ 63 ∧ ∀ H', Q (.bl true) H'
namespace Pr
open PySem PySem.Spec PyProof.Rows L2
def topS (i : Nat) : Stmt := PySem.Challenge.pw_textshards_k46_automata_of_words.main.body.getD i (.Pass ⟨0, 0, 0, 0⟩)
abbrev s_ends_of_words : Stmt := topS 6
abbrev s_longest_by_ends : Stmt := topS 7
abbrev s_longest_unlike : Stmt := topS 8
abbrev s_run_word : Stmt := topS 11
abbrev s_shortest_of : Stmt := topS 12
abbrev s_l_begin : Stmt := topS 14
abbrev s_l_take : Stmt := topS 15
abbrev s_l_letters : Stmt := topS 16
abbrev s_l_ends : Stmt := topS 20
abbrev s_state_of : Stmt := topS 9
abbrev s_l_signs : Stmt := topS 17
abbrev s_l_text : Stmt := topS 18
abbrev s_l_groups : Stmt := topS 21
abbrev s_l_short : Stmt := topS 22
abbrev s_l_rich : Stmt := topS 19
abbrev s_word_automaton : Stmt := topS 10
abbrev s_l_large : Stmt := topS 23
abbrev s_law : Stmt := topS 24
structure Txt (K : PySem.W.Frag) (mg : Str → Option Value) (C_RangeError C_TooLarge : Addr) : Prop where
  b_abs : mg "abs" = none
  b_enumerate : mg "enumerate" = none
  b_int : mg "int" = none
  b_len : mg "len" = none
  b_list : mg "list" = none
  b_max : mg "max" = none
  b_range : mg "range" = none
  b_set : mg "set" = none
  b_sorted : mg "sorted" = none
  b_tuple : mg "tuple" = none
  g_LETTER_LIMIT : ∃ u, mg "LETTER_LIMIT" = some u ∧ RelV (.int 60) u
  x_RangeError : Sh.XC K mg "RangeError" C_RangeError
  x_TooLarge : Sh.XC K mg "TooLarge" C_TooLarge
  m_RangeError_RangeError : PySem.W.exmOne K (.ref C_RangeError) (.ref C_RangeError) = some true
  m_RangeError_TooLarge : PySem.W.exmOne K (.ref C_RangeError) (.ref C_TooLarge) = some false
  m_TooLarge_RangeError : PySem.W.exmOne K (.ref C_TooLarge) (.ref C_RangeError) = some false
  m_TooLarge_TooLarge : PySem.W.exmOne K (.ref C_TooLarge) (.ref C_TooLarge) = some true
section
variable {P : Program} {w : World} {K : PySem.W.Frag} {mg : Str → Option Value} {base : Heap} {C_RangeError C_TooLarge : Addr} {cC cT : Addr}
end
/-- where a word ends in a text -/
def En (t w : List Nat) : List Nat := (List.range (t.length + 1)).filter fun e => decide (w <:+ t.take e)
theorem en_mem {t w : List Nat} {e : Nat} : e ∈ En t w ↔ e ≤ t.length ∧ w <:+ t.take e := by
  unfold En
  rw [List.mem_filter, List.mem_range, decide_eq_true_eq]
  exact ⟨fun ⟨h1, h2⟩ => ⟨by omega, h2⟩, fun ⟨h1, h2⟩ => ⟨by omega, h2⟩⟩
theorem en_ext {t w u : List Nat} (h : ∀ e, e ≤ t.length → (w <:+ t.take e ↔ u <:+ t.take e)) : En t w = En t u := by
  unfold En
  refine List.filter_congr fun e he => decide_eq_decide.mpr (h e ?_)
  have := List.mem_range.mp he; omega
theorem en_iff {t w u : List Nat} (h : En t w = En t u) {e : Nat} (he : e ≤ t.length) : w <:+ t.take e ↔ u <:+ t.take e := by
  have : e ∈ En t w ↔ e ∈ En t u := by rw [h]
  rw [en_mem, en_mem] at this
  exact ⟨fun z => (this.mp ⟨he, z⟩).2, fun z => (this.mpr ⟨he, z⟩).2⟩
theorem suf_snoc {w l : List Nat} {c d : Nat} : w ++ [c] <:+ l ++ [d] ↔ c = d ∧ w <:+ l := by
  rw [← List.reverse_prefix, ← List.reverse_prefix, List.reverse_append, List.reverse_append]
  exact List.cons_prefix_cons
theorem en_step {t w : List Nat} {c e : Nat} (he : e < t.length) : w ++ [c] <:+ t.take (e + 1) ↔ t[e]? = some c ∧ w <:+ t.take e := by
  rw [List.take_add_one, List.getElem?_eq_getElem he]
  show w ++ [c] <:+ t.take e ++ [t[e]] ↔ _
  rw [suf_snoc]
  exact ⟨fun ⟨h1, h2⟩ => ⟨by rw [h1], h2⟩, fun ⟨h1, h2⟩ => ⟨(Option.some.inj h1).symm, h2⟩⟩
theorem en_snoc {t w u : List Nat} {c : Nat} (h : En t w = En t u) : En t (w ++ [c]) = En t (u ++ [c]) := by
  refine en_ext fun e he => ?_
  cases e with
  | zero => 
    have no : ∀ w : List Nat, ¬ (w ++ [c] <:+ t.take 0) := fun w z => by
      have := z.length_le
      rw [List.take_zero, List.length_append] at this
      simp at this
    exact ⟨fun z => absurd z (no w), fun z => absurd z (no u)⟩
  | succ e => rw [en_step (by omega), en_step (by omega), en_iff h (by omega)]
theorem en_nil (t : List Nat) : En t [] = List.range (t.length + 1) := by
  unfold En
  rw [List.filter_eq_self]
  exact fun e _ => decide_eq_true (List.nil_suffix)
theorem en_zero {t w : List Nat} : 0 ∈ En t w ↔ w = [] := by
  rw [en_mem, List.take_zero, List.suffix_nil]
  exact ⟨fun h => h.2, fun h => ⟨Nat.zero_le _, h⟩⟩
theorem en_sub {t w u : List Nat} (h : w <:+ u) {e : Nat} (he : e ∈ En t u) : e ∈ En t w := by
  rw [en_mem] at he ⊢
  exact ⟨he.1, h.trans he.2⟩
theorem en_suf {t w u : List Nat} {e : Nat} (hw : e ∈ En t w) (hu : e ∈ En t u) (hl : w.length ≤ u.length) : w <:+ u := List.suffix_of_suffix_length_le (en_mem.mp hw).2 (en_mem.mp hu).2 hl
/-- the same ends and the same length: the same word -/
theorem en_same {t w u : List Nat} {e : Nat} (hw : e ∈ En t w) (hu : e ∈ En t u) (hl : w.length = u.length) : w = u := (en_suf hw hu (Nat.le_of_eq hl)).eq_of_length hl
/-- a word between two of a class is of it -/
theorem en_between {t w x u : List Nat} (h : En t w = En t u) (h1 : w <:+ x) (h2 : x <:+ u) : En t x = En t u := by
  refine en_ext fun e he => ⟨fun z => (en_iff h he).mp (h1.trans z), fun z => h2.trans z⟩
/-- the first shorter end of a word that ends elsewhere is the longest of its class -/
theorem en_link {t w x : List Nat} {k : Nat} (hw : ∃ e, e ∈ En t w) (hk : ∀ j, j < k → En t (w.drop j) = En t w) (hne : En t (w.drop k) ≠ En t w) (hx : En t x = En t (w.drop k)) : x.length ≤ (w.drop k).length := by
  rcases Nat.lt_or_ge (w.drop k).length x.length with h | h
  · exfalso
    obtain ⟨e, he⟩ := hw
    have hek : e ∈ En t (w.drop k) := en_sub (List.drop_suffix _ _) he
    have hex : e ∈ En t x := by rw [hx]; exact hek
    rcases Nat.lt_or_ge w.length x.length with h2 | h2
    · have hs := en_suf he hex (Nat.le_of_lt h2)
      exact hne (en_ext fun d hd => ⟨fun z => hs.trans ((en_iff hx hd).mpr z), fun z => (List.drop_suffix k w).trans z⟩)
    · have hs := en_suf hex he h2
      have e2 : x = w.drop (w.length - x.length) := by
        have h3 : w.drop (w.length - x.length) <:+ w := List.drop_suffix _ _
        exact (List.suffix_of_suffix_length_le hs h3 (by rw [List.length_drop]; omega)).eq_of_length (by rw [List.length_drop]; omega)
      rw [List.length_drop] at h
      have := hk (w.length - x.length) (by omega)
      rw [← e2, hx] at this
      exact hne this
  · exact h
/-- the words of a class are the ends of its longest that are longer than the link's longest -/
theorem en_class {t w : List Nat} {k : Nat} (hk : ∀ j, j < k → En t (w.drop j) = En t w) (hne : En t (w.drop k) ≠ En t w) (hkl : k ≤ w.length) {j : Nat} (hj : j ≤ w.length) : En t (w.drop j) = En t w ↔ j < k := by
  refine ⟨fun h => ?_, hk j⟩
  rcases Nat.lt_or_ge j k with h1 | h1
  · exact h1
  · exact absurd (en_between h (by
      have : w.drop j = (w.drop k).drop (j - k) := by rw [List.drop_drop]; congr 1; omega
      rw [this]; exact List.drop_suffix _ _) (List.drop_suffix k w)) hne
/-- as a list of places and the length -/
theorem en_list (t w : List Nat) : En t w = ((List.range (t.length + 1 - w.length)).filter fun p => decide ((t.drop p).take w.length = w)).map fun p => p + w.length := by
  unfold En
  rcases Nat.lt_or_ge (t.length + 1) w.length with h | h
  · rw [show t.length + 1 - w.length = 0 by omega]
    refine List.filter_eq_nil_iff.mpr fun e he => ?_
    have he := List.mem_range.mp he
    rw [decide_eq_true_eq]
    intro z
    have := z.length_le
    rw [List.length_take] at this
    omega
  · have e0 : List.range (t.length + 1) = List.range w.length ++ (List.range (t.length + 1 - w.length)).map (w.length + ·) := by
      rw [← List.range_add]; congr 1; omega
    rw [e0, List.filter_append, List.filter_map]
    have e1 : (List.range w.length).filter (fun e => decide (w <:+ t.take e)) = [] := by
      refine List.filter_eq_nil_iff.mpr fun e he => ?_
      have he := List.mem_range.mp he
      rw [decide_eq_true_eq]
      intro z
      have := z.length_le
      rw [List.length_take] at this
      omega
    rw [e1, List.nil_append]
    have e2 : (List.range (t.length + 1 - w.length)).filter ((fun e => decide (w <:+ t.take e)) ∘ fun x => w.length + x) = (List.range (t.length + 1 - w.length)).filter fun p => decide ((t.drop p).take w.length = w) := by
      refine List.filter_congr fun p hp => ?_
      have hp := List.mem_range.mp hp
      show decide (w <:+ t.take (w.length + p)) = decide ((t.drop p).take w.length = w)
      refine decide_eq_decide.mpr ?_
      have e3 : t.take (w.length + p) = t.take p ++ (t.drop p).take w.length := by rw [Nat.add_comm, List.take_add]
      constructor
      · intro z
        have h4 : (t.drop p).take w.length <:+ t.take (w.length + p) := by rw [e3]; exact List.suffix_append _ _
        exact ((List.suffix_of_suffix_length_le z h4 (by rw [List.length_take, List.length_drop]; omega)).eq_of_length (by rw [List.length_take, List.length_drop]; omega)).symm
      · intro z
        rw [e3, z]
        exact List.suffix_append _ _
    rw [e2]
    refine List.map_congr_left fun p _ => Nat.add_comm _ _
/-- the longest word of a class -/
def Lg (t w : List Nat) : Prop := En t w ≠ [] ∧ ∀ x, En t x = En t w → x.length ≤ w.length
theorem en_ex {t x : List Nat} (h : En t x ≠ []) : ∃ e, e ∈ En t x := List.exists_mem_of_ne_nil _ h
theorem en_len {t x : List Nat} (h : En t x ≠ []) : x.length ≤ t.length := by
  obtain ⟨e, he⟩ := en_ex h
  obtain ⟨h1, h2⟩ := en_mem.mp he
  have := h2.length_le
  rw [List.length_take] at this
  omega
theorem lg_ex {t : List Nat} : ∀ (n : Nat) {x : List Nat}, t.length - x.length ≤ n → En t x ≠ [] → ∃ w, Lg t w ∧ En t w = En t x := by
  intro n
  induction n with
  | zero =>
    intro x h hx
    refine ⟨x, ⟨hx, fun y hy => ?_⟩, rfl⟩
    have := en_len (t := t) (x := y) (by rw [hy]; exact hx)
    omega
  | succ n ih =>
    intro x h hx
    by_cases hm : ∀ y, En t y = En t x → y.length ≤ x.length
    · exact ⟨x, ⟨hx, hm⟩, rfl⟩
    · obtain ⟨y, hy⟩ := Classical.not_forall.mp hm
      obtain ⟨e, hy⟩ := Classical.not_imp.mp hy
      obtain ⟨w, h1, h2⟩ := ih (x := y) (by omega) (by rw [e]; exact hx)
      exact ⟨w, h1, h2.trans e⟩
theorem lg_un {t w u : List Nat} (hw : Lg t w) (hu : Lg t u) (h : En t w = En t u) : w = u := by
  obtain ⟨e, he⟩ := en_ex hw.1
  exact en_same he (by rw [← h]; exact he) (Nat.le_antisymm (hu.2 _ h) (hw.2 _ h.symm))
theorem lg_nil (t : List Nat) : Lg t [] := by
  refine ⟨fun h => ?_, fun x hx => ?_⟩
  · have : 0 ∈ En t [] := en_zero.mpr rfl
    rw [h] at this
    exact nomatch this
  · have : 0 ∈ En t [] := en_zero.mpr rfl
    rw [← hx] at this
    rw [en_zero.mp this]
    exact Nat.le_refl _
def lwL (x y : List Nat) : Prop := x.length < y.length ∨ (x.length = y.length ∧ x < y)
theorem lwL_irr (x : List Nat) : ¬ lwL x x := fun h => h.elim (fun h => Nat.lt_irrefl _ h) fun h => List.lt_irrefl _ h.2
theorem lwL_asym {x y : List Nat} (h1 : lwL x y) (h2 : lwL y x) : False := by
  rcases h1 with h1 | ⟨h1, h3⟩ <;> rcases h2 with h2 | ⟨h2, h4⟩
  · omega
  · omega
  · omega
  · exact List.lt_asymm h3 h4
/-- the states: the longest words, by length, then as texts -/
def IsSt (t : List Nat) (ws : List (List Nat)) : Prop := ws.Pairwise lwL ∧ ∀ w, w ∈ ws ↔ Lg t w
theorem pw_un {α : Type} {R : α → α → Prop} (irr : ∀ x, ¬ R x x) (asym : ∀ x y, R x y → R y x → False) {a b : List α} (h1 : a.Pairwise R) (h2 : b.Pairwise R) (h : ∀ w, w ∈ a ↔ w ∈ b) : a = b := by
  have n1 : a.Nodup := h1.imp fun {x y} hxy => (fun e : x = y => by rw [e] at hxy; exact irr _ hxy)
  have n2 : b.Nodup := h2.imp fun {x y} hxy => (fun e : x = y => by rw [e] at hxy; exact irr _ hxy)
  exact ((List.perm_ext_iff_of_nodup n1 n2).mpr h).eq_of_pairwise (fun x y _ _ h1 h2 => (asym x y h1 h2).elim) h1 h2
theorem st_un {t : List Nat} {a b : List (List Nat)} (h1 : IsSt t a) (h2 : IsSt t b) : a = b := pw_un lwL_irr (fun _ _ => lwL_asym) h1.1 h2.1 fun w => (h1.2 w).trans (h2.2 w).symm
theorem st_nd {t : List Nat} {ws : List (List Nat)} (h : IsSt t ws) : ws.Nodup := h.1.imp fun {x y} hxy => (fun e : x = y => by rw [e] at hxy; exact lwL_irr _ hxy)
theorem st_zero {t : List Nat} {ws : List (List Nat)} (h : IsSt t ws) : ∃ r, ws = [] :: r := by
  have hm : [] ∈ ws := (h.2 []).mpr (lg_nil t)
  cases ws with
  | nil => exact nomatch hm
  | cons w r =>
    rcases List.mem_cons.mp hm with e | hm
    · exact ⟨r, by rw [e]⟩
    · have := (List.pairwise_cons.mp h.1).1 _ hm
      rcases this with h1 | ⟨h1, h2⟩
      · exact absurd h1 (Nat.not_lt_zero _)
      · exact absurd h2 (List.not_lt_nil _)
def ixA (t : List Nat) (ws : List (List Nat)) (x : List Nat) : Nat := ws.findIdx fun w => decide (En t w = En t x)
theorem ix_at {t : List Nat} {ws : List (List Nat)} (h : IsSt t ws) {x : List Nat} {i : Nat} (hi : i < ws.length) (e : En t ws[i] = En t x) : ixA t ws x = i := by
  unfold ixA
  rw [List.findIdx_eq hi]
  refine ⟨decide_eq_true e, fun j hj => decide_eq_false fun e2 => ?_⟩
  have h1 := (h.2 _).mp (List.getElem_mem (show j < ws.length by omega))
  have h2 := (h.2 _).mp (List.getElem_mem hi)
  have h3 := List.pairwise_iff_getElem.mp h.1 j i (by omega) hi hj
  rw [lg_un h1 h2 (e2.trans e.symm)] at h3
  exact lwL_irr _ h3
theorem ix_lt {t : List Nat} {ws : List (List Nat)} (h : IsSt t ws) {x : List Nat} (hx : En t x ≠ []) : ∃ hi : ixA t ws x < ws.length, En t ws[ixA t ws x] = En t x := by
  obtain ⟨w, hw, e⟩ := lg_ex _ (Nat.le_refl _) hx
  obtain ⟨i, hi, rfl⟩ := List.mem_iff_getElem.mp ((h.2 w).mpr hw)
  have := ix_at h hi e
  rw [this]
  exact ⟨hi, e⟩
theorem ix_congr {t : List Nat} {ws : List (List Nat)} {x y : List Nat} (h : En t x = En t y) : ixA t ws x = ixA t ws y := by unfold ixA; rw [h]
theorem en_pre {t u x : List Nat} (h : En t (u ++ x) ≠ []) : En t u ≠ [] := by
  obtain ⟨e, he⟩ := en_ex h
  obtain ⟨h1, p, hp⟩ := en_mem.mp he
  intro e0
  have : p.length + u.length ∈ En t u := en_mem.mpr ⟨by
    have := congrArg List.length hp
    rw [List.length_append, List.length_append, List.length_take] at this
    omega, ⟨p, by
      have h2 : (t.take e).take (p.length + u.length) = p ++ u := by
        rw [← hp, ← List.append_assoc, List.take_left' (by rw [List.length_append])]
      rw [← h2, List.take_take, Nat.min_eq_left]
      have := congrArg List.length hp
      rw [List.length_append, List.length_append, List.length_take] at this
      omega⟩⟩
  rw [e0] at this
  exact nomatch this
theorem en_letter {t w : List Nat} {c : Nat} (h : En t (w ++ [c]) ≠ []) : c ∈ t := by
  obtain ⟨e, he⟩ := en_ex h
  obtain ⟨h1, h2⟩ := en_mem.mp he
  exact List.take_subset _ _ (h2.subset (List.mem_append_right _ List.mem_cons_self))
/-- a word that occurs in the text is an infix -/
theorem en_infix {t x : List Nat} : En t x ≠ [] ↔ x <:+: t := by
  constructor
  · intro h
    obtain ⟨e, he⟩ := en_ex h
    exact (en_mem.mp he).2.isInfix.trans (List.take_prefix _ _).isInfix
  · rintro ⟨a, b, h⟩ e
    have : a.length + x.length ∈ En t x := en_mem.mpr ⟨by have := congrArg List.length h; rw [List.length_append, List.length_append] at this; omega, ⟨a, by rw [← h, List.take_left' (by rw [List.length_append])]⟩⟩
    rw [e] at this
    exact nomatch this
/-- the link of a longest word -/
def IsLk (t w : List Nat) (k : Nat) : Prop := 1 ≤ k ∧ k ≤ w.length ∧ (∀ j, j < k → En t (w.drop j) = En t w) ∧ En t (w.drop k) ≠ En t w
theorem lk_un {t w : List Nat} {j k : Nat} (h1 : IsLk t w j) (h2 : IsLk t w k) : j = k := by
  rcases Nat.lt_trichotomy j k with h | h | h
  · exact absurd (h2.2.2.1 j h) h1.2.2.2
  · exact h
  · exact absurd (h1.2.2.1 k h) h2.2.2.2
theorem lk_ne {t w : List Nat} {k : Nat} (hw : En t w ≠ []) : En t (w.drop k) ≠ [] := fun e => by
  obtain ⟨d, hd⟩ := en_ex hw
  have := en_sub (List.drop_suffix k w) hd
  rw [e] at this
  exact nomatch this
/-- the longest word of the link's class is the end of w itself -/
theorem lk_lg {t w : List Nat} {k : Nat} (hw : Lg t w) (h : IsLk t w k) : Lg t (w.drop k) := ⟨lk_ne hw.1, fun _ hx => en_link (en_ex hw.1) h.2.2.1 h.2.2.2 hx⟩
/-- the words of the class of a longest word -/
theorem cls_iff {t w : List Nat} {k : Nat} (hw : Lg t w) (h : IsLk t w k) {x : List Nat} : En t x = En t w ↔ ∃ j, j < k ∧ x = w.drop j := by
  constructor
  · intro e
    obtain ⟨d, hd⟩ := en_ex hw.1
    have hl := hw.2 x e
    have hs := en_suf (w := x) (u := w) (by rw [e]; exact hd) hd hl
    have e2 : x = w.drop (w.length - x.length) := by
      obtain ⟨p, hp⟩ := hs
      rw [← hp, List.length_append, Nat.add_sub_cancel, List.drop_left]
    refine ⟨w.length - x.length, ?_, e2⟩
    rcases Nat.lt_or_ge (w.length - x.length) k with h1 | h1
    · exact h1
    · exfalso
      refine h.2.2.2 (en_between (w := x) (x := w.drop k) (u := w) e ?_ (List.drop_suffix k w))
      rw [e2, show w.drop (w.length - x.length) = (w.drop k).drop (w.length - x.length - k) by rw [List.drop_drop]; congr 1; omega]
      exact List.drop_suffix _ _
  · rintro ⟨j, hj, rfl⟩
    exact h.2.2.1 j hj
/-- the shortest word of the class -/
def shortW (t w : List Nat) (x : List Nat) : Prop := En t x = En t w ∧ ∀ y, En t y = En t w → x.length ≤ y.length
theorem short_un {t w x y : List Nat} (hw : En t w ≠ []) (h1 : shortW t w x) (h2 : shortW t w y) : x = y := by
  obtain ⟨d, hd⟩ := en_ex hw
  exact en_same (e := d) (by rw [h1.1]; exact hd) (by rw [h2.1]; exact hd) (Nat.le_antisymm (h1.2 _ h2.1) (h2.2 _ h1.1))
theorem short_lk {t w : List Nat} {k : Nat} (hw : Lg t w) (h : IsLk t w k) : shortW t w (w.drop (k - 1)) := by
  obtain ⟨h1, h2, h3, h4⟩ := id h
  refine ⟨h3 _ (by omega), fun y hy => ?_⟩
  obtain ⟨j, hj, rfl⟩ := (cls_iff hw h).mp hy
  rw [List.length_drop, List.length_drop]
  omega
theorem short_nil (t : List Nat) : shortW t [] [] := ⟨rfl, fun _ _ => Nat.zero_le _⟩
/-- what the states hold -/
def LinkIs (t : List Nat) (ws : List (List Nat)) (w : List Nat) (l : Int) : Prop := (w = [] ∧ l = -1) ∨ (w ≠ [] ∧ ∃ k, IsLk t w k ∧ l = (ixA t ws (w.drop k) : Nat))
theorem link_un {t : List Nat} {ws : List (List Nat)} {w : List Nat} {l m : Int} (h1 : LinkIs t ws w l) (h2 : LinkIs t ws w m) : l = m := by
  rcases h1 with ⟨a, b⟩ | ⟨a, k, b, c⟩ <;> rcases h2 with ⟨d, e⟩ | ⟨d, j, e, f⟩
  · rw [b, e]
  · exact absurd a d
  · exact absurd d a
  · rw [c, f, lk_un b e]
def waysA (t : List Nat) (ws : List (List Nat)) (L : List Nat) (w : List Nat) : List (List Nat × Int) := (L.filter fun c => decide (En t (w ++ [c]) ≠ [])).map fun c => ([c], (ixA t ws (w ++ [c]) : Int))
def IsL (t L : List Nat) : Prop := L.Pairwise (· < ·) ∧ ∀ c, c ∈ L ↔ c ∈ t
theorem l_un {t a b : List Nat} (h1 : IsL t a) (h2 : IsL t b) : a = b := pw_un Nat.lt_irrefl (fun _ _ h1 h2 => Nat.lt_asymm h1 h2) h1.1 h2.1 fun w => (h1.2 w).trans (h2.2 w).symm
/-- the ends found behind (i, j) turns -/
def EnP (t w : List Nat) (i j : Nat) : List Nat := ((List.range i).filter fun e => decide (w <:+ t.take e)) ++ (if w <:+ t.take i ∧ i < w.length + j then [i] else [])
theorem enp_zero (t w : List Nat) : EnP t w 0 0 = [] := by
  unfold EnP
  rw [if_neg (fun h => by have := h.1.length_le; rw [List.take_zero] at this; have h2 := h.2; simp at this; rw [this] at h2; simp at h2)]; rfl
theorem enp_next {t w : List Nat} {i : Nat} (hi : i ≤ t.length) : EnP t w i (i + 1) = EnP t w (i + 1) 0 := by
  unfold EnP
  have h2 : ¬ (w <:+ t.take (i + 1) ∧ i + 1 < w.length + 0) := fun h => by
    have := h.1.length_le
    rw [List.length_take] at this
    omega
  rw [if_neg h2, List.append_nil, List.range_succ, List.filter_append]
  congr 1
  by_cases h : w <:+ t.take i
  · rw [if_pos ⟨h, by omega⟩]; simp [h]
  · rw [if_neg (fun z => h z.1)]; simp [h]
theorem enp_last (t w : List Nat) : EnP t w (t.length + 1) 0 = En t w := by
  unfold EnP
  rw [if_neg (fun h => by have := h.1.length_le; rw [List.length_take] at this; omega), List.append_nil]; rfl
theorem enp_len (t w : List Nat) (i j : Nat) : (EnP t w i j).length ≤ i + 1 := by
  unfold EnP
  rw [List.length_append]
  have h1 := List.length_filter_le (fun e => decide (w <:+ t.take e)) (List.range i)
  rw [List.length_range] at h1
  have h2 : (if w <:+ t.take i ∧ i < w.length + j then [i] else []).length ≤ 1 := by split <;> simp
  omega
theorem enp_same {t : List Nat} {i j : Nat} (hj : j ≤ i) (hi : i ≤ t.length) : EnP t ((t.take i).drop j) i (j + 1) = EnP t ((t.take i).drop j) i j ++ [i] := by
  have hl : ((t.take i).drop j).length = i - j := by rw [List.length_drop, List.length_take]; omega
  unfold EnP
  rw [hl, if_pos ⟨List.drop_suffix _ _, by omega⟩, if_neg (fun h => by have := h.2; omega), List.append_nil]
theorem enp_ne {t w : List Nat} {i j : Nat} (hj : j ≤ i) (hi : i ≤ t.length) (hw : w ≠ (t.take i).drop j) : EnP t w i (j + 1) = EnP t w i j := by
  unfold EnP
  congr 1
  by_cases h : w <:+ t.take i
  · have hl := h.length_le
    rw [List.length_take] at hl
    have hne : w.length ≠ i - j := fun e => hw (by
      have h2 : (t.take i).drop j <:+ t.take i := List.drop_suffix _ _
      exact (List.suffix_of_suffix_length_le h h2 (by rw [List.length_drop, List.length_take]; omega)).eq_of_length (by rw [List.length_drop, List.length_take]; omega))
    by_cases h2 : i < w.length + j
    · rw [if_pos ⟨h, by omega⟩, if_pos ⟨h, h2⟩]
    · rw [if_neg (fun z => by have := z.2; omega), if_neg (fun z => h2 z.2)]
  · rw [if_neg (fun z => h z.1), if_neg (fun z => h z.1)]
section
variable {P : Program} {w : World} {K : PySem.W.Frag} {mg : Str → Option Value} {base : Heap} {C_RangeError C_TooLarge : Addr} {cC cT : Addr}
end
/-! ### dicts with text keys, as lists of (text, what) -/
section
variable {β : Type} {enc : β → V}
def kvM (enc : β → V) (ms : List (List Nat × β)) : List (Key × V) := ms.map fun m => (Sum.inr (Sh.S m.1), enc m.2)
def getM (ms : List (List Nat × β)) (x : List Nat) : Option β := (ms.find? fun m => decide (m.1 = x)).map (·.2)
def putM (ms : List (List Nat × β)) (x : List Nat) (v : β) : List (List Nat × β) := if x ∈ ms.map (·.1) then ms.map (fun m => if m.1 = x then (m.1, v) else m) else ms ++ [(x, v)]
theorem getM_cons (m : List Nat × β) (r : List (List Nat × β)) (x : List Nat) : getM (m :: r) x = if m.1 = x then some m.2 else getM r x := by
  unfold getM
  rw [List.find?_cons]
  by_cases h : m.1 = x
  · rw [decide_eq_true h, if_pos h]; rfl
  · rw [decide_eq_false h, if_neg h]
theorem DX_kvM (ms : List (List Nat × β)) (x : List Nat) : Sh.DX (kvM enc ms) x = (getM ms x).map enc := by
  induction ms with
  | nil => rfl
  | cons m r ih =>
    unfold Sh.DX kvM at ih ⊢
    rw [getM_cons, List.map_cons]
    by_cases h : m.1 = x
    · subst h
      rw [valV_pos rfl, if_pos rfl]; rfl
    · rw [valV_neg (fun e => h (Sh.inrS_inj e)), ih, if_neg h]
theorem getM_none {ms : List (List Nat × β)} {x : List Nat} (h : x ∉ ms.map (·.1)) : getM ms x = none := by
  unfold getM
  rw [Option.map_eq_none_iff, List.find?_eq_none]
  intro m hm hd
  exact h (of_decide_eq_true hd ▸ List.mem_map_of_mem hm)
theorem getM_some {ms : List (List Nat × β)} {x : List Nat} (h : x ∈ ms.map (·.1)) : ∃ v, getM ms x = some v ∧ (x, v) ∈ ms := by
  obtain ⟨m, hm, rfl⟩ := List.mem_map.mp h
  cases e : ms.find? (fun y => decide (y.1 = m.1)) with
  | none => rw [List.find?_eq_none] at e; exact absurd (decide_eq_true rfl) (e m hm)
  | some y =>
    have h1 := List.mem_of_find?_eq_some e
    have h2 : y.1 = m.1 := by simpa using List.find?_some e
    refine ⟨y.2, by unfold getM; rw [e]; rfl, ?_⟩
    rw [← h2]; exact h1
theorem getM_mem {ms : List (List Nat × β)} (hn : (ms.map (·.1)).Nodup) {m : List Nat × β} (h : m ∈ ms) : getM ms m.1 = some m.2 := by
  induction ms with
  | nil => cases h
  | cons a r ih =>
    rw [List.map_cons, List.nodup_cons] at hn
    rw [getM_cons]
    rcases List.mem_cons.mp h with rfl | h
    · rw [if_pos rfl]
    · rw [if_neg (fun e : a.1 = m.1 => hn.1 (e ▸ List.mem_map_of_mem h)), ih hn.2 h]
theorem getM_back {ms : List (List Nat × β)} {x : List Nat} {v : β} (h : getM ms x = some v) : (x, v) ∈ ms := by
  by_cases hx : x ∈ ms.map (·.1)
  · obtain ⟨u, h1, h2⟩ := getM_some hx
    rw [h] at h1
    cases h1
    exact h2
  · rw [getM_none hx] at h; cases h
theorem putK_kvM (ms : List (List Nat × β)) (x : List Nat) (v : β) : putK (kvM enc ms) (Sum.inr (Sh.S x)) (enc v) = kvM enc (putM ms x v) := by
  unfold putK putM kvM
  have ha : ((ms.map fun m => ((Sum.inr (Sh.S m.1) : Key), enc m.2)).any fun kv => decide (kv.1 = Sum.inr (Sh.S x))) = decide (x ∈ ms.map (·.1)) := by
    rw [Bool.eq_iff_iff, List.any_eq_true, decide_eq_true_eq, List.mem_map]
    constructor
    · rintro ⟨kv, hkv, e⟩
      obtain ⟨m, hm, rfl⟩ := List.mem_map.mp hkv
      exact ⟨m, hm, Sh.inrS_inj (of_decide_eq_true e)⟩
    · rintro ⟨m, hm, rfl⟩
      exact ⟨_, List.mem_map_of_mem hm, decide_eq_true rfl⟩
  rw [ha]
  by_cases h : x ∈ ms.map (·.1)
  · rw [if_pos (decide_eq_true h), if_pos h, List.map_map, List.map_map]
    refine List.map_congr_left fun m _ => ?_
    show (if (Sum.inr (Sh.S m.1) : Key) = Sum.inr (Sh.S x) then ((Sum.inr (Sh.S m.1) : Key), enc v) else (Sum.inr (Sh.S m.1), enc m.2)) = (Sum.inr (Sh.S (if m.1 = x then (m.1, v) else m).1), enc (if m.1 = x then (m.1, v) else m).2)
    by_cases e : m.1 = x
    · rw [if_pos (by rw [e]), if_pos e]
    · rw [if_neg (fun h2 => e (Sh.inrS_inj h2)), if_neg e]
  · rw [if_neg (by simp [h]), if_neg h, List.map_append]; rfl
theorem putM_keys (ms : List (List Nat × β)) (x : List Nat) (v : β) : (putM ms x v).map (·.1) = if x ∈ ms.map (·.1) then ms.map (·.1) else ms.map (·.1) ++ [x] := by
  unfold putM
  by_cases h : x ∈ ms.map (·.1)
  · rw [if_pos h, if_pos h, List.map_map]
    refine List.map_congr_left fun m _ => ?_
    show (if m.1 = x then (m.1, v) else m).1 = m.1
    by_cases e : m.1 = x
    · rw [if_pos e]
    · rw [if_neg e]
  · rw [if_neg h, if_neg h, List.map_append]; rfl
theorem putM_mem {ms : List (List Nat × β)} {x y : List Nat} {v : β} : y ∈ (putM ms x v).map (·.1) ↔ y ∈ ms.map (·.1) ∨ y = x := by
  rw [putM_keys]
  by_cases h : x ∈ ms.map (·.1)
  · rw [if_pos h]; exact ⟨.inl, fun h2 => h2.elim id fun e => e ▸ h⟩
  · rw [if_neg h, List.mem_append, List.mem_singleton]
theorem putM_nd {ms : List (List Nat × β)} {x : List Nat} {v : β} (hn : (ms.map (·.1)).Nodup) : ((putM ms x v).map (·.1)).Nodup := by
  rw [putM_keys]
  by_cases h : x ∈ ms.map (·.1)
  · rw [if_pos h]; exact hn
  · rw [if_neg h, List.nodup_append]
    refine ⟨hn, by simp, fun a ha b hb e => ?_⟩
    rw [List.mem_singleton.mp hb] at e
    exact h (e ▸ ha)
theorem putM_len {ms : List (List Nat × β)} {x : List Nat} {v : β} : (putM ms x v).length ≤ ms.length + 1 := by
  unfold putM
  by_cases h : x ∈ ms.map (·.1)
  · rw [if_pos h, List.length_map]; omega
  · rw [if_neg h, List.length_append]; exact Nat.le_refl _
theorem getM_put (ms : List (List Nat × β)) (x y : List Nat) (v : β) : getM (putM ms x v) y = if y = x then some v else getM ms y := by
  unfold putM
  by_cases h : x ∈ ms.map (·.1)
  · rw [if_pos h]
    induction ms with
    | nil => cases h
    | cons a r ih =>
      rw [List.map_cons, getM_cons, getM_cons]
      by_cases ha : a.1 = x
      · rw [if_pos ha]
        by_cases e : y = x
        · rw [if_pos (by rw [e]; exact ha), if_pos e]
        · rw [if_neg (fun z : a.1 = y => e (z.symm.trans ha)), if_neg e, if_neg (fun z : a.1 = y => e (z.symm.trans ha))]
          by_cases hr : x ∈ r.map (·.1)
          · rw [ih hr, if_neg e]
          · congr 1
            conv => rhs; rw [← List.map_id r]
            refine List.map_congr_left fun m hm => ?_
            rw [if_neg (fun z : m.1 = x => hr (z ▸ List.mem_map_of_mem hm))]; rfl
      · rw [if_neg ha]
        have hr : x ∈ r.map (·.1) := by
          rcases List.mem_cons.mp h with e | h
          · exact absurd e.symm ha
          · exact h
        rw [ih hr]
        by_cases e : y = x
        · rw [if_pos e, if_pos e, if_neg (fun z => ha (z.trans e))]
        · rw [if_neg e, if_neg e]
  · rw [if_neg h]
    induction ms with
    | nil =>
      show getM [(x, v)] y = _
      rw [getM_cons]
      by_cases e : y = x
      · rw [if_pos e.symm, if_pos e]
      · rw [if_neg (fun z => e z.symm), if_neg e]
    | cons a r ih =>
      rw [List.map_cons, List.mem_cons, not_or] at h
      rw [List.cons_append, getM_cons, getM_cons, ih h.2]
      by_cases e : y = x
      · rw [if_pos e, if_pos e, if_neg (fun z => h.1 (e.symm.trans z.symm))]
      · rw [if_neg e, if_neg e]
end
section
variable {P : Program} {w : World} {K : PySem.W.Frag} {mg : Str → Option Value} {base : Heap} {C_RangeError C_TooLarge : Addr} {cC cT : Addr}
end
/-- a tuple of ints as a key -/
def KeyT (x : List Int) : List Key := x.map Sum.inl
theorem kV_KeyT (x : List Int) : (KeyT x).map kV = x.map V.int := by unfold KeyT; rw [List.map_map]; rfl
theorem KeyT_inj {x y : List Int} (h : KeyT x = KeyT y) : x = y := by
  unfold KeyT at h
  induction x generalizing y with
  | nil => cases y with
    | nil => rfl
    | cons b y => cases h
  | cons a x ih => cases y with
    | nil => cases h
    | cons b y =>
      rw [List.map_cons, List.map_cons] at h
      injection h with h1 h2
      injection h1 with h1
      rw [h1, ih h2]
/-- the dict holds these tuples -/
def SetT (kvs : List (List Key × V)) (es : List (List Int)) : Prop := ∀ x, valV kvs (KeyT x) = if x ∈ es then some (.bl true) else none
/-- {e: True for e in a tuple of tuples of ints} -/
theorem dc_edges {K : PySem.W.Frag} {σ : L2.St} {H : Hp} {Q : VK} {tk tv : TE} {W : Addr} {as : List (Addr × List Int)} {j : Nat} (hW : H W = some (.tup (as.map Sh.rV))) (lt : Sh.LTup H as) (hn : as.length ≤ 1000000)
    (hk : ∀ (z : Addr × List Int) H', z ∈ as → Same H H' → ∀ Qv : VK, Qv (.ref z.1) H' → tk ((σ.set j none).set j (some (.ref z.1))) H' Qv)
    (hv : ∀ (z : Addr × List Int) H', z ∈ as → Same H H' → ∀ Qv : VK, Qv (.bl true) H' → tv ((σ.set j none).set j (some (.ref z.1))) H' Qv)
    (hd : ∀ D H' kvs, H D = none → Same H H' → H' D = some (.dT kvs) → SetT kvs (as.map (·.2)) → Q (.ref D) H') : Sh.kDcT (gName j) tk tv [j] σ Q (Itt K W) H := by
  refine Sh.dcT_it (Gd := fun H => SqT K H W (as.map Sh.rV)) (n := (as.map Sh.rV).length) (Y := YAt (as.map Sh.rV)) walk_tup (fun D i H' => Same H H' ∧ ∃ kvs, H' D = some (.dT kvs) ∧ kvs.length ≤ i ∧ SetT kvs ((as.map (·.2)).take i)) (fun D hD => ⟨Sh.same_upd hD, [], upd_same, Nat.le_refl _, fun x => rfl⟩) (fun D i H' _ ⟨sm, _⟩ => SqT.of (sm _ _ hW)) ?_ ?_
  · rintro D i x H1 H' hD hi ⟨sm, kvs, hK, hl, hs⟩ ⟨rfl, hx⟩
    obtain ⟨z, hz, rfl⟩ : ∃ z, as[i]? = some z ∧ x = Sh.rV z := by
      rw [List.getElem?_map] at hx
      cases e : as[i]? with
      | none => rw [e] at hx; cases hx
      | some u => rw [e] at hx; exact ⟨u, rfl, (Option.some.inj hx).symm⟩
    have hm := List.mem_of_getElem? hz
    have et : (as.map (·.2)).take (i + 1) = (as.map (·.2)).take i ++ [z.2] := by rw [List.take_add_one, List.getElem?_map, hz]; rfl
    rw [List.length_map] at hi
    refine ⟨Sh.wipe_set, hk z _ hm sm _ (hv z _ hm sm _ ⟨kvs, KeyT z.2, z.1, rfl, by rw [kV_KeyT]; exact sm _ _ (lt z hm), hK, Sh.sz_lt (by omega), by rw [List.length_map]; omega, fun b o e => ?_, _, upd_same, Nat.le_trans (length_putK _ _ _) (Nat.succ_le_succ hl), fun y => ?_⟩)⟩
    · rw [upd_ne (L2.ne_of_none e hD)]
      exact sm _ _ e
    · rw [valV_put, hs y, et]
      by_cases h : y = z.2
      · subst h
        rw [if_pos rfl, if_pos (List.mem_append_right _ List.mem_cons_self)]
      · rw [if_neg (fun e => h (KeyT_inj e))]
        by_cases h2 : y ∈ (as.map (·.2)).take i
        · rw [if_pos h2, if_pos (List.mem_append_left _ h2)]
        · rw [if_neg h2, if_neg (fun e => (List.mem_append.mp e).elim h2 fun e => h (List.mem_singleton.mp e))]
  · rintro D H' hD ⟨sm, kvs, hK, hl, hs⟩
    rw [List.take_of_length_le (by rw [List.length_map, List.length_map]; exact Nat.le_refl _)] at hs
    exact hd D H' kvs hD sm hK hs
section
variable {P : Program} {w : World} {K : PySem.W.Frag} {mg : Str → Option Value} {base : Heap} {C_RangeError C_TooLarge : Addr} {cC cT : Addr}
end
/-- the ends of the words of a text, by the word -/
def EnH (H : Hp) (D : Addr) (t : List Nat) (ms : List (List Nat × Addr)) : Prop := H D = some (.dK (kvM V.ref ms)) ∧ (ms.map (·.1)).Nodup ∧ (∀ w, w ∈ ms.map (·.1) ↔ En t w ≠ []) ∧ ∀ m, m ∈ ms → H m.2 = some (.tup ((En t m.1).map Sh.nV))
theorem EnH.same {H H' : Hp} {D : Addr} {t : List Nat} {ms : List (List Nat × Addr)} (h : EnH H D t ms) (s : Same H H') : EnH H' D t ms := ⟨s _ _ h.1, h.2.1, h.2.2.1, fun m hm => s _ _ (h.2.2.2 m hm)⟩
theorem EnH.get {H : Hp} {D : Addr} {t w : List Nat} {ms : List (List Nat × Addr)} (h : EnH H D t ms) (hw : En t w ≠ []) : ∃ a, DGet H D (.str (Sh.S w)) (some (.ref a)) ∧ H a = some (.tup ((En t w).map Sh.nV)) := by
  obtain ⟨a, e, hm⟩ := getM_some ((h.2.2.1 w).mpr hw)
  refine ⟨a, .inl ⟨_, Sum.inr (Sh.S w), .inl h.1, rfl, ?_⟩, h.2.2.2 _ hm⟩
  have := DX_kvM (enc := V.ref) ms w
  rw [e] at this
  exact this.symm
theorem mo_eqD {K : PySem.W.Frag} : Sh.MoR (rEqD K) := fun x y H Q Q' m ⟨dx, dy, h1, h2, h3, h4, q⟩ => ⟨dx, dy, h1, h2, h3, h4, m _ _ q⟩
theorem nI_inj : ∀ {a b : List Nat}, Sh.nI a = Sh.nI b → a = b
  | [], [], _ => rfl
  | [], _ :: _, h => nomatch h
  | _ :: _, [], h => nomatch h
  | x :: a, y :: b, h => by
    have h1 : (x : Int) = (y : Int) := (List.cons.inj h).1
    rw [nI_inj (a := a) (b := b) (List.cons.inj h).2, show x = y by omega]
section
variable {P : Program} {w : World} {K : PySem.W.Frag} {mg : Str → Option Value} {base : Heap} {C_RangeError C_TooLarge : Addr} {cC cT : Addr}
end
/-! ### dicts whose keys are tuples of naturals -/
section
variable {β : Type} {enc : β → V}
def kvT (enc : β → V) (ms : List (List Nat × β)) : List (List Key × V) := ms.map fun m => (KeyT (Sh.nI m.1), enc m.2)
theorem keyN_inj {a b : List Nat} (h : KeyT (Sh.nI a) = KeyT (Sh.nI b)) : a = b := nI_inj (KeyT_inj h)
theorem kV_KeyN (x : List Nat) : (KeyT (Sh.nI x)).map kV = x.map Sh.nV := by rw [kV_KeyT, Sh.nV_map]
theorem kvT_len (ms : List (List Nat × β)) : (kvT enc ms).length = ms.length := List.length_map _
theorem valV_kvT (ms : List (List Nat × β)) (x : List Nat) : valV (kvT enc ms) (KeyT (Sh.nI x)) = (getM ms x).map enc := by
  induction ms with
  | nil => rfl
  | cons m r ih =>
    unfold kvT at ih ⊢
    rw [getM_cons, List.map_cons]
    by_cases h : m.1 = x
    · subst h
      rw [valV_pos rfl, if_pos rfl]; rfl
    · rw [valV_neg (fun e => h (keyN_inj e)), ih, if_neg h]
theorem putK_kvT (ms : List (List Nat × β)) (x : List Nat) (v : β) : putK (kvT enc ms) (KeyT (Sh.nI x)) (enc v) = kvT enc (putM ms x v) := by
  unfold putK putM kvT
  have ha : ((ms.map fun m => (KeyT (Sh.nI m.1), enc m.2)).any fun kv => decide (kv.1 = KeyT (Sh.nI x))) = decide (x ∈ ms.map (·.1)) := by
    rw [Bool.eq_iff_iff, List.any_eq_true, decide_eq_true_eq, List.mem_map]
    constructor
    · rintro ⟨kv, hkv, e⟩
      obtain ⟨m, hm, rfl⟩ := List.mem_map.mp hkv
      exact ⟨m, hm, keyN_inj (of_decide_eq_true e)⟩
    · rintro ⟨m, hm, rfl⟩
      exact ⟨_, List.mem_map_of_mem hm, decide_eq_true rfl⟩
  rw [ha]
  by_cases h : x ∈ ms.map (·.1)
  · rw [if_pos (decide_eq_true h), if_pos h, List.map_map, List.map_map]
    refine List.map_congr_left fun m _ => ?_
    show (if KeyT (Sh.nI m.1) = KeyT (Sh.nI x) then (KeyT (Sh.nI m.1), enc v) else (KeyT (Sh.nI m.1), enc m.2)) = (KeyT (Sh.nI (if m.1 = x then (m.1, v) else m).1), enc (if m.1 = x then (m.1, v) else m).2)
    by_cases e : m.1 = x
    · rw [if_pos (by rw [e]), if_pos e]
    · rw [if_neg (fun h2 => e (keyN_inj h2)), if_neg e]
  · rw [if_neg (by simp [h]), if_neg h, List.map_append]; rfl
theorem getT {H : Hp} {a b : Addr} {ms : List (List Nat × β)} {x : List Nat} (h : H a = some (.dT (kvT enc ms))) (hb : H b = some (.tup (x.map Sh.nV))) : DGet H a (.ref b) ((getM ms x).map enc) := by
  rw [← valV_kvT]
  exact DGet.t h (by rw [kV_KeyN]; exact hb)
end
section
variable {P : Program} {w : World} {K : PySem.W.Frag} {mg : Str → Option Value} {base : Heap} {C_RangeError C_TooLarge : Addr} {cC cT : Addr}
end
/-- a list that changes touches no table -/
theorem tabs_mut {T : List (Addr × Str)} {H : Hp} {Z : Addr} {xs ys : List V} (t : LamX.Tabs T H) (h : H Z = some (.lst xs)) : LamX.Tabs T (upd H Z (.lst ys)) := fun p hp => by
  obtain ⟨ps, h1, h2, h3⟩ := t p hp
  refine ⟨ps, by rw [upd_ne (fun e => by rw [e, h] at h1; cases h1)]; exact h1, h2, fun pos cv hc => ?_⟩
  obtain ⟨c, e1, e2⟩ := h3 pos cv hc
  exact ⟨c, e1, by rw [upd_ne (fun e => by rw [e, h] at e2; cases e2)]; exact e2⟩
/-- nothing stood there, tables aside -/
def NewN (H : Hp) (R : Addr) : Prop := ∀ o, H R = some o → ∃ ps, o = .tbl ps
theorem extN_mut {H0 H : Hp} {Z : Addr} {o : HO} (e : LamX.ExtN H0 H) (h : NewN H0 Z) : LamX.ExtN H0 (upd H Z o) := fun b o' hb hn => by
  have hbz : b ≠ Z := fun z => by
    subst z
    obtain ⟨ps, e⟩ := h _ hb
    exact hn ps e
  rw [upd_ne hbz]
  exact e b o' hb hn
theorem newN_of {H0 H : Hp} {Z : Addr} (e : LamX.ExtN H0 H) (h : H Z = none) : NewN H0 Z := fun o ho => by
  cases o with
  | tbl ps => exact ⟨ps, rfl⟩
  | _ => have := e _ _ ho (fun ps z => by cases z); rw [h] at this; cases this
theorem newN_trans {H0 H : Hp} {Z : Addr} (e : LamX.ExtN H0 H) (h : NewN H Z) : NewN H0 Z := fun o ho => by
  cases o with
  | tbl ps => exact ⟨ps, rfl⟩
  | _ => have := e _ _ ho (fun ps z => by cases z); obtain ⟨ps, e⟩ := h _ this; cases e
section
variable {P : Program} {w : World} {K : PySem.W.Frag} {mg : Str → Option Value} {base : Heap} {C_RangeError C_TooLarge : Addr} {cC cT : Addr}
end
theorem one_lt_t (a b : Nat) : [a] < [b] ↔ a < b := by
  rw [List.cons_lt_cons_iff]
  simp
/-- texts of one letter each, ascending -/
theorem ones_asc {ys : List (List Nat)} {z : List Nat} (h1 : ∀ y, y ∈ ys ↔ ∃ c, c ∈ z ∧ y = [c]) (hs : ys.Pairwise (fun a b : List Nat => a ≤ b)) (hn : ys.Nodup) : ∃ cs : List Nat, ys = cs.map (fun c => [c]) ∧ (∀ c, c ∈ cs ↔ c ∈ z) ∧ cs.Pairwise (· < ·) := by
  have e : ys = (ys.map fun y => y.headD 0).map (fun c => [c]) := by
    rw [List.map_map]
    conv => lhs; rw [← List.map_id ys]
    refine List.map_congr_left fun y hy => ?_
    obtain ⟨c, _, rfl⟩ := (h1 y).mp hy
    rfl
  generalize (ys.map fun y => y.headD 0) = cs at e
  subst e
  refine ⟨cs, rfl, fun c => ?_, ?_⟩
  · constructor
    · intro hc
      obtain ⟨d, hd, e⟩ := (h1 [c]).mp (List.mem_map_of_mem hc)
      rw [(List.cons.inj e).1]; exact hd
    · intro hc
      obtain ⟨d, hd, e⟩ := List.mem_map.mp ((h1 [c]).mpr ⟨c, hc, rfl⟩)
      rw [← (List.cons.inj e).1]; exact hd
  · rw [List.pairwise_map] at hs
    have hn2 : (cs.map fun c => [c]).Pairwise (· ≠ ·) := hn
    rw [List.pairwise_map] at hn2
    refine (hs.and hn2).imp fun {a b} ⟨h1, h2⟩ => ?_
    have h3 : ¬ b < a := fun h => h1 ((one_lt_t b a).mpr h)
    have h4 : a ≠ b := fun h => h2 (by rw [h])
    omega
section
variable {P : Program} {w : World} {K : PySem.W.Frag} {mg : Str → Option Value} {base : Heap} {C_RangeError C_TooLarge : Addr} {cC cT : Addr}
end
theorem tabs_but {T : List (Addr × Str)} {H H' : Hp} {p l : Addr} (d : Sh.Dr H p l) (b : Sh.But p H H') (t : LamX.Tabs T H) : LamX.Tabs T H' := fun x hx => by
  obtain ⟨ns, i, j, k, h, _⟩ := d
  obtain ⟨ps, h1, h2, h3⟩ := t x hx
  refine ⟨ps, b _ _ (fun e => by rw [e, h] at h1; cases h1) h1, h2, fun pos cv hc => ?_⟩
  obtain ⟨c, e1, e2⟩ := h3 pos cv hc
  exact ⟨c, e1, b _ _ (fun e => by rw [e, h] at e2; cases e2) e2⟩
section
variable {P : Program} {w : World} {K : PySem.W.Frag} {mg : Str → Option Value} {base : Heap} {C_RangeError C_TooLarge : Addr} {cC cT : Addr}
end
/-! ### heaps that differ in dicts with tuple keys alone -/
def nDT (o : HO) : Prop := (∀ kvs, o ≠ .dT kvs) ∧ ∀ od kvs, o ≠ .frz od (.dT kvs)
theorem nd_lst {xs : List V} : nDT (.lst xs) := ⟨(fun _ e => nomatch e), fun _ _ e => nomatch e⟩
theorem nd_tup {xs : List V} : nDT (.tup xs) := ⟨(fun _ e => nomatch e), fun _ _ e => nomatch e⟩
theorem nd_dK {kvs : List (Key × V)} : nDT (.dK kvs) := ⟨(fun _ e => nomatch e), fun _ _ e => nomatch e⟩
def NT (H H' : Hp) : Prop := ∀ b o, H b = some o → nDT o → H' b = some o
theorem NT.refl (H : Hp) : NT H H := fun _ _ h _ => h
theorem NT.of {H H' : Hp} (s : Same H H') : NT H H' := fun b o h _ => s b o h
theorem NT.trans {H H1 H2 : Hp} (a : NT H H1) (b : NT H1 H2) : NT H H2 := fun c o h n => b c o (a c o h n) n
theorem NT.setT {H : Hp} {L : Addr} {o : HO} {kvs : List (List Key × V)} (h : H L = some (.dT kvs)) : NT H (upd H L o) := fun b o' hb n => by
  rw [upd_ne (fun e => by rw [e, h] at hb; exact n.1 kvs (Option.some.inj hb).symm)]
  exact hb
theorem NT.setF {H : Hp} {L : Addr} {o : HO} {od : Obj} {kvs : List (List Key × V)} (h : H L = some (.frz od (.dT kvs))) : NT H (upd H L o) := fun b o' hb n => by
  rw [upd_ne (fun e => by rw [e, h] at hb; exact n.2 od kvs (Option.some.inj hb).symm)]
  exact hb
theorem NT.tabs {T : List (Addr × Str)} {H H' : Hp} (s : NT H H') (t : LamX.Tabs T H) : LamX.Tabs T H' := fun x hx => by
  obtain ⟨ps, h1, h2, h3⟩ := t x hx
  refine ⟨ps, s _ _ h1 ⟨(fun _ e => nomatch e), fun _ _ e => nomatch e⟩, h2, fun pos cv hc => ?_⟩
  obtain ⟨c, e1, e2⟩ := h3 pos cv hc
  exact ⟨c, e1, s _ _ e2 ⟨(fun _ e => nomatch e), fun _ _ e => nomatch e⟩⟩
theorem NT.le {β : Type} {enc : β → List V} {H H' : Hp} {as : List (Addr × β)} (s : NT H H') (h : Sh.LE enc H as) : Sh.LE enc H' as := fun z hz => s _ _ (h z hz) nd_tup
theorem NT.dr {H H' : Hp} {p l : Addr} (s : NT H H') (d : Sh.Dr H p l) : Sh.Dr H' p l := by
  obtain ⟨ns, i, j, k, h1, h2, h3⟩ := d
  exact ⟨ns, i, j, k, s _ _ h1 nd_lst, s _ _ h2 nd_lst, h3⟩
theorem getFT {H : Hp} {a b : Addr} {o : Obj} {kvs : List (List Key × V)} {k : List Key} (e : H a = some (.frz o (.dT kvs))) (hb : H b = some (.tup (k.map kV))) : DGet H a (.ref b) (valV kvs k) := .inr ⟨kvs, k, b, .inr ⟨o, e⟩, rfl, hb, rfl⟩
theorem Same.setN {H H' : Hp} (s : Same H H') {L : Addr} {o o0 : HO} (h : H L = some o0) (ho : o0 = o) : Same H (upd H' L o) := fun b o' e => by
  by_cases hb : b = L
  · subst hb; rw [h] at e; rw [upd_same, ← ho]; exact e
  · rw [upd_ne hb]; exact s _ _ e
section
variable {P : Program} {w : World} {K : PySem.W.Frag} {mg : Str → Option Value} {base : Heap} {C_RangeError C_TooLarge : Addr} {cC cT : Addr}
end
/-- a dict of lists while it is made -/
def WaH (H0 H : Hp) (D : Addr) (ms : List (List Nat × Addr)) (f : List Nat → List Nat) : Prop := H D = some (.dK (kvM V.ref ms)) ∧ (ms.map (·.1)).Nodup ∧ (ms.map (·.2)).Nodup ∧ (∀ w, w ∈ ms.map (·.1) ↔ f w ≠ []) ∧ ∀ m, m ∈ ms → H m.2 = some (.lst ((f m.1).map Sh.nV)) ∧ H0 m.2 = none
theorem WaH.there {H0 H : Hp} {D a : Addr} {ms : List (List Nat × Addr)} {f f' : List Nat → List Nat} {w : List Nat} {i : Nat} (h : WaH H0 H D ms f) (hm : (w, a) ∈ ms) (h1 : f' w = f w ++ [i]) (h2 : ∀ u, u ≠ w → f' u = f u) : WaH H0 (upd H a (.lst ((f w ++ [i]).map Sh.nV))) D ms f' := by
  obtain ⟨hD, n1, n2, hk, hl⟩ := h
  have ha := (hl _ hm).1
  refine ⟨by rw [upd_ne (fun e => by rw [e, ha] at hD; cases hD)]; exact hD, n1, n2, fun u => ?_, fun m hm2 => ⟨?_, (hl m hm2).2⟩⟩
  · rw [hk]
    by_cases e : u = w
    · rw [e, h1]
      exact ⟨fun _ z => by simp at z, fun _ => (hk w).mp (List.mem_map_of_mem hm)⟩
    · rw [h2 u e]
  · by_cases e : m.1 = w
    · have e2 : m = (w, a) := by
        have g1 := getM_mem n1 hm2
        have g2 := getM_mem n1 hm
        rw [e] at g1
        exact Prod.ext e (Option.some.inj (g1.symm.trans g2))
      rw [e2, upd_same, h1]
    · have e3 : m.2 ≠ a := fun e3 => e (by
        obtain ⟨j, hj, ej⟩ := List.mem_iff_getElem.mp hm2
        obtain ⟨k, hk2, ek⟩ := List.mem_iff_getElem.mp hm
        have hne := List.pairwise_iff_getElem.mp n2
        rcases Nat.lt_trichotomy j k with q | q | q
        · exact absurd (by rw [List.getElem_map, List.getElem_map, ej, ek]; exact e3) (hne j k (by rw [List.length_map]; exact hj) (by rw [List.length_map]; exact hk2) q)
        · subst q; rw [← ej, ek]
        · exact absurd (by rw [List.getElem_map, List.getElem_map, ej, ek]; exact e3.symm) (hne k j (by rw [List.length_map]; exact hk2) (by rw [List.length_map]; exact hj) q))
      rw [upd_ne e3, h2 _ e]
      exact (hl m hm2).1
theorem WaH.new {H0 H : Hp} {D L : Addr} {ms : List (List Nat × Addr)} {f f' : List Nat → List Nat} {w : List Nat} {i : Nat} (h : WaH H0 H D ms f) (hL : H L = none) (hL0 : H0 L = none) (hw : w ∉ ms.map (·.1)) (h1 : f' w = f w ++ [i]) (h2 : ∀ u, u ≠ w → f' u = f u) :
    WaH H0 (upd (upd (upd H L (.lst [])) D (.dK (putK (kvM V.ref ms) (Sum.inr (Sh.S w)) (.ref L)))) L (.lst [Sh.nV i])) D (ms ++ [(w, L)]) f' := by
  obtain ⟨hD, n1, n2, hk, hl⟩ := h
  have hDL : D ≠ L := L2.ne_of_none hD hL
  have hput : putM ms w L = ms ++ [(w, L)] := by unfold putM; rw [if_neg hw]
  have hf : f w = [] := Classical.byContradiction fun e => hw ((hk w).mpr e)
  refine ⟨by rw [upd_ne hDL, upd_same, putK_kvM, hput], ?_, ?_, fun u => ?_, fun m hm => ?_⟩
  · have := putM_nd (x := w) (v := L) n1
    rwa [hput] at this
  · rw [List.map_append, List.nodup_append]
    refine ⟨n2, by simp, fun a ha b hb e => ?_⟩
    rw [List.map_cons, List.map_nil, List.mem_singleton] at hb
    obtain ⟨m, hm, rfl⟩ := List.mem_map.mp ha
    have := (hl m hm).1
    rw [e, hb, hL] at this
    cases this
  · rw [List.map_append, List.mem_append, List.map_cons, List.map_nil, List.mem_singleton]
    by_cases e : u = w
    · rw [e, h1]
      exact ⟨fun _ z => by simp at z, fun _ => .inr rfl⟩
    · rw [h2 u e, hk]
      exact ⟨fun z => z.elim id fun z => absurd z e, .inl⟩
  · rcases List.mem_append.mp hm with hm | hm
    · have h3 := hl m hm
      have e1 : m.2 ≠ L := L2.ne_of_none h3.1 hL
      have e2 : m.2 ≠ D := fun e => by rw [e, hD] at h3; cases h3.1
      rw [upd_ne e1, upd_ne e2, upd_ne e1, h2 _ (fun e => hw (e ▸ List.mem_map_of_mem hm))]
      exact h3
    · rw [List.mem_singleton.mp hm]
      exact ⟨by rw [upd_same, h1, hf]; rfl, hL0⟩
def spEow : Sp := fun vs H Q _ => ∃ t : List Nat, vs = [.str (Sh.S t)] ∧ t.length ≤ 60 ∧ ∀ (D : Addr) (H' : Hp) (ms : List (List Nat × Addr)), Same H H' → H D = none → EnH H' D t ms → ms.length ≤ 4000 → Q (.ref D) H'
section
variable {P : Program} {w : World} {K : PySem.W.Frag} {mg : Str → Option Value} {base : Heap} {C_RangeError C_TooLarge : Addr} {cC cT : Addr}
theorem sc_ends_of_words : FnScope ["text", "ends", "end", "start", "word"] ["text"] (defScope s_ends_of_words) := ⟨rfl, rfl, rfl, by decide +kernel, rfl, by decide +kernel, by decide +kernel⟩
theorem ok_ends_of_words {f : Addr} {fd : FuncData} (F : Fun K "ends_of_words" "ends_of_words" s_ends_of_words f fd) (T : Txt K mg C_RangeError C_TooLarge) : FnOk P w K mg base CX0 1 f fd ["text"] (spEow) := by
  refine F.ok sc_ends_of_words (fun vs H Q E h => ?_) (fun cdv A outer s H vs Q E hr h => ?_)
  · obtain ⟨t, rfl, htl, q⟩ := h
    rfl
  · obtain ⟨t, rfl, htl, q⟩ := h
    refine ⟨_, (pss_cons (ps_set (i := 1) sc_ends_of_words.nd rfl (Or.inr rfl) pe_dnewK) (pss_cons (ps_for PassesOwn.never rfl (pi_range1 (by rfl) T.b_range (pa_cons (pe_op op_add (pe_callB Sh.call_lenS (by rfl) T.b_len PySem.boot_len (pa_cons (pv 0) pa_nil)) pe_int) pa_nil)) (pg_name (i := 2) sc_ends_of_words.nd rfl (Or.inl rfl)) (pss_one (ps_for PassesOwn.never rfl (pi_range1 (by rfl) T.b_range (pa_cons (pe_op op_add (pv 2) pe_int) pa_nil)) (pg_name (i := 3) sc_ends_of_words.nd rfl (Or.inl rfl)) (pss_one (ps_expr (pe_bm PySem.F.plainAttrs_list PySem.F.slot_list_append PySem.F.type_list_append mt_append (Sh.pe_setdef (pv 1) (pe_slice sl_str (pv 0) (po_some (pv 3)) (po_some (pv 2))) (pe_lst pa_nil) ⟨rfl, rfl, rfl, rfl⟩) (pa_cons (pv 2) pa_nil))))))) (pss_one (ps_ret (pe_lock (pe_dc rfl sc_ends_of_words.nd (pi_keys (pv 1)) (blkOk_by (own := [("word", 4)]) (N := ["text", "ends", "end", "start", "word"]) (sc := defScope s_ends_of_words) (by decide +kernel)) (fun _ _ _ _ _ => (pg_name (i := 4) sc_ends_of_words.nd rfl (Or.inl rfl))) (fun _ _ _ _ _ => pts_nil) (fun _ _ _ _ _ => (pv 4)) (fun _ _ _ _ _ => (pe_callTy (Sh.call_tupK (K := K) rfl) (by rfl) T.b_tuple (by decide +kernel) (pa_cons (pe_dget (Sh.hu1 hr) (pv 1) (pv 4) (fun _ _ => rfl)) pa_nil))))))))), ?_⟩
    walk_at "vx"
    intro D hD
    have sD := Sh.same_upd (o := .dK []) hD
    have hDD : upd H D (.dK []) D = some (.dK []) := upd_same
    generalize upd H D (.dK []) = H1 at sD hDD ⊢
    walk_at "vx"
    refine Sh.v_lenS (Sh.sz_of (by omega)) ?_
    walk_at "vx"
    rw [show ((t.length : Int) + 1).toNat = t.length + 1 by omega]
    refine Sh.f_range (fun i σ H' => ∃ (ms : List (List Nat × Addr)) (y2 y3 : Option V), σ = [some (.str (Sh.S t)), some (.ref D), y2, y3, none] ∧ Same H H' ∧ WaH H H' D ms (fun w => EnP t w i 0) ∧ ms.length ≤ i * 62) ⟨[], _, _, rfl, sD, ⟨hDD, List.nodup_nil, List.nodup_nil, fun w => ?_, fun m hm => nomatch hm⟩, Nat.zero_le _⟩ ?_ ?_
    · show _ ↔ EnP t w 0 0 ≠ []
      rw [enp_zero]
      exact Iff.intro (fun h => nomatch h) (fun h => absurd rfl h)
    · rintro i σ H2 hi ⟨ms, y2, y3, rfl, s2, wa, hml⟩
      rw [Int.zero_add]
      walk_at "vx"
      rw [show ((i : Int) + 1).toNat = i + 1 by omega]
      refine Sh.f_range (fun j σ H' => ∃ (ms : List (List Nat × Addr)) (y3 : Option V), σ = [some (.str (Sh.S t)), some (.ref D), some (.int (i : Nat)), y3, none] ∧ Same H H' ∧ WaH H H' D ms (fun w => EnP t w i j) ∧ ms.length ≤ i * 62 + j) ⟨ms, _, rfl, s2, wa, hml⟩ ?_ ?_
      · rintro j σ H3 hj ⟨ms, y3, rfl, s3, wa, hml⟩
        rw [Int.zero_add]
        walk_at "vx"
        have hjl : j ≤ i := by omega
        have hil : i ≤ t.length := by omega
        have f1 : EnP t ((t.take i).drop j) i (j + 1) = EnP t ((t.take i).drop j) i j ++ [i] := enp_same hjl hil
        have f2 : ∀ u, u ≠ (t.take i).drop j → EnP t u i (j + 1) = EnP t u i j := fun u hu => enp_ne hjl hil hu
        have hD3 := wa.1
        refine Sh.v_setdef ?_
        walk_at "vx"
        refine ⟨D, rfl, Sh.isD_K hD3, ?_⟩
        walk_at "vx"
        refine Sh.v_slS (Sh.sz_of (by omega)) ?_
        rw [Sh.cutL_mid _ (by omega) (by omega), show (i : Int).toNat - (j : Int).toNat = i - j by omega, Int.toNat_natCast, show (t.drop j).take (i - j) = (t.take i).drop j by rw [List.drop_take]]
        walk_at "vx"
        refine ⟨of_decide_eq_true rfl, fun L hL => ?_⟩
        have hL0 : H L = none := by
          cases e : H L with
          | none => rfl
          | some o => rw [s3 _ _ e] at hL; cases hL
        have hDL : D ≠ L := L2.ne_of_none hD3 hL
        have hlen : (kvM V.ref ms).length = ms.length := List.length_map _
        have hi62 : i * 62 ≤ 61 * 62 := Nat.mul_le_mul_right 62 (by omega)
        refine ⟨kvM V.ref ms, Sum.inr (Sh.S ((t.take i).drop j)), by rw [upd_ne hDL]; exact hD3, rfl, Sh.sz_lt (by omega), fun v hv => ?_, fun hv => ?_⟩
        · have hv2 := DX_kvM (enc := V.ref) ms ((t.take i).drop j)
          unfold Sh.DX at hv2
          rw [hv] at hv2
          cases hg : getM ms ((t.take i).drop j) with
          | none => rw [hg] at hv2; cases hv2
          | some a =>
            rw [hg] at hv2
            obtain rfl : v = V.ref a := Option.some.inj hv2
            have hm := getM_back hg
            have ha := (wa.2.2.2.2 _ hm).1
            have haL : a ≠ L := L2.ne_of_none ha hL
            have ha2 : upd H3 L (.lst []) a = some (.lst ((EnP t ((t.take i).drop j) i j).map Sh.nV)) := by rw [upd_ne haL]; exact ha
            have wb := wa.there (f' := fun w => EnP t w i (j + 1)) hm f1 f2
            refine ⟨Sh.tyL (SqL.of ha2), ?_⟩
            walk_at "vx"
            have := enp_len t ((t.take i).drop j) i j
            refine Sh.v_append ha2 (Sh.sz_lt (by rw [List.length_map]; omega)) ?_
            rw [show (EnP t ((t.take i).drop j) i j).map Sh.nV ++ [.int (i : Int)] = (EnP t ((t.take i).drop j) i j ++ [i]).map Sh.nV by rw [List.map_append]; rfl]
            walk_at "vx"
            refine ⟨ms, _, rfl, ?_, ?_, by omega⟩
            · intro b o e
              have h1 := s3 _ _ e
              rw [upd_ne (fun z => by have := (wa.2.2.2.2 _ hm).2; rw [z] at e; rw [this] at e; cases e), upd_ne (L2.ne_of_none h1 hL)]
              exact h1
            · obtain ⟨w1, w2, w3, w4, w5⟩ := wb
              refine ⟨?_, w2, w3, w4, fun m hm2 => ⟨?_, (w5 m hm2).2⟩⟩
              · rw [upd_ne (fun e => by rw [e, ha] at hD3; cases hD3), upd_ne hDL]; exact hD3
              · have h6 := (w5 m hm2).1
                by_cases e : m.2 = a
                · rw [e, upd_same] at h6 ⊢; exact h6
                · rw [upd_ne e] at h6 ⊢
                  rw [upd_ne (L2.ne_of_none h6 hL)]
                  exact h6
        · have hnk : (t.take i).drop j ∉ ms.map (·.1) := fun h => by
            obtain ⟨a, hg, _⟩ := getM_some h
            have hv2 := DX_kvM (enc := V.ref) ms ((t.take i).drop j)
            unfold Sh.DX at hv2
            rw [hv, hg] at hv2
            cases hv2
          have wb := wa.new (f' := fun w => EnP t w i (j + 1)) hL hL0 hnk f1 f2
          have hLL : upd (upd H3 L (.lst [])) D (.dK (putK (kvM V.ref ms) (Sum.inr (Sh.S ((t.take i).drop j))) (.ref L))) L = some (.lst []) := by rw [upd_ne (Ne.symm hDL)]; exact upd_same
          refine ⟨Sh.tyL (SqL.of hLL), ?_⟩
          walk_at "vx"
          refine Sh.v_append hLL (by decide) ?_
          walk_at "vx"
          refine ⟨ms ++ [((t.take i).drop j, L)], _, rfl, ?_, wb, by rw [List.length_append]; show ms.length + 1 ≤ _; omega⟩
          intro b o e
          have h1 := s3 _ _ e
          have hbL : b ≠ L := L2.ne_of_none h1 hL
          have hbD : b ≠ D := L2.ne_of_none e hD
          rw [upd_ne hbL, upd_ne hbD, upd_ne hbL]
          exact h1
      · rintro σ H3 ⟨ms, y3, rfl, s3, wa, hml⟩
        walk_at "vx"
        exact ⟨ms, _, _, rfl, s3, by rw [show (fun w => EnP t w (i + 1) 0) = fun w => EnP t w i (i + 1) from funext fun w => (enp_next (by omega)).symm]; exact wa, by omega⟩
    · rintro σ H2 ⟨ms, y2, y3, rfl, s2, wa, hml⟩
      rw [show (fun w => EnP t w (t.length + 1) 0) = En t from funext fun w => enp_last t w] at wa
      walk_at "vx"
      obtain ⟨hD2, n1, n2, hk, hl⟩ := wa
      refine Sh.v_lockK hD2 fun od => ?_
      have hF : upd H2 D (.frz od (.dK (kvM V.ref ms))) D = some (.frz od (.dK (kvM V.ref ms))) := upd_same
      have uF : ∀ b o, b ≠ D → H2 b = some o → upd H2 D (.frz od (.dK (kvM V.ref ms))) b = some o := fun b o hb e => by rw [upd_ne hb]; exact e
      generalize upd H2 D (.frz od (.dK (kvM V.ref ms))) = H8 at hF uF ⊢
      have hkeys : ((kvM V.ref ms).map fun z => kV z.1) = (ms.map (·.1)).map Sh.tV := by unfold kvM; rw [List.map_map, List.map_map]; rfl
      have hlen : (kvM V.ref ms).length = ms.length := List.length_map _
      walk_at "vx"
      refine Sh.v_dc ?_
      unfold iKeys
      walk_at "vx"
      refine ⟨D, od, rfl, .inl ⟨_, hF, ?_⟩⟩
      intro E1 hE
      refine Sh.dc_it (Sh.walk_K (d := D) (o := od) (kvs := kvM V.ref ms)) (fun i H' => ∃ es : List (List Nat × Addr), Same H8 H' ∧ H' E1 = some (.dK (kvM V.ref es)) ∧ es.map (·.1) = (ms.map (·.1)).take i ∧ ∀ m, m ∈ es → H' m.2 = some (.tup ((En t m.1).map Sh.nV))) ⟨[], Sh.same_upd hE, upd_same, rfl, fun m hm => nomatch hm⟩ (fun i H' _ ⟨_, sm, _⟩ => sm _ _ hF) ?_ ?_
      · rintro i x H' H3 hi ⟨es, sm, hEk, hes, hen⟩ ⟨rfl, hx⟩
        rw [hkeys, List.getElem?_map] at hx
        obtain ⟨w1, hw, rfl⟩ : ∃ w, (ms.map (·.1))[i]? = some w ∧ x = Sh.tV w := by
          cases e : (ms.map (·.1))[i]? with
          | none => rw [e] at hx; cases hx
          | some u => rw [e] at hx; exact ⟨u, rfl, (Option.some.inj hx).symm⟩
        obtain ⟨m, hm, em⟩ : ∃ m, ms[i]? = some m ∧ m.1 = w1 := by
          rw [List.getElem?_map] at hw
          exact Option.map_eq_some_iff.mp hw
        subst em
        have hmm := List.mem_of_getElem? hm
        have ha := (hl m hmm).1
        have hmD : m.2 ≠ D := fun e => by rw [e, hD2] at ha; cases ha
        have ha3 := sm _ _ (uF _ _ hmD ha)
        have hel : es.length = i := by have := congrArg List.length hes; rw [List.length_map, List.length_take, List.length_map] at this; rw [hlen] at hi; omega
        have hnk : m.1 ∉ es.map (·.1) := fun h => by
          rw [hes] at h
          obtain ⟨j, hj, e⟩ := List.mem_iff_getElem.mp h
          rw [List.getElem_take] at e
          rw [List.length_take, List.length_map] at hj
          obtain ⟨h1, h2⟩ := List.getElem?_eq_some_iff.mp hw
          exact List.pairwise_iff_getElem.mp n1 j i (by rw [List.length_map]; omega) h1 (by omega) (e.trans h2.symm)
        walk_at "vx"
        refine ⟨rfl, Sh.v_yes ?_⟩
        rw [if_pos rfl]
        walk_at "vx"
        refine Sh.v_dget ?_
        walk_at "vx"
        refine ⟨D, _, rfl, by have := Sh.getF (k := Sum.inr (Sh.S m.1)) (sm _ _ hF); rw [show valV _ (Sum.inr (Sh.S m.1)) = _ from DX_kvM ms m.1, getM_mem n1 hmm] at this; exact this, ?_⟩
        walk_at "vx"
        refine Sh.v_tupL (SqL.of ha3) (fun R hR => ?_)
        have hEE : E1 ≠ R := L2.ne_of_none hEk hR
        rw [hlen] at hi
        refine ⟨kvM V.ref es, Sum.inr (Sh.S m.1), rfl, by rw [upd_ne hEE]; exact hEk, Sh.sz_lt (by rw [show (kvM V.ref es).length = es.length from List.length_map _]; omega), es ++ [(m.1, R)], fun b o e => ?_, ?_, ?_, fun z hz => ?_⟩
        · have h1 := sm _ _ e
          rw [upd_ne (L2.ne_of_none e hE), upd_ne (L2.ne_of_none h1 hR)]
          exact h1
        · rw [upd_same, putK_kvM]
          unfold putM
          rw [if_neg hnk]
        · rw [List.map_append, hes, List.take_add_one, hw]; rfl
        · rcases List.mem_append.mp hz with hz | hz
          · have h1 := hen z hz
            rw [upd_ne (fun e => by rw [e, hEk] at h1; cases h1), upd_ne (L2.ne_of_none h1 hR)]
            exact h1
          · rw [List.mem_singleton.mp hz]
            show upd _ E1 _ R = _
            rw [upd_ne (Ne.symm hEE), upd_same]
      · rintro H9 ⟨es, sm, hEk, hes, hen⟩
        rw [hlen, List.take_of_length_le (by rw [List.length_map]; exact Nat.le_refl _)] at hes
        refine ⟨sm _ _ hF, ?_⟩
        have hED : E1 ≠ D := fun e => by rw [e, hF] at hE; cases hE
        have sR : Same H2 (upd H9 D (.dK (kvM V.ref ms))) := fun b o e => by
          by_cases hb : b = D
          · subst hb; rw [hD2] at e; cases e; exact upd_same
          · rw [upd_ne hb]; exact sm _ _ (uF _ _ hb e)
        have hEn : H E1 = none := by
          cases e : H E1 with
          | none => rfl
          | some o => rw [uF _ _ (fun h => hED h) (s2 _ _ e)] at hE; cases hE
        refine q E1 _ es (s2.trans sR) hEn ⟨by rw [upd_ne hED]; exact hEk, by rw [hes]; exact n1, fun w => by rw [hes]; exact hk w, fun m hm => ?_⟩ (by have := congrArg List.length hes; rw [List.length_map, List.length_map] at this; omega)
        have h1 := hen m hm
        rw [upd_ne (fun e => by rw [e, sm _ _ hF] at h1; cases h1)]
        exact h1
end
def spLbe : Sp := fun vs H Q _ => ∃ (D : Addr) (t : List Nat) (ms : List (List Nat × Addr)), vs = [.ref D] ∧ EnH H D t ms ∧ ms.length ≤ 4000 ∧ t.length ≤ 100 ∧
  ∀ (L : Addr) (H' : Hp) (ws : List (List Nat)), Same H H' → H' L = some (.dT (kvT Sh.tV (ws.map fun w => (En t w, w)))) → (ws.map (En t)).Nodup → (∀ w, w ∈ ws ↔ Lg t w) → ws.length ≤ 4000 → Q (.ref L) H'
section
variable {P : Program} {w : World} {K : PySem.W.Frag} {mg : Str → Option Value} {base : Heap} {C_RangeError C_TooLarge : Addr} {cC cT : Addr}
theorem sc_longest_by_ends : FnScope ["ends", "longest", "word"] ["ends"] (defScope s_longest_by_ends) := ⟨rfl, rfl, rfl, by decide +kernel, rfl, by decide +kernel, by decide +kernel⟩
theorem ok_longest_by_ends {f : Addr} {fd : FuncData} (F : Fun K "longest_by_ends" "longest_by_ends" s_longest_by_ends f fd) (T : Txt K mg C_RangeError C_TooLarge) : FnOk P w K mg base CX0 1 f fd ["ends"] (spLbe) := by
  refine F.ok sc_longest_by_ends (fun vs H Q E h => ?_) (fun cdv A outer s H vs Q E hr h => ?_)
  · obtain ⟨D, t, ms, rfl, hE, hml, htl, q⟩ := h
    rfl
  · obtain ⟨D, t, ms, rfl, hE, hml, htl, q⟩ := h
    refine ⟨_, (pss_cons (ps_set (i := 1) sc_longest_by_ends.nd rfl (Or.inl rfl) pe_dnewT) (pss_cons (ps_lock (ps_for PassesOwn.never rfl (pi_keys (pv 0)) (pg_name (i := 2) sc_longest_by_ends.nd rfl (Or.inl rfl)) (pss_one (ps_if (pt_cmpR op_ge (pe_callB Sh.call_lenS (by rfl) T.b_len PySem.boot_len (pa_cons (pv 2) pa_nil)) (pe_callB Sh.call_lenS (by rfl) T.b_len PySem.boot_len (pa_cons (pe_dget2 (Sh.hu1 hr) (pv 1) (pe_dget (Sh.hu1 hr) (pv 0) (pv 2) (fun _ _ => rfl)) pe_str ⟨rfl, rfl, rfl, rfl⟩) pa_nil)) (nomark _)) (pss_one (ps_asg (pv 2) (pg_sub (pv 1) (pe_dget (Sh.hu1 hr) (pv 0) (pv 2) (fun _ _ => rfl)) (set_dict (Sh.hu1 hr))))) pss_nil)))) (pss_one (ps_ret (pv 1))))), ?_⟩
    obtain ⟨hD0, n1, hk, hl⟩ := id hE
    walk_at "vx"
    intro L hL
    have sL := Sh.same_upd (o := .dT []) hL
    have hLL : upd H L (.dT []) L = some (.dT []) := upd_same
    generalize upd H L (.dT []) = H1 at sL hLL ⊢
    have hD1 := sL _ _ hD0
    have hLD : D ≠ L := L2.ne_of_none hD0 hL
    walk_at "vx"
    refine ⟨D, .dK _, hD1, trivial, fun od => ?_⟩
    have hF : upd H1 D (.frz od (.dK (kvM V.ref ms))) D = some (.frz od (.dK (kvM V.ref ms))) := upd_same
    have uF : ∀ b o, b ≠ D → H1 b = some o → upd H1 D (.frz od (.dK (kvM V.ref ms))) b = some o := fun b o hb e => by rw [upd_ne hb]; exact e
    generalize upd H1 D (.frz od (.dK (kvM V.ref ms))) = H8 at hF uF ⊢
    have hkeys : ((kvM V.ref ms).map fun z => kV z.1) = (ms.map (·.1)).map Sh.tV := by unfold kvM; rw [List.map_map, List.map_map]; rfl
    have hlen : (kvM V.ref ms).length = ms.length := List.length_map _
    have hL8 := uF _ _ (Ne.symm hLD) hLL
    walk_at "vx"
    unfold iKeys
    walk_at "vx"
    refine ⟨D, od, rfl, .inl ⟨_, hF, ?_⟩⟩
    refine for_it (Sh.walk_K (d := D) (o := od) (kvs := kvM V.ref ms)) (fun i σ H' => ∃ (y2 : Option V) (ks : List (List Nat × List Nat)), σ = [some (.ref D), some (.ref L), y2] ∧ (∀ b o, b ≠ L → H8 b = some o → H' b = some o) ∧ H' L = some (.dT (kvT Sh.tV ks)) ∧ ks.length ≤ i ∧ (ks.map (·.1)).Nodup ∧ (∀ m, m ∈ ks → m.1 = En t m.2 ∧ m.2 ∈ (ms.map (·.1)).take i ∧ ∀ x, x ∈ (ms.map (·.1)).take i → En t x = m.1 → x.length ≤ m.2.length) ∧ ∀ x, x ∈ (ms.map (·.1)).take i → En t x ∈ ks.map (·.1))
      ⟨_, [], rfl, fun b o _ e => e, hL8, Nat.le_refl _, List.nodup_nil, (fun m hm => nomatch hm), fun x hx => by rw [List.take_zero] at hx; cases hx⟩ (fun i σ H' _ ⟨_, _, _, s, _⟩ => s _ _ hLD hF) ?_ ?_
    · rintro i x σ H2 H3 hi ⟨y2, ks, rfl, s2, hLk, hkl, hkn, hkm, hka⟩ ⟨rfl, hx⟩
      rw [hlen] at hi
      rw [hkeys, List.getElem?_map] at hx
      obtain ⟨w1, hw, rfl⟩ : ∃ w, (ms.map (·.1))[i]? = some w ∧ x = Sh.tV w := by
        cases e : (ms.map (·.1))[i]? with
        | none => rw [e] at hx; cases hx
        | some u => rw [e] at hx; exact ⟨u, rfl, (Option.some.inj hx).symm⟩
      have hwm := List.mem_of_getElem? hw
      have et : (ms.map (·.1)).take (i + 1) = (ms.map (·.1)).take i ++ [w1] := by rw [List.take_add_one, hw]; rfl
      have hwe := (hk w1).mp hwm
      have hwl := en_len hwe
      obtain ⟨a1, d1, g1⟩ := hE.get hwe
      obtain ⟨a, hga, hma⟩ := getM_some hwm
      have ha := hl _ hma
      have haD : a ≠ D := fun e => by rw [e, hD0] at ha; cases ha
      have haL : a ≠ L := L2.ne_of_none ha hL
      have ha3 := s2 _ _ haL (uF _ _ haD (sL _ _ ha))
      have hDF := s2 _ _ hLD hF
      have dg : DGet H3 D (.str (Sh.S w1)) (some (.ref a)) := by have := Sh.getF (k := Sum.inr (Sh.S w1)) hDF; rw [show valV _ (Sum.inr (Sh.S w1)) = _ from DX_kvM ms w1, hga] at this; exact this
      walk_at "vx"
      show Sh.rLenX [.str (Sh.S w1)] H3 _
      refine Sh.v_lenS (Sh.sz_of (by omega)) ?_
      walk_at "vx"
      refine Sh.v_dget2 ?_
      walk_at "vx"
      refine ⟨L, rfl, .inr ⟨_, .inl hLk⟩, ?_⟩
      refine Sh.v_dget ?_
      walk_at "vx"
      refine ⟨D, _, rfl, dg, ?_⟩
      walk_at "vx"
      refine ⟨_, getT hLk ha3, ?_⟩
      have hval : ((getM ks (En t w1)).map Sh.tV).getD (.str (Str.ofString "")) = .str (Sh.S ((getM ks (En t w1)).getD [])) := by
        cases getM ks (En t w1) with
        | none => show V.str (Str.ofString "") = V.str (Sh.S []); rw [Sh.c_nil]
        | some u => rfl
      rw [hval]
      have hdl : ((getM ks (En t w1)).getD []).length ≤ 100 := by
        cases e : getM ks (En t w1) with
        | none => exact Nat.zero_le _
        | some u =>
          obtain ⟨h1, _, _⟩ := hkm _ (getM_back e)
          have := en_len (t := t) (x := u) (by rw [← h1]; exact hwe)
          show u.length ≤ 100
          omega
      walk_at "vx"
      refine Sh.v_lenS (l := (getM ks (En t w1)).getD []) (Sh.sz_of (by omega)) ?_
      walk_at "vx"
      refine Sh.k_ifD (fun hge => ?_) (fun hlt => ?_)
      · walk_at "vx"
        refine Sh.v_dget ?_
        walk_at "vx"
        refine ⟨D, _, rfl, dg, ?_⟩
        refine ⟨L, _, rfl, DPut.t (k := KeyT (Sh.nI (En t w1))) hLk (by rw [kV_KeyN]; exact ha3) (Sh.sz_lt (by rw [kvT_len]; omega)), ?_⟩
        walk_at "vx"
        have hLL3 : ∀ b o, b ≠ L → H8 b = some o → upd H3 L (.dT (putK (kvT Sh.tV ks) (KeyT (Sh.nI (En t w1))) (.str (Sh.S w1)))) b = some o := fun b o hb e => by rw [upd_ne hb]; exact s2 _ _ hb e
        refine ⟨_, putM ks (En t w1) w1, rfl, hLL3, by rw [upd_same]; exact congrArg (fun z => some (HO.dT z)) (putK_kvT (enc := Sh.tV) ks (En t w1) w1), by have := putM_len (ms := ks) (x := En t w1) (v := w1); omega, putM_nd hkn, fun m hm => ?_, fun x hx => ?_⟩
        · have hg := getM_mem (putM_nd (x := En t w1) (v := w1) hkn) hm
          rw [getM_put] at hg
          by_cases e : m.1 = En t w1
          · rw [if_pos e] at hg
            have e2 : m.2 = w1 := (Option.some.inj hg).symm
            rw [e, e2, et]
            refine ⟨rfl, List.mem_append_right _ List.mem_cons_self, fun x hx he => ?_⟩
            rcases List.mem_append.mp hx with hx | hx
            · obtain ⟨u, hu, hum⟩ := getM_some (hka x hx)
              rw [he] at hu hum
              have h3 := (hkm _ hum).2.2 x hx he
              rw [hu] at hge
              have h4 : u.length ≤ w1.length := by have : ((u.length : Nat) : Int) ≤ (w1.length : Nat) := hge; omega
              exact Nat.le_trans h3 h4
            · rw [List.mem_singleton.mp hx]; exact Nat.le_refl _
          · rw [if_neg e] at hg
            obtain ⟨h1, h2, h3⟩ := hkm _ (getM_back hg)
            refine ⟨h1, by rw [et]; exact List.mem_append_left _ h2, fun x hx he => ?_⟩
            rw [et] at hx
            rcases List.mem_append.mp hx with hx | hx
            · exact h3 x hx he
            · rw [List.mem_singleton.mp hx] at he
              exact absurd he.symm e
        · rw [putM_mem]
          rw [et] at hx
          rcases List.mem_append.mp hx with hx | hx
          · exact .inl (hka x hx)
          · rw [List.mem_singleton.mp hx]; exact .inr rfl
      · walk_at "vx"
        have hne : ∃ u, getM ks (En t w1) = some u ∧ w1.length < u.length := by
          cases e : getM ks (En t w1) with
          | none => exact absurd (by rw [e]; exact Int.natCast_nonneg _) hlt
          | some u =>
            refine ⟨u, rfl, ?_⟩
            rw [e] at hlt
            have : ¬ ((u.length : Nat) : Int) ≤ (w1.length : Nat) := hlt
            omega
        obtain ⟨u, hu, hul⟩ := hne
        have hum := getM_back hu
        refine ⟨_, ks, rfl, s2, hLk, by omega, hkn, fun m hm => ?_, fun x hx => ?_⟩
        · obtain ⟨h1, h2, h3⟩ := hkm m hm
          refine ⟨h1, by rw [et]; exact List.mem_append_left _ h2, fun x hx he => ?_⟩
          rw [et] at hx
          rcases List.mem_append.mp hx with hx | hx
          · exact h3 x hx he
          · rw [List.mem_singleton.mp hx] at he ⊢
            have h5 : m.2 = u := by
              have h6 := getM_mem hkn hm
              rw [← he, hu] at h6
              exact (Option.some.inj h6).symm
            rw [h5]; omega
        · rw [et] at hx
          rcases List.mem_append.mp hx with hx | hx
          · exact hka x hx
          · rw [List.mem_singleton.mp hx]; exact List.mem_map_of_mem hum
    · rintro σ H9 ⟨y2, ks, rfl, s2, hLk, hkl, hkn, hkm, hka⟩
      rw [hlen] at hkl hkm hka
      rw [List.take_of_length_le (by rw [List.length_map]; exact Nat.le_refl _)] at hkm hka
      walk_at "vx"
      refine ⟨s2 _ _ hLD hF, ?_⟩
      walk_at "vx"
      have sR : Same H (upd H9 D (.dK (kvM V.ref ms))) := fun b o e => by
        by_cases hb : b = D
        · subst hb; rw [hD0] at e; cases e; exact upd_same
        · rw [upd_ne hb]; exact s2 _ _ (L2.ne_of_none e hL) (uF _ _ hb (sL _ _ e))
      have hks : (ks.map (·.2)).map (fun w => (En t w, w)) = ks := by
        rw [List.map_map]
        conv => rhs; rw [← List.map_id ks]
        exact List.map_congr_left fun m hm => Prod.ext (hkm m hm).1.symm rfl
      refine q L _ (ks.map (·.2)) sR (by rw [upd_ne (Ne.symm hLD), hks]; exact hLk) ?_ (fun w => ?_) (by rw [List.length_map]; omega)
      · have : (ks.map (·.2)).map (En t) = ks.map (·.1) := by
          rw [List.map_map]
          exact List.map_congr_left fun m hm => (hkm m hm).1.symm
        rw [this]; exact hkn
      · constructor
        · intro h
          obtain ⟨m, hm, rfl⟩ := List.mem_map.mp h
          obtain ⟨h1, h2, h3⟩ := hkm m hm
          have h4 := (hk _).mp h2
          exact ⟨h4, fun x hx => h3 x ((hk x).mpr (by rw [hx]; exact h4)) (hx.trans h1.symm)⟩
        · intro h
          obtain ⟨u, hu, hum⟩ := getM_some (hka w ((hk w).mpr h.1))
          obtain ⟨h1, h2, h3⟩ := hkm _ hum
          have h4 : Lg t u := ⟨(hk _).mp h2, fun x hx => h3 x ((hk x).mpr (by rw [hx]; exact (hk _).mp h2)) (hx.trans h1.symm)⟩
          rw [lg_un h h4 h1]
          exact List.mem_map_of_mem hum
end
def spLun : Sp := fun vs H Q _ => ∃ (D : Addr) (t x : List Nat) (ms : List (List Nat × Addr)), vs = [.ref D, .str (Sh.S x)] ∧ EnH H D t ms ∧ t.length ≤ 100 ∧ En t x ≠ [] ∧ x ≠ [] ∧ x.length ≤ 100 ∧
  ∀ (k : Nat) (H' : Hp), 1 ≤ k → k ≤ x.length → (∀ j, j < k → En t (x.drop j) = En t x) → En t (x.drop k) ≠ En t x → Same H H' → Q (.str (Sh.S (x.drop k))) H'
section
variable {P : Program} {w : World} {K : PySem.W.Frag} {mg : Str → Option Value} {base : Heap} {C_RangeError C_TooLarge : Addr} {cC cT : Addr}
theorem sc_longest_unlike : FnScope ["ends", "word", "start"] ["ends", "word"] (defScope s_longest_unlike) := ⟨rfl, rfl, rfl, by decide +kernel, rfl, by decide +kernel, by decide +kernel⟩
theorem ok_longest_unlike {f : Addr} {fd : FuncData} (F : Fun K "longest_unlike" "longest_unlike" s_longest_unlike f fd) (T : Txt K mg C_RangeError C_TooLarge) : FnOk P w K mg base CX0 1 f fd ["ends", "word"] (spLun) := by
  refine F.ok sc_longest_unlike (fun vs H Q E h => ?_) (fun cdv A outer s H vs Q E hr h => ?_)
  · obtain ⟨D, t, x, ms, rfl, hE, htl, hx, hxn, hxl, q⟩ := h
    rfl
  · obtain ⟨D, t, x, ms, rfl, hE, htl, hx, hxn, hxl, q⟩ := h
    refine ⟨_, (pss_cons (ps_set (i := 2) sc_longest_unlike.nd rfl (Or.inl rfl) pe_int) (pss_cons (ps_while PassesOwn.never (pt_cmpR (op_eqD (Sh.hu64 hr)) (pe_dget (Sh.hu1 hr) (pv 0) (pe_slice sl_str (pv 1) (po_some (pv 2)) po_none) (fun _ _ => rfl)) (pe_dget (Sh.hu1 hr) (pv 0) (pv 1) (fun _ _ => rfl)) (nomark _)) (pss_one (ps_aug (i := 2) sc_longest_unlike.nd rfl (Or.inl rfl) pe_int ip_add))) (pss_one (ps_ret (pe_slice sl_str (pv 1) (po_some (pv 2)) po_none))))), ?_⟩
    walk_at "vx"
    refine Sh.v_while (fun m σ H' => ∃ k : Nat, H' = H ∧ 1 ≤ k ∧ k ≤ x.length ∧ σ = [some (.ref D), some (.str (Sh.S x)), some (.int (k : Nat))] ∧ (∀ j, j < k → En t (x.drop j) = En t x) ∧ m = x.length - k) _ ⟨1, rfl, Nat.le_refl _, List.length_pos_iff.mpr hxn, rfl, fun j hj => by rw [show j = 0 by omega]; rfl, rfl⟩ ?_ (by walk_at "mo5"; (all_goals walk_at "mo2"); (all_goals walk_at "mo5"); exact mo_eqD)
    rintro m σ H' ⟨k, rfl, hk1, hkl, rfl, hk, rfl⟩
    have hdr : En t (x.drop k) ≠ [] := fun e => by
      obtain ⟨d, hd⟩ := List.exists_mem_of_ne_nil _ hx
      have := en_sub (List.drop_suffix k x) hd
      rw [e] at this
      exact nomatch this
    obtain ⟨a1, d1, g1⟩ := hE.get hdr
    obtain ⟨a2, d2, g2⟩ := hE.get hx
    walk_at "vx"
    refine Sh.v_dget ?_
    walk_at "vx"
    refine Sh.v_slS (Sh.sz_of (by omega)) ?_
    rw [Sh.cutL_from _ (by omega), Int.toNat_natCast]
    refine ⟨D, _, rfl, d1, ?_⟩
    refine Sh.v_dget ?_
    walk_at "vx"
    refine ⟨D, _, rfl, d2, ?_⟩
    refine ⟨.tuple (Sh.iD (Sh.nI (En t (x.drop k)))), .tuple (Sh.iD (Sh.nI (En t x))), .tup (SqT.of (by rw [g1, Sh.nV_map])) (Sh.dp_ints _), .tup (SqT.of (by rw [g2, Sh.nV_map])) (Sh.dp_ints _), Sh.Shp.shaped (n := 1) (Sh.Shp.tup (Sh.shp_iD _)) (by decide), Sh.Shp.shaped (n := 1) (Sh.Shp.tup (Sh.shp_iD _)) (by decide), ?_⟩
    rw [show PyData.eqv (.tuple (Sh.iD (Sh.nI (En t (x.drop k))))) (.tuple (Sh.iD (Sh.nI (En t x)))) = PyData.eqvAll (Sh.iD (Sh.nI (En t (x.drop k)))) (Sh.iD (Sh.nI (En t x))) by simp [PyData.eqv], Sh.eqv_ints]
    walk_at "vx"
    refine Sh.k_ifD (fun e => ?_) (fun e => ?_)
    · have e := nI_inj e
      have hkl2 : k < x.length := by
        rcases Nat.lt_or_ge k x.length with h | h
        · exact h
        · exfalso
          rw [List.drop_of_length_le h] at e
          have : 0 ∈ En t [] := en_zero.mpr rfl
          rw [e] at this
          exact hxn (en_zero.mp this)
      walk_at "vx"
      exact ⟨x.length - (k + 1), by omega, k + 1, rfl, by omega, by omega, rfl, fun j hj => by
        rcases Nat.lt_or_ge j k with h | h
        · exact hk j h
        · rw [show j = k by omega]; exact e, rfl⟩
    · walk_at "vx"
      refine Sh.v_slS (Sh.sz_of (by omega)) ?_
      rw [Sh.cutL_from _ (by omega), Int.toNat_natCast]
      exact q k _ hk1 hkl hk (fun z => e (by rw [z])) (Same.refl _)
end
structure AS where
  a : Addr
  v : Addr
  ws : List (Addr × Sh.SI)
  word : List Nat
  link : Int
/-- an automaton as it lies in a heap -/
def AutH (H : Hp) (A : Addr) (ss : List AS) : Prop := H A = some (.tup (ss.map fun s => V.ref s.a)) ∧ ∀ s, s ∈ ss → H s.a = some (.tup [.str (Sh.S s.word), .int s.link, .ref s.v]) ∧ H s.v = some (.tup (s.ws.map Sh.rE)) ∧ Sh.LE Sh.eSI H s.ws
theorem AutH.same {H H' : Hp} {A : Addr} {ss : List AS} (h : AutH H A ss) (s : Same H H') : AutH H' A ss := ⟨s _ _ h.1, fun x hx => by obtain ⟨h1, h2, h3⟩ := h.2 x hx; exact ⟨s _ _ h1, s _ _ h2, h3.same s⟩⟩
/-- where a word leads -/
def runA (ss : List AS) : Nat → List Nat → Option Nat
  | i, [] => some i
  | i, c :: x => match ss[i]? with
    | none => none
    | some s => match s.ws.filter (fun z => decide (z.2.1 = [c])) with
      | [] => none
      | z :: _ => runA ss z.2.2.toNat x
def spRw : Sp := fun vs H Q _ => ∃ (A : Addr) (ss : List AS) (x : List Nat), vs = [.ref A, .str (Sh.S x)] ∧ AutH H A ss ∧ x.length ≤ 200 ∧ ss ≠ [] ∧ ss.length ≤ 10000 ∧ (∀ s, s ∈ ss → s.ws.length ≤ 100 ∧ ∀ z, z ∈ s.ws → 0 ≤ z.2.2 ∧ z.2.2 < ss.length) ∧
  ∀ H', Same H H' → Q (.int (match runA ss 0 x with | some i => (i : Int) | none => -1)) H'
section
variable {P : Program} {w : World} {K : PySem.W.Frag} {mg : Str → Option Value} {base : Heap} {C_RangeError C_TooLarge : Addr} {cC cT : Addr}
theorem sc_run_word : FnScope ["automaton", "word", "state", "letter", "ways", "sign", "other"] ["automaton", "word"] (defScope s_run_word) := ⟨rfl, rfl, rfl, by decide +kernel, rfl, by decide +kernel, by decide +kernel⟩
theorem ok_run_word {f : Addr} {fd : FuncData} (F : Fun K "run_word" "run_word" s_run_word f fd) (T : Txt K mg C_RangeError C_TooLarge) : FnOk P w K mg base CX0 1 f fd ["automaton", "word"] (spRw) := by
  refine F.ok sc_run_word (fun vs H Q E h => ?_) (fun cdv A outer s H vs Q E hr h => ?_)
  · obtain ⟨A, ss, x, rfl, hA, hx, hne, hsl, hws, q⟩ := h
    rfl
  · obtain ⟨A, ss, x, rfl, hA, hx, hne, hsl, hws, q⟩ := h
    refine ⟨_, (pss_cons (ps_set (i := 2) sc_run_word.nd rfl (Or.inl rfl) pe_int) (pss_cons (ps_for PassesOwn.never rfl (pi_str (pv 1)) (pg_name (i := 3) sc_run_word.nd rfl (Or.inr rfl)) (pss_cons (ps_setLc (i := 4) rfl sc_run_word.nd rfl rfl (sw_true rfl rfl rfl (by decide +kernel)) (pi_tup (pe_ix ix_tup (pe_ix ix_tup (pv 0) (pv 2) (fun _ _ => rfl)) pe_int (fun _ _ => rfl))) (blkOk_by (own := [("sign", 5), ("other", 6)]) (N := ["automaton", "word", "state", "letter", "ways", "sign", "other"]) (sc := defScope s_run_word) (by decide +kernel)) (fun _ _ _ _ _ => (Sh.pg_tupK (K := K) (n := 2) rfl rfl (pgs_cons (pg_name (i := 5) sc_run_word.nd rfl (Or.inl rfl)) (pgs_cons (pg_name (i := 6) sc_run_word.nd rfl (Or.inl rfl)) pgs_nil)))) (fun _ _ _ _ _ => (pts_one (pt_cmpR op_eq (pv 5) (pv 3) (nomark _)))) (fun _ _ _ _ _ => (pv 6))) (pss_cons (ps_if (pt_cmpR op_eq (pe_callB Sh.call_lenQ (by rfl) T.b_len PySem.boot_len (pa_cons (pv 4) pa_nil)) pe_int (nomark _)) (pss_one (ps_ret (pe_un un_neg pe_int))) pss_nil) (pss_one (ps_set (i := 2) sc_run_word.nd rfl (Or.inl rfl) (pe_ix ix_list (pv 4) pe_int (fun _ _ => rfl))))))) (pss_one (ps_ret (pv 2))))), ?_⟩
    walk_at "vx"
    have hpos : 0 < ss.length := List.length_pos_iff.mpr hne
    refine Sh.f_str (fun i σ H' => ∃ (st : Nat) (y3 y4 : Option V), σ = [some (.ref A), some (.str (Sh.S x)), some (.int (st : Nat)), y3, y4, none, none] ∧ Same H H' ∧ st < ss.length ∧ runA ss 0 x = runA ss st (x.drop i)) ⟨0, none, none, rfl, Same.refl _, hpos, rfl⟩ ?_ ?_
    · rintro i c σ H' hi ⟨st, y3, y4, rfl, sm, hst, hrun⟩
      have hA' := hA.same sm
      obtain ⟨g1, g2, g3⟩ := hA'.2 ss[st] (List.getElem_mem hst)
      obtain ⟨hwl, hwb⟩ := hws ss[st] (List.getElem_mem hst)
      have hdr : x.drop i = c :: x.drop (i + 1) := by
        obtain ⟨h1, h2⟩ := List.getElem?_eq_some_iff.mp hi
        rw [List.drop_eq_getElem_cons h1, h2]
      have hstep : runA ss st (x.drop i) = match ss[st].ws.filter (fun z => decide (z.2.1 = [c])) with
          | [] => none
          | z :: _ => runA ss z.2.2.toNat (x.drop (i + 1)) := by
        rw [hdr]
        show (match ss[st]? with | none => none | some s => _) = _
        rw [List.getElem?_eq_getElem hst]
      walk_at "vx"
      refine Sh.v_ixT (SqT.of hA'.1) (k := st) (v := V.ref ss[st].a) (by rw [List.getElem?_map, List.getElem?_eq_getElem hst]; rfl) rfl ?_
      walk_at "vx"
      refine Sh.v_kT (SqT.of g2) (Sh.lc_walkP (Gd := fun H => SqT K H ss[st].v (ss[st].ws.map Sh.rE)) Sh.rE (fun z : Addr × Sh.SI => [some (.ref A), some (.str (Sh.S x)), some (.int (st : Nat)), some (.str (Sh.S [c])), y4, some (.str (Sh.S z.2.1)), some (.int z.2.2)]) Sh.walk_T (fun H' s => SqT.of (s _ _ g2)) (fun z => decide (z.2.1 = [c])) (fun z => .int z.2.2) (Sh.sz_of (by omega)) (fun z H2 hz s2 Pq k => ?_) (fun z => rfl) (fun z H2 _ s2 Qb k => ?_) (fun z H2 hz hp s2 Qv k => ?_) (fun L H2 hL s2 gL => ?_))
      · have g3z : H2 z.1 = some (.tup [V.str (Sh.S z.2.1), V.int z.2.2]) := s2 _ _ (g3 z hz)
        refine Sh.v_gTup (SqT.of g3z) rfl ?_
        walk_at "vx"
        exact k
      · walk_at "vx"
        exact k _ (Same.refl _)
      · walk_at "vx"
        exact k _ (Same.refl _)
      walk_at "vx"
      refine Sh.v_lenL (SqL.of gL) ?_
      walk_at "vx"
      rw [List.length_map]
      cases hf : ss[st].ws.filter (fun z => decide (z.2.1 = [c])) with
      | nil =>
        rw [hf] at hstep
        have hstep : runA ss st (x.drop i) = none := hstep
        refine Sh.k_ifD (fun _ => ?_) (fun z => absurd rfl z)
        have q := q H2 (sm.trans s2)
        rw [hrun, hstep] at q
        walk_at "vx"
        exact q
      | cons z zs =>
        rw [hf] at hstep gL
        have hstep : runA ss st (x.drop i) = runA ss z.2.2.toNat (x.drop (i + 1)) := hstep
        have hz : z ∈ ss[st].ws := (List.mem_filter.mp (by rw [hf]; exact List.mem_cons_self : z ∈ ss[st].ws.filter (fun z => decide (z.2.1 = [c])))).1
        obtain ⟨z0, z1⟩ := hwb z hz
        refine Sh.k_ifD (fun z => absurd z (by simp; omega)) (fun _ => ?_)
        walk_at "vx"
        exact ⟨z.2.2.toNat, _, _, by rw [Int.toNat_of_nonneg z0]; rfl, sm.trans s2, by omega, by rw [hrun, hstep]⟩
    · rintro σ H' ⟨st, y3, y4, rfl, sm, hst, hrun⟩
      have q := q H' sm
      rw [hrun, List.drop_length] at q
      walk_at "vx"
      exact q
end
/-- the shortest word of a state's class -/
def shortA (ss : List AS) (s : AS) : List Nat := if s.link = -1 then s.word else match ss[s.link.toNat]? with
  | some u => s.word.drop (s.word.length - u.word.length - 1)
  | none => s.word
def spSo (C : Addr) : Sp := fun vs H Q E => ∃ (A : Addr) (ss : List AS) (st : Int), vs = [.ref A, .int st] ∧ AutH H A ss ∧ Sh.Sm st ∧ ss.length ≤ 10000 ∧ (∀ s, s ∈ ss → s.word.length ≤ 10000 ∧ (s.link = -1 ∨ (0 ≤ s.link ∧ s.link < ss.length ∧ ∀ u, ss[s.link.toNat]? = some u → u.word.length < s.word.length))) ∧
  ((st < 0 ∨ (ss.length : Int) ≤ st) → E (.ref C) none H) ∧ (∀ s, 0 ≤ st → ss[st.toNat]? = some s → Q (.str (Sh.S (shortA ss s))) H)
section
variable {P : Program} {w : World} {K : PySem.W.Frag} {mg : Str → Option Value} {base : Heap} {C_RangeError C_TooLarge : Addr} {cC cT : Addr}
theorem sc_shortest_of : FnScope ["automaton", "state", "longest", "link", "_"] ["automaton", "state"] (defScope s_shortest_of) := ⟨rfl, rfl, rfl, by decide +kernel, rfl, by decide +kernel, by decide +kernel⟩
theorem ok_shortest_of {f : Addr} {fd : FuncData} (F : Fun K "shortest_of" "shortest_of" s_shortest_of f fd) (T : Txt K mg C_RangeError C_TooLarge) : FnOk P w K mg base (L2.CX P w) 1 f fd ["automaton", "state"] (spSo C_RangeError) := by
  refine F.okX sc_shortest_of (fun vs H Q E h => ?_) (fun cdv A outer s H vs Q E hr h => ?_)
  · obtain ⟨A, ss, st, rfl, hA, hsm, hsl, hws, qE, q⟩ := h
    rfl
  · obtain ⟨A, ss, st, rfl, hA, hsm, hsl, hws, qE, q⟩ := h
    refine ⟨_, (pss_cons (ps_if (pt_not (pt_chain op_le op_lt pe_int (pv 1) (pe_callB Sh.call_lenQ (by rfl) T.b_len PySem.boot_len (pa_cons (pv 0) pa_nil)))) (pss_one (ps_raise rfl (takes_of rfl rfl rfl rfl) (pmk_ownA PySem.F.excBase_ValueError T.x_RangeError.e T.x_RangeError.g T.x_RangeError.k (raises_own T.x_RangeError.b T.x_RangeError.t) (by exact rfl) (pa_cons (pe_joined (PJ.cons pe_str (PJ.cons (pe_fmt (pv 1)) PJ.nil))) pa_nil)))) pss_nil) (pss_cons (ps_asg (pe_ix ix_tup (pv 0) (pv 1) (fun _ _ => rfl)) (Sh.pg_tupK (K := K) (n := 3) rfl rfl (pgs_cons (pg_name (i := 2) sc_shortest_of.nd rfl (Or.inl rfl)) (pgs_cons (pg_name (i := 3) sc_shortest_of.nd rfl (Or.inl rfl)) (pgs_cons (pg_name (i := 4) sc_shortest_of.nd rfl (Or.inl rfl)) pgs_nil))))) (pss_cons (ps_if (pt_cmpR op_eq (pv 3) (pe_un un_neg pe_int) (nomark _)) (pss_one (ps_ret (pv 2))) pss_nil) (pss_one (ps_ret (pe_slice sl_str (pv 2) (po_some (pe_op op_sub (pe_op op_sub (pe_callB Sh.call_lenS (by rfl) T.b_len PySem.boot_len (pa_cons (pv 2) pa_nil)) (pe_callB Sh.call_lenS (by rfl) T.b_len PySem.boot_len (pa_cons (pe_ix ix_tup (pe_ix ix_tup (pv 0) (pv 3) (fun _ _ => rfl)) pe_int (fun _ _ => rfl)) pa_nil))) pe_int)) po_none)))))), ?_⟩
    walk_at "vx"
    refine Sh.k_ifD (fun h0 => ?_) (fun h0 => ?_)
    · walk_at "vx"
      refine Sh.v_lenT (SqT.of hA.1) ?_
      walk_at "vx"
      rw [List.length_map]
      refine Sh.k_ifN (fun h1 => ?_) (fun h1 => ?_)
      · refine Sh.v_cons (Sh.J0 (Sh.J_c (by decide +kernel) (by decide) (Sh.J_i hsm (by decide) (fun Qv kk => by walk_at "vx"; exact kk) (Sh.J_nil fun outS => ?_))))
        walk_at "vx"
        exact ⟨of_decide_eq_true rfl, qE (.inr (by omega))⟩
      · obtain ⟨i, rfl⟩ := Int.eq_ofNat_of_zero_le h0
        have hi : i < ss.length := by omega
        have hm := List.getElem_mem hi
        obtain ⟨g1, g2, g3⟩ := hA.2 ss[i] hm
        obtain ⟨w1, w2⟩ := hws ss[i] hm
        have q := q ss[i] (by omega) (by rw [Int.toNat_natCast, List.getElem?_eq_getElem hi])
        unfold shortA at q
        walk_at "vx"
        refine Sh.v_ixT (SqT.of hA.1) (k := i) (v := V.ref ss[i].a) (by rw [List.getElem?_map, List.getElem?_eq_getElem hi]; rfl) rfl ?_
        walk_at "vx"
        refine Sh.v_gTup (SqT.of g1) rfl ?_
        walk_at "vx"
        refine Sh.k_ifD (fun e => ?_) (fun e => ?_)
        · rw [if_pos e] at q
          walk_at "vx"
          exact q
        · rw [if_neg e] at q
          rcases w2 with w2 | ⟨l0, l1, l2⟩
          · exact absurd w2 e
          have hl : ss[i].link.toNat < ss.length := by omega
          have hlm := List.getElem_mem hl
          obtain ⟨g4, _, _⟩ := hA.2 _ hlm
          have hlt := l2 _ (List.getElem?_eq_getElem hl)
          rw [List.getElem?_eq_getElem hl] at q
          have q : Q (.str (Sh.S (ss[i].word.drop (ss[i].word.length - ss[ss[i].link.toNat].word.length - 1)))) H := q
          have w3 := (hws _ hlm).1
          walk_at "vx"
          refine Sh.v_lenS (Sh.sz_of (by omega)) ?_
          walk_at "vx"
          refine Sh.v_ixT (SqT.of hA.1) (k := ss[i].link.toNat) (v := V.ref ss[ss[i].link.toNat].a) (by rw [List.getElem?_map, List.getElem?_eq_getElem hl]; rfl) (by omega) ?_
          walk_at "vx"
          refine Sh.v_lenS (Sh.sz_of (by omega)) ?_
          walk_at "vx"
          refine Sh.v_slS (Sh.sz_of (by omega)) ?_
          rw [Sh.cutL_from _ (by omega), show ((ss[i].word.length : Int) - (ss[ss[i].link.toNat].word.length : Int) - 1).toNat = ss[i].word.length - ss[ss[i].link.toNat].word.length - 1 by omega]
          walk_at "vx"
          exact q
    · walk_at "vx"
      refine Sh.J0 (Sh.J_c (by decide +kernel) (by decide) (Sh.J_i hsm (by decide) (fun Qv kk => by walk_at "vx"; exact kk) (Sh.J_nil fun outS => ?_)))
      walk_at "vx"
      exact ⟨of_decide_eq_true rfl, qE (.inl (by omega))⟩
theorem sc_l_begin : FnScope ["script", "seed", "cell"] ["script"] (defScope s_l_begin) := ⟨rfl, rfl, rfl, by decide +kernel, rfl, by decide +kernel, by decide +kernel⟩
theorem ok_l_begin {f : Addr} {fd : FuncData} (F : Fun K "_law_begin" "_law_begin" s_l_begin f fd) (T : Txt K mg C_RangeError C_TooLarge) : FnOk P w K mg base CX0 1 f fd ["script"] (Sh.spBegin K) := by
  refine F.ok sc_l_begin (fun vs H Q E h => ?_) (fun cdv A outer s H vs Q E hr h => ?_)
  · obtain ⟨a, ns, rfl, hS, hlen, q⟩ := h
    rfl
  · obtain ⟨a, ns, rfl, hS, hlen, q⟩ := h
    refine ⟨_, (pss_cons (ps_set (i := 1) sc_l_begin.nd rfl (Or.inl rfl) pe_int) (pss_cons (ps_for PassesOwn.never rfl (pi_list (pv 0)) (pg_name (i := 2) sc_l_begin.nd rfl (Or.inl rfl)) (pss_one (ps_set (i := 1) sc_l_begin.nd rfl (Or.inl rfl) (pe_op op_mod (pe_op op_add (pe_op op_add (pe_op op_mul (pv 1) pe_int) (pe_op op_mod (pe_callTy Sh.call_intX (by rfl) T.b_int (by decide +kernel) (pa_cons (pv 2) pa_nil)) pe_int)) pe_int) pe_int)))) (pss_one (ps_ret (pe_lst (pa_cons (pe_callTy Sh.call_listQ (by rfl) T.b_list (by decide +kernel) (pa_cons (pv 0) pa_nil)) (pa_cons pe_int (pa_cons pe_int (pa_cons (pv 1) pa_nil))))))))), ?_⟩
    walk_at "vx"
    refine Sh.v_kL hS (Sh.f_list (xs := ns.map V.int) (fun i σ H' => H' = H ∧ ∃ (s : Int) (y : Option V), 0 ≤ s ∧ s < 2147483647 ∧ σ = [some (.ref a), some (.int s), y]) ⟨rfl, 1, none, by decide, by decide, rfl⟩ (fun i σ H' _ ⟨e, _⟩ => by subst e; exact hS) ?_ ?_)
    · rintro i x σ H' hi ⟨rfl, s, y, h0, h1, rfl⟩
      obtain ⟨u, rfl⟩ : ∃ u, x = V.int u := by
        rw [List.getElem?_map] at hi
        cases e : ns[i]? with
        | none => rw [e] at hi; cases hi
        | some u => rw [e] at hi; exact ⟨u, (Option.some.inj hi).symm⟩
      walk_at "vx"
      exact ⟨rfl, _, _, Int.emod_nonneg _ (by decide), Int.emod_lt_of_pos _ (by decide), rfl⟩
    · rintro σ H' ⟨rfl, s, y, h0, h1, rfl⟩
      walk_at "vx"
      refine Sh.v_listL hS (fun l hl => ?_)
      walk_at "vx"
      refine ⟨of_decide_eq_true rfl, fun p hp => ?_⟩
      have hlp : p ≠ l := fun e => by rw [e, upd_same] at hp; cases hp
      have hpH : H' p = none := by rw [upd_ne hlp] at hp; exact hp
      refine q p l _ hpH hl ((Sh.same_upd hl).trans (Sh.same_upd hp)) ⟨ns, 0, 0, s, upd_same, by rw [upd_ne hlp.symm]; exact upd_same, by decide, by decide⟩
theorem sc_l_take : FnScope ["d", "many", "small", "digit"] ["d", "many"] (defScope s_l_take) := ⟨rfl, rfl, rfl, by decide +kernel, rfl, by decide +kernel, by decide +kernel⟩
theorem ok_l_take {f : Addr} {fd : FuncData} (F : Fun K "_law_take" "_law_take" s_l_take f fd) (T : Txt K mg C_RangeError C_TooLarge) : FnOk P w K mg base CX0 1 f fd ["d", "many"] (Sh.spTake) := by
  refine F.ok sc_l_take (fun vs H Q E h => ?_) (fun cdv A outer s H vs Q E hr h => ?_)
  · obtain ⟨a, l, m, rfl, hD, hm, hm2, q⟩ := h
    rfl
  · obtain ⟨a, l, m, rfl, hD, hm, hm2, q⟩ := h
    refine ⟨_, (pss_cons (ps_if (pw_and (pt_cmpR op_eq (pe_ix ix_list (pv 0) pe_int (fun _ _ => rfl)) pe_int (nomark _)) (pw_and1 (pt_cmpR op_lt (pe_ix ix_list (pv 0) pe_int (fun _ _ => rfl)) (pe_callB Sh.call_lenQ (by rfl) T.b_len PySem.boot_len (pa_cons (pe_ix ix_list (pv 0) pe_int (fun _ _ => rfl)) pa_nil)) (nomark _)))).pt (pss_cons (ps_asg (pe_callB Sh.call_absX (by rfl) T.b_abs (by decide +kernel) (pa_cons (pe_callTy Sh.call_intX (by rfl) T.b_int (by decide +kernel) (pa_cons (pe_ix ix_list (pe_ix ix_list (pv 0) pe_int (fun _ _ => rfl)) (pe_ix ix_list (pv 0) pe_int (fun _ _ => rfl)) (fun _ _ => rfl)) pa_nil)) pa_nil)) (pg_sub (pv 0) pe_int set_list)) (pss_cons (ps_asg (pe_op op_add (pe_ix ix_list (pv 0) pe_int (fun _ _ => rfl)) pe_int) (pg_sub (pv 0) pe_int set_list)) (pss_one (ps_if (pt_cmpR op_lt (pe_ix ix_list (pv 0) pe_int (fun _ _ => rfl)) (pe_op op_pow pe_int pe_int) (nomark _)) (pss_cons (ps_set (i := 2) sc_l_take.nd rfl (Or.inl rfl) (pe_callTy Sh.call_intX (by rfl) T.b_int (by decide +kernel) (pa_cons (pe_ix ix_list (pv 0) pe_int (fun _ _ => rfl)) pa_nil))) (pss_cons (ps_asg pe_int (pg_sub (pv 0) pe_int set_list)) (pss_one (ps_ret (pe_op op_mod (pv 2) (pv 1)))))) pss_nil)))) pss_nil) (pss_cons (ps_if (pt_cmpR op_gt (pe_ix ix_list (pv 0) pe_int (fun _ _ => rfl)) pe_int (nomark _)) (pss_cons (ps_set (i := 3) sc_l_take.nd rfl (Or.inl rfl) (pe_op op_mod (pe_callTy Sh.call_intX (by rfl) T.b_int (by decide +kernel) (pa_cons (pe_ix ix_list (pv 0) pe_int (fun _ _ => rfl)) pa_nil)) (pv 1))) (pss_cons (ps_asg (pe_op op_fdiv (pe_callTy Sh.call_intX (by rfl) T.b_int (by decide +kernel) (pa_cons (pe_ix ix_list (pv 0) pe_int (fun _ _ => rfl)) pa_nil)) (pv 1)) (pg_sub (pv 0) pe_int set_list)) (pss_one (ps_ret (pv 3))))) pss_nil) (pss_cons (ps_asg (pe_op op_mod (pe_callTy Sh.call_intX (by rfl) T.b_int (by decide +kernel) (pa_cons (pe_op op_add (pe_op op_mul (pe_ix ix_list (pv 0) pe_int (fun _ _ => rfl)) pe_int) pe_int) pa_nil)) pe_int) (pg_sub (pv 0) pe_int set_list)) (pss_one (ps_ret (pe_op op_mod (pe_callTy Sh.call_intX (by rfl) T.b_int (by decide +kernel) (pa_cons (pe_op op_fdiv (pe_ix ix_list (pv 0) pe_int (fun _ _ => rfl)) pe_int) pa_nil)) (pv 1))))))), ?_⟩
    obtain ⟨ns, p, r, z, hA, hL, hp, hr0⟩ := hD
    have hla : l ≠ a := Sh.setR hA hL
    have mx : ∀ x : Int, 0 ≤ x % m ∧ x % m < m := fun x => ⟨Int.emod_nonneg x (by omega), Int.emod_lt_of_pos x hm⟩
    have dr : ∀ p' r' z' : Int, 0 ≤ p' → 0 ≤ r' → Sh.Dr (upd H a (.lst [.ref l, .int p', .int r', .int z'])) a l := fun p' r' z' h1 h2 =>
      ⟨ns, p', r', z', upd_same, by rw [upd_ne hla]; exact hL, h1, h2⟩
    walk_at "vx"
    refine' Sh.k_and ?h1 ?h2 ?hA ?hB
    case h1 => walk_at "pure"
    case h2 =>
      intro _ Qb kQ
      walk_at "vx"
      refine Sh.v_lenL (SqL.of hL) ?_
      walk_at "vx"
      exact kQ
    case hA =>
      intro e1 e2
      have e2 := of_decide_eq_true e2
      rw [List.length_map] at e2
      have hk : p.toNat < ns.length := by omega
      walk_at "vx"
      refine Sh.v_ixL (SqL.of hL) (Sh.mapI hk) (Int.toNat_of_nonneg hp).symm ?_
      walk_at "vx"
      simp only [upd_upd, List.set_cons_zero, List.set_cons_succ]
      generalize hx : (if ns[p.toNat] < 0 then -ns[p.toNat] else ns[p.toNat]) = x
      have hx0 : 0 ≤ x := by rw [← hx]; split <;> omega
      refine Sh.k_ifD (fun _ => ?_) (fun _ => ?_)
      · walk_at "vx"
        rw [upd_upd]
        exact q _ _ (mx _).1 (mx _).2 Sh.But.upd (dr _ _ _ (by omega) (by omega))
      · walk_at "vx"
        refine Sh.k_ifD (fun _ => ?_) (fun h => ?_)
        · walk_at "vx"
          rw [upd_upd]
          exact q _ _ (mx _).1 (mx _).2 Sh.But.upd (dr _ _ _ (by omega) (Int.ediv_nonneg hx0 (by omega)))
        · exfalso
          rename_i h2
          have : (10 : Int) ^ (18 : Int).toNat = 1000000000000000000 := by decide
          omega
    case hB =>
      intro _
      walk_at "vx"
      refine Sh.k_ifD (fun _ => ?_) (fun h => ?_)
      · walk_at "vx"
        exact q _ _ (mx _).1 (mx _).2 Sh.But.upd (dr _ _ _ hp (Int.ediv_nonneg hr0 (by omega)))
      · walk_at "vx"
        exact q _ _ (mx _).1 (mx _).2 Sh.But.upd (dr _ _ _ hp hr0)
theorem sc_l_letters : FnScope [] [] (defScope s_l_letters) := ⟨rfl, rfl, rfl, by decide +kernel, rfl, by decide +kernel, by decide +kernel⟩
theorem ok_l_letters {f : Addr} {fd : FuncData} (F : Fun K "_law_letters" "_law_letters" s_l_letters f fd) (T : Txt K mg C_RangeError C_TooLarge) : FnOk P w K mg base CX0 1 f fd [] (Sh.spLetters) := by
  refine F.ok sc_l_letters (fun vs H Q E h => ?_) (fun cdv A outer s H vs Q E hr h => ?_)
  · obtain ⟨rfl, q⟩ := h
    rfl
  · obtain ⟨rfl, q⟩ := h
    refine ⟨_, (pss_one (ps_ret pe_str)), ?_⟩
    walk_at "vx"
    refine cast (congrArg (fun z => Q (V.str z) H) (Sh.S_of _).symm) (q _ ?_ ?_)
    · decide +kernel
    · decide +kernel
end
def spLe : Sp := fun vs H Q _ => ∃ t x : List Nat, vs = [.str (Sh.S t), .str (Sh.S x)] ∧ t.length ≤ 100 ∧ x.length ≤ 200 ∧ ∀ (R : Addr) (H' : Hp), H R = none → Same H H' → H' R = some (.tup ((En t x).map Sh.nV)) → Q (.ref R) H'
section
variable {P : Program} {w : World} {K : PySem.W.Frag} {mg : Str → Option Value} {base : Heap} {C_RangeError C_TooLarge : Addr} {cC cT : Addr}
theorem sc_l_ends : FnScope ["text", "word", "p"] ["text", "word"] (defScope s_l_ends) := ⟨rfl, rfl, rfl, by decide +kernel, rfl, by decide +kernel, by decide +kernel⟩
theorem ok_l_ends {f : Addr} {fd : FuncData} (F : Fun K "_law_ends" "_law_ends" s_l_ends f fd) (T : Txt K mg C_RangeError C_TooLarge) : FnOk P w K mg base CX0 1 f fd ["text", "word"] (spLe) := by
  refine F.ok sc_l_ends (fun vs H Q E h => ?_) (fun cdv A outer s H vs Q E hr h => ?_)
  · obtain ⟨t, x, rfl, htl, hwl, q⟩ := h
    rfl
  · obtain ⟨t, x, rfl, htl, hwl, q⟩ := h
    refine ⟨_, (pss_one (ps_ret (pe_callTy Sh.call_tupQ (by rfl) T.b_tuple (by decide +kernel) (pa_cons (pe_lc rfl sc_l_ends.nd (pi_range1 (by rfl) T.b_range (pa_cons (pe_op op_add (pe_op op_sub (pe_callB Sh.call_lenS (by rfl) T.b_len PySem.boot_len (pa_cons (pv 0) pa_nil)) (pe_callB Sh.call_lenS (by rfl) T.b_len PySem.boot_len (pa_cons (pv 1) pa_nil))) pe_int) pa_nil)) (blkOk_by (own := [("p", 2)]) (N := ["text", "word", "p"]) (sc := defScope s_l_ends) (by decide +kernel)) (fun _ _ _ _ _ => (pg_name (i := 2) sc_l_ends.nd rfl (Or.inl rfl))) (fun _ _ _ _ _ => (pts_one (pt_cmpR op_eq (pe_slice sl_str (pv 0) (po_some (pv 2)) (po_some (pe_op op_add (pv 2) (pe_callB Sh.call_lenS (by rfl) T.b_len PySem.boot_len (pa_cons (pv 1) pa_nil))))) (pv 1) (nomark _)))) (fun _ _ _ _ _ => (pe_op op_add (pv 2) (pe_callB Sh.call_lenS (by rfl) T.b_len PySem.boot_len (pa_cons (pv 1) pa_nil))))) pa_nil)))), ?_⟩
    walk_at "vx"
    refine Sh.v_lenS (Sh.sz_of (by omega)) ?_
    walk_at "vx"
    refine Sh.v_lenS (Sh.sz_of (by omega)) ?_
    walk_at "vx"
    rw [show ((t.length : Int) - (x.length : Int) + 1).toNat = t.length + 1 - x.length by omega]
    refine Sh.lc_R (fun p => decide ((t.drop p).take x.length = x)) (fun p => Sh.nV (p + x.length)) (Sh.sz_of (by omega)) (fun p H' hp _ Qb kQ => ?_) (fun p H' hp _ sm Qv kQ => ?_) (fun A hA => ?_)
    · rw [Int.zero_add]
      walk_at "vx"
      refine Sh.v_lenS (Sh.sz_of (by omega)) ?_
      walk_at "vx"
      refine Sh.v_slS (Sh.sz_of (by omega)) ?_
      rw [Sh.cutL_mid _ (by omega) (by omega), show ((p : Int) + (x.length : Int)).toNat - (p : Int).toNat = x.length by omega, Int.toNat_natCast]
      walk_at "vx"
      exact kQ
    · rw [Int.zero_add]
      walk_at "vx"
      refine Sh.v_lenS (Sh.sz_of (by omega)) ?_
      walk_at "vx"
      exact kQ
    have eA : ((List.range (t.length + 1 - x.length)).filter fun p => decide ((t.drop p).take x.length = x)).map (fun p => Sh.nV (p + x.length)) = (En t x).map Sh.nV := by rw [en_list, List.map_map]; rfl
    rw [eA]
    walk_at "vx"
    refine Sh.v_tupL (SqL.of upd_same) (fun R hR => ?_)
    have sA := Sh.same_upd (o := .lst ((En t x).map Sh.nV)) hA
    have hRn : H R = none := by
      cases e : H R with
      | none => rfl
      | some o => rw [sA _ _ e] at hR; cases hR
    exact q R _ hRn (sA.trans (Sh.same_upd hR)) upd_same
end
/-- a state as it lies in a heap -/
def StH (H : Hp) (s : AS) : Prop := H s.a = some (.tup [.str (Sh.S s.word), .int s.link, .ref s.v]) ∧ H s.v = some (.tup (s.ws.map Sh.rE)) ∧ Sh.LE Sh.eSI H s.ws
def StIs (t : List Nat) (ws : List (List Nat)) (L w : List Nat) (s : AS) : Prop := s.word = w ∧ LinkIs t ws w s.link ∧ s.ws.map (·.2) = waysA t ws L w
/-- the number of a class, by its ends -/
def NumIs (t : List Nat) (ws : List (List Nat)) (ks : List (List Nat × Nat)) : Prop := ∀ x, En t x ≠ [] → getM ks (En t x) = some (ixA t ws x)
def spSto : Sp := fun vs H Q _ => ∃ (D B Lt : Addr) (t w L : List Nat) (ms : List (List Nat × Addr)) (ws : List (List Nat)) (ks : List (List Nat × Nat)), vs = [.str (Sh.S w), .ref D, .ref B, .ref Lt] ∧ EnH H D t ms ∧ H B = some (.dT (kvT Sh.nV ks)) ∧ NumIs t ws ks ∧
  H Lt = some (.lst (L.map fun c => V.str (Sh.S [c]))) ∧ L.length ≤ 100 ∧ Lg t w ∧ t.length ≤ 60 ∧
  ∀ (s : AS) (H' : Hp), Same H H' → H s.a = none → StH H' s → StIs t ws L w s → Q (.ref s.a) H'
section
variable {P : Program} {w : World} {K : PySem.W.Frag} {mg : Str → Option Value} {base : Heap} {C_RangeError C_TooLarge : Addr} {cC cT : Addr}
theorem sc_state_of : FnScope ["word", "ends", "state_by_ends", "letters", "link", "ways", "letter"] ["word", "ends", "state_by_ends", "letters"] (defScope s_state_of) := ⟨rfl, rfl, rfl, by decide +kernel, rfl, by decide +kernel, by decide +kernel⟩
theorem ok_state_of {f : Addr} {fd : FuncData} (F : Fun K "state_of" "state_of" s_state_of f fd) (T : Txt K mg C_RangeError C_TooLarge) (c_longest_unlike : Sh.C1 P w K mg base 1 "longest_unlike" (spLun)) : FnOk P w K mg base CX0 2 f fd ["word", "ends", "state_by_ends", "letters"] (spSto) := by
  refine F.ok sc_state_of (fun vs H Q E h => ?_) (fun cdv A outer s H vs Q E hr h => ?_)
  · obtain ⟨D, B, Lt, t, wd, L, ms, ws, ks, rfl, hE, hB, hN, hLt, hLl, hw, htl, q⟩ := h
    rfl
  · obtain ⟨D, B, Lt, t, wd, L, ms, ws, ks, rfl, hE, hB, hN, hLt, hLl, hw, htl, q⟩ := h
    refine ⟨_, (C8.pss_cut (ps_set (i := 4) sc_state_of.nd rfl (Or.inl rfl) (pe_ifExp (pt_cmpR op_eq (pv 0) pe_str (nomark _)) (pe_un un_neg pe_int) (pe_dget (Sh.hu1 hr) (pv 2) (pe_dget (Sh.hu1 hr) (pv 1) (Sh.pe_c c_longest_unlike hr (by decide) (by rfl) (pa_cons (pv 1) (pa_cons (pv 0) pa_nil))) (fun _ _ => rfl)) (fun _ _ => rfl)))) (pss_cons (ps_setLc (i := 5) rfl sc_state_of.nd rfl rfl (sw_true rfl rfl rfl (by decide +kernel)) (pi_list (pv 3)) (blkOk_by (own := [("letter", 6)]) (N := ["word", "ends", "state_by_ends", "letters", "link", "ways", "letter"]) (sc := defScope s_state_of) (by decide +kernel)) (fun _ _ _ _ _ => (pg_name (i := 6) sc_state_of.nd rfl (Or.inl rfl))) (fun _ _ _ _ _ => (pts_one (pt_cmp (pc_din (Sh.hu1 hr) (pe_op Sh.op_addS (pv 0) (pv 6)) (pv 1))))) (fun _ _ _ _ _ => (pe_tup (pa_cons (pv 6) (pa_cons (pe_dget (Sh.hu1 hr) (pv 2) (pe_dget (Sh.hu1 hr) (pv 1) (pe_op Sh.op_addS (pv 0) (pv 6)) (fun _ _ => rfl)) (fun _ _ => rfl)) pa_nil))))) (pss_one (ps_ret (pe_tup (pa_cons (pv 0) (pa_cons (pv 4) (pa_cons (pe_callTy Sh.call_tupQ (by rfl) T.b_tuple (by decide +kernel) (pa_cons (pv 5) pa_nil)) pa_nil)))))))), ?_⟩
    have hwl := en_len hw.1
    walk_at "vx"
    refine Sh.v_cut (fun σ' H' => ∃ l : Int, σ' = [some (.str (Sh.S wd)), some (.ref D), some (.ref B), some (.ref Lt), some (.int l), none, none] ∧ Same H H' ∧ LinkIs t ws wd l) ?_ ?_
    · walk_at "vx"
      rw [show (Str.ofString "") = Sh.S [] from Sh.c_nil]
      refine Sh.v_eqS ?_
      walk_at "vx"
      refine Sh.k_ifD (fun e => ?_) (fun e => ?_)
      · walk_at "vx"
        exact ⟨-1, rfl, Same.refl _, .inl ⟨e, rfl⟩⟩
      · walk_at "vx"
        refine Sh.v_dget ?_
        walk_at "vx"
        refine Sh.v_dget ?_
        walk_at "vx"
        refine ⟨D, t, wd, ms, rfl, hE, by omega, hw.1, e, by omega, fun k H1 k1 k2 k3 k4 s1 => ?_⟩
        walk_at "vx"
        obtain ⟨a1, d1, g1⟩ := (hE.same s1).get (lk_ne (k := k) hw.1)
        refine ⟨D, _, rfl, d1, ?_⟩
        walk_at "vx"
        refine ⟨B, _, rfl, by have := getT (s1 _ _ hB) g1; rw [hN _ (lk_ne hw.1)] at this; exact this, ?_⟩
        walk_at "vx"
        exact ⟨_, rfl, s1, .inr ⟨e, k, ⟨k1, k2, k3, k4⟩, rfl⟩⟩
    rintro σ' H1 ⟨l, rfl, s1, hlk⟩
    have hE1 := hE.same s1
    have hB1 := s1 _ _ hB
    have hLt1 := s1 _ _ hLt
    walk_at "vx"
    refine Sh.v_kL (SqL.of hLt1) (Sh.lc_walkE (Gd := fun H => SqL K H Lt (L.map fun c => V.str (Sh.S [c]))) Sh.eSI (fun c : Nat => V.str (Sh.S [c])) (fun c : Nat => [some (.str (Sh.S wd)), some (.ref D), some (.ref B), some (.ref Lt), some (.int l), none, some (.str (Sh.S [c]))]) Sh.walk_L (fun H' s => SqL.of (s _ _ hLt1)) (fun c => decide (En t (wd ++ [c]) ≠ [])) (fun c => ([c], (ixA t ws (wd ++ [c]) : Int))) (Sh.sz_of (by omega)) (fun c H2 hc s2 Pq k => ?_) (fun c => rfl) (fun c H2 _ s2 Qb k => ?_) (fun c H2 hc hp s2 Qv k => ?_) (fun R as H2 hR s2 gR hA e => ?_))
    · walk_at "vx"
      exact k
    · walk_at "vx"
      refine Sh.v_din ?_
      walk_at "vx"
      refine Sh.v_addS (by show wd.length + 1 ≤ _; exact Sh.sz_of (by omega)) ?_
      walk_at "vx"
      refine ⟨D, _, rfl, DGet.k (k := Sum.inr (Sh.S (wd ++ [c]))) (s2 _ _ hE1.1), ?_⟩
      rw [show valV _ (Sum.inr (Sh.S (wd ++ [c]))) = _ from DX_kvM ms (wd ++ [c])]
      have hb : ((getM ms (wd ++ [c])).map V.ref).isSome = decide (En t (wd ++ [c]) ≠ []) := by
        by_cases h : En t (wd ++ [c]) = []
        · rw [getM_none (fun h2 => (hE1.2.2.1 _).mp h2 h), decide_eq_false (fun h2 => h2 h)]; rfl
        · obtain ⟨a, h2, _⟩ := getM_some ((hE1.2.2.1 _).mpr h)
          rw [h2, decide_eq_true h]; rfl
      rw [hb]
      walk_at "vx"
      exact k _ (Same.refl _)
    · have hp := of_decide_eq_true hp
      obtain ⟨a1, d1, g1⟩ := (hE1.same s2).get hp
      walk_at "vx"
      refine Sh.v_dget ?_
      walk_at "vx"
      refine Sh.v_dget ?_
      walk_at "vx"
      refine Sh.v_addS (by show wd.length + 1 ≤ _; exact Sh.sz_of (by omega)) ?_
      walk_at "vx"
      refine ⟨D, _, rfl, d1, ?_⟩
      walk_at "vx"
      refine ⟨B, _, rfl, by have := getT (s2 _ _ hB1) g1; rw [hN _ hp] at this; exact this, ?_⟩
      walk_at "vx"
      exact ⟨of_decide_eq_true rfl, fun T hT => k T _ (Sh.same_upd hT) upd_same⟩
    walk_at "vx"
    refine Sh.v_tupL (SqL.of gR) (fun V0 hV => ?_)
    walk_at "vx"
    refine ⟨of_decide_eq_true rfl, fun T hT => ?_⟩
    walk_at "vx"
    have sV := Sh.same_upd (o := .tup (as.map Sh.rE)) hV
    have sT := Sh.same_upd (o := .tup [.str (Sh.S wd), .int l, .ref V0]) hT
    have hTH : H T = none := by
      cases e : H T with
      | none => rfl
      | some o => rw [sV _ _ (s2 _ _ (s1 _ _ e))] at hT; cases hT
    exact q ⟨T, V0, as, wd, l⟩ _ (((s1.trans s2).trans sV).trans sT) hTH ⟨upd_same, sT _ _ upd_same, (hA.same sV).same sT⟩ ⟨rfl, hlk, e⟩
end
def l_menu : List Str := ["ab", "abc", "ba", "zy0", "+A", "abcd"]
theorem l_menu_ok : ∀ k : Nat, k < 6 → ∃ l : List Nat, (l_menu.map V.str)[k]? = some (.str (Sh.S l)) ∧ l ≠ [] ∧ l.length ≤ 6 ∧ Sh.Lt l := by
  have h : ∀ z ∈ l_menu, z.cps.toList ≠ [] ∧ z.cps.toList.length ≤ 6 ∧ ∀ c ∈ z.cps.toList, 33 ≤ c ∧ c ≤ 126 ∧ c ≠ 37 := by decide +kernel
  intro k hk
  have hl : k < l_menu.length := hk
  have hm := h _ (List.getElem_mem hl)
  refine ⟨l_menu[k].cps.toList, ?_, hm⟩
  rw [← Sh.S_of, List.getElem?_map, List.getElem?_eq_getElem hl]
  rfl
section
variable {P : Program} {w : World} {K : PySem.W.Frag} {mg : Str → Option Value} {base : Heap} {C_RangeError C_TooLarge : Addr} {cC cT : Addr}
theorem sc_l_signs : FnScope ["d", "menu", "signs", "at"] ["d"] (defScope s_l_signs) := ⟨rfl, rfl, rfl, by decide +kernel, rfl, by decide +kernel, by decide +kernel⟩
theorem ok_l_signs {f : Addr} {fd : FuncData} (F : Fun K "_law_signs" "_law_signs" s_l_signs f fd) (T : Txt K mg C_RangeError C_TooLarge) (c_l_take : Sh.C1 P w K mg base 1 "_law_take" (Sh.spTake)) (c_l_letters : Sh.C1 P w K mg base 1 "_law_letters" (Sh.spLetters)) : FnOk P w K mg base CX0 2 f fd ["d"] (Sh.spSigns) := by
  refine F.ok sc_l_signs (fun vs H Q E h => ?_) (fun cdv A outer s H vs Q E hr h => ?_)
  · obtain ⟨a, l, rfl, hD, q⟩ := h
    rfl
  · obtain ⟨a, l, rfl, hD, q⟩ := h
    refine ⟨_, (pss_cons (ps_set (i := 1) sc_l_signs.nd rfl (Or.inl rfl) (pe_tup (pa_cons pe_str (pa_cons pe_str (pa_cons pe_str (pa_cons pe_str (pa_cons pe_str (pa_cons pe_str pa_nil)))))))) (pss_cons (ps_set (i := 2) sc_l_signs.nd rfl (Or.inl rfl) (pe_ix ix_tup (pv 1) (Sh.pe_c c_l_take hr (by decide) (by rfl) (pa_cons (pv 0) (pa_cons pe_int pa_nil))) (fun _ _ => rfl))) (pss_cons (ps_if (pt_cmpR op_eq (Sh.pe_c c_l_take hr (by decide) (by rfl) (pa_cons (pv 0) (pa_cons pe_int pa_nil))) pe_int (nomark _)) (pss_cons (ps_set (i := 3) sc_l_signs.nd rfl (Or.inl rfl) (Sh.pe_c c_l_take hr (by decide) (by rfl) (pa_cons (pv 0) (pa_cons pe_int pa_nil)))) (pss_one (ps_set (i := 2) sc_l_signs.nd rfl (Or.inl rfl) (pe_slice sl_str (Sh.pe_c0 c_l_letters hr (by decide) (by rfl)) (po_some (pv 3)) (po_some (pe_op op_add (pe_op op_add (pv 3) pe_int) (Sh.pe_c c_l_take hr (by decide) (by rfl) (pa_cons (pv 0) (pa_cons pe_int pa_nil))))))))) pss_nil) (pss_one (ps_ret (pv 2)))))), ?_⟩
    walk_at "vx"
    refine ⟨of_decide_eq_true rfl, fun p hp => ?_⟩
    have hpa : p ≠ a := (hD.ne hp).1
    have d1 : Sh.Dr (upd H p (.tup (l_menu.map V.str))) a l := hD.same (Sh.same_upd hp)
    walk_at "vx"
    refine ⟨a, l, 6, rfl, d1, by decide, by decide, fun n H2 n0 n1 b2 d2 => ?_⟩
    obtain ⟨g, e1, hne, hlen, hlt⟩ := l_menu_ok n.toNat (by omega)
    refine Sh.v_ixT (SqT.of (b2 p _ hpa upd_same)) e1 (Int.toNat_of_nonneg n0).symm ?_
    walk_at "vx"
    have bb : Sh.But a H H2 := (Sh.But.new hp).trans b2
    refine ⟨a, l, 4, rfl, d2, by decide, by decide, fun n H3 n0 n1 b3 d3 => ?_⟩
    walk_at "vx"
    refine Sh.k_ifD (fun _ => ?_) (fun _ => ?_)
    · walk_at "vx"
      refine ⟨a, l, 80, rfl, d3, by decide, by decide, fun n H4 n0 n1 b4 d4 => ?_⟩
      walk_at "vx"
      refine ⟨rfl, fun g hl89 hlt => ?_⟩
      walk_at "vx"
      refine ⟨a, l, 5, rfl, d4, by decide, by decide, fun m H5 m0 m1 b5 d5 => ?_⟩
      walk_at "vx"
      refine Sh.v_slS (by rw [hl89]; exact of_decide_eq_true rfl) ?_
      rw [Sh.cutL_mid _ n0 (by omega)]
      walk_at "vx"
      have e : ((g.drop n.toNat).take ((n + 1 + m).toNat - n.toNat)).length = (1 + m).toNat := by
        rw [List.length_take, List.length_drop]
        omega
      refine q _ H5 (fun e0 => ?_) (by omega) (fun c hc => hlt c (List.mem_of_mem_drop (List.mem_of_mem_take hc))) (((bb.trans b3).trans b4).trans b5) d5
      rw [e0] at e
      simp at e
      omega
    · walk_at "vx"
      exact q _ H3 hne hlen hlt (bb.trans b3) d3
end
theorem c_none : (Str.ofString "") = Sh.S [] := by decide +kernel
section
variable {P : Program} {w : World} {K : PySem.W.Frag} {mg : Str → Option Value} {base : Heap} {C_RangeError C_TooLarge : Addr} {cC cT : Addr}
theorem sc_l_text : FnScope ["d", "signs", "size", "k"] ["d", "signs", "size"] (defScope s_l_text) := ⟨rfl, rfl, rfl, by decide +kernel, rfl, by decide +kernel, by decide +kernel⟩
theorem ok_l_text {f : Addr} {fd : FuncData} (F : Fun K "_law_text" "_law_text" s_l_text f fd) (T : Txt K mg C_RangeError C_TooLarge) (c_l_take : Sh.C1 P w K mg base 1 "_law_take" (Sh.spTake)) : FnOk P w K mg base CX0 2 f fd ["d", "signs", "size"] (Sh.spText) := by
  refine F.ok sc_l_text (fun vs H Q E h => ?_) (fun cdv A outer s H vs Q E hr h => ?_)
  · obtain ⟨a, l, z, n, rfl, hD, hz, hz2, hn1, hn2, q⟩ := h
    rfl
  · obtain ⟨a, l, z, n, rfl, hD, hz, hz2, hn1, hn2, q⟩ := h
    refine ⟨_, (pss_one (ps_ret (pe_m1 PySem.F.slot_str_join PySem.F.type_str_join Sh.mt_joinX pe_str (pe_lc rfl sc_l_text.nd (pi_range1 (by rfl) T.b_range (pa_cons (pv 2) pa_nil)) (blkOk_by (own := [("k", 3)]) (N := ["d", "signs", "size", "k"]) (sc := defScope s_l_text) (by decide +kernel)) (fun _ _ _ _ _ => (pg_name (i := 3) sc_l_text.nd rfl (Or.inl rfl))) (fun _ _ _ _ _ => pts_nil) (fun _ _ _ _ _ => (pe_ix ix_str (pv 1) (Sh.pe_c c_l_take hr (by decide) (by rfl) (pa_cons (pv 0) (pa_cons (pe_callB Sh.call_lenS (by rfl) T.b_len PySem.boot_len (pa_cons (pv 1) pa_nil)) pa_nil))) (fun _ _ => rfl))))))), ?_⟩
    walk_at "vx"
    refine ⟨⟨_, rfl⟩, ?_⟩
    walk_at "vx"
    intro L hL
    obtain ⟨hLa, hLl⟩ := hD.ne hL
    refine lc_range (fun i H' => Sh.But a H H' ∧ Sh.Dr H' a l ∧ ∃ t : List Nat, t.length = i ∧ (∀ c ∈ t, c ∈ z) ∧ H' L = some (.lst (t.map fun c => V.str (Sh.S [c])))) ⟨Sh.But.new hL, hD.same (Sh.same_upd hL), [], rfl, by simp, upd_same⟩ ?_ ?_
    · rintro i H' hi ⟨b1, d1, t, ht, hm, hH⟩
      refine ⟨rfl, ?_⟩
      walk_at "vx"
      rw [if_pos rfl]
      walk_at "vx"
      refine Sh.v_lenS (Sh.sz_of (by omega)) ?_
      walk_at "vx"
      have hzp : 0 < z.length := List.length_pos_iff.mpr hz
      refine ⟨a, l, z.length, rfl, d1, by omega, by omega, fun k H2 k0 k1 b2 d2 => ?_⟩
      have hk : k.toNat < z.length := by omega
      refine Sh.v_ixS (Sh.sz_of (by omega)) (List.getElem?_eq_getElem hk) (Int.toNat_of_nonneg k0).symm ?_
      have hH2 := b2 L _ hLa hH
      refine ⟨_, hH2, Sh.sz_lt (by rw [List.length_map]; omega), (b1.trans b2).mut hL, d2.upd hLa hLl, t ++ [z[k.toNat]], by simp [ht], ?_, ?_⟩
      · intro c hc
        rcases List.mem_append.mp hc with h | h
        · exact hm c h
        · rw [List.mem_singleton.mp h]; exact List.getElem_mem hk
      · rw [upd_same, List.map_append]
        rfl
    · rintro H' ⟨b1, d1, t, ht, hm, hH⟩
      rw [show (Str.ofString "") = Sh.S [] from c_none]
      refine Sh.v_join (ys := t.map fun c => [c]) (SqL.of (by rw [List.map_map]; exact hH)) (by rw [Sh.ones_sum]; omega) ?_
      rw [Sh.ones_flat]
      exact q t H' ht hm b1 d1
end
abbrev Gp := List Nat × Addr × List (List Nat)
def gV (z : Addr × List (List Nat)) : V := .ref z.1
/-- the words by their ends, while they are collected -/
def GrD (H0 H : Hp) (D : Addr) (t : List Nat) (gs : List Gp) (ds : List (List Nat)) : Prop := H D = some (.dT (kvT gV gs)) ∧ (gs.map (·.1)).Nodup ∧ (gs.map (·.2.1)).Nodup ∧
  (∀ g, g ∈ gs → H g.2.1 = some (.lst (g.2.2.map Sh.tV)) ∧ H0 g.2.1 = none ∧ g.2.2.length ≤ ds.length ∧ ∀ x, x ∈ g.2.2 ↔ x ∈ ds ∧ En t x = g.1) ∧ (∀ x, x ∈ ds → En t x ∈ gs.map (·.1)) ∧ gs.length ≤ ds.length + 1
theorem GrD.new {H0 H : Hp} {D L : Addr} {t e : List Nat} {gs : List Gp} {ds : List (List Nat)} (h : GrD H0 H D t gs ds) (hL : H L = none) (hL0 : H0 L = none) (he : e ∉ gs.map (·.1)) (hl : gs.length ≤ ds.length) :
    GrD H0 (upd (upd H L (.lst [])) D (.dT (putK (kvT gV gs) (KeyT (Sh.nI e)) (.ref L)))) D t (gs ++ [(e, L, [])]) ds := by
  obtain ⟨hD, n1, n2, hg, hd, _⟩ := h
  have hDL : D ≠ L := L2.ne_of_none hD hL
  have hput : putM gs e (L, []) = gs ++ [(e, L, [])] := by unfold putM; rw [if_neg he]
  refine ⟨by rw [upd_same]; exact congrArg (fun z => some (HO.dT z)) ((putK_kvT (enc := gV) gs e (L, [])).trans (by rw [hput])), ?_, ?_, fun g hm => ?_, fun x hx => ?_, by rw [List.length_append]; show gs.length + 1 ≤ _; omega⟩
  · have := putM_nd (x := e) (v := (L, ([] : List (List Nat)))) n1
    rwa [hput] at this
  · rw [List.map_append, List.nodup_append]
    refine ⟨n2, by simp, fun a ha b hb e1 => ?_⟩
    rw [List.map_cons, List.map_nil, List.mem_singleton] at hb
    obtain ⟨m, hm, rfl⟩ := List.mem_map.mp ha
    have := (hg _ hm).1
    rw [e1, hb, hL] at this
    cases this
  · rcases List.mem_append.mp hm with hm | hm
    · obtain ⟨h1, h2⟩ := hg g hm
      exact ⟨by rw [upd_ne (fun e1 => by rw [e1, hD] at h1; cases h1), upd_ne (L2.ne_of_none h1 hL)]; exact h1, h2⟩
    · rw [List.mem_singleton.mp hm]
      refine ⟨by show upd _ D _ L = _; rw [upd_ne (Ne.symm hDL), upd_same]; rfl, hL0, Nat.zero_le _, fun x => ⟨(fun z => nomatch z), fun ⟨z1, z2⟩ => ?_⟩⟩
      exact absurd (by rw [← show En t x = e from z2]; exact hd x z1) he
  · rw [List.map_append]
    exact List.mem_append_left _ (hd x hx)
theorem GrD.more {H0 H : Hp} {D : Addr} {t e x : List Nat} {gs : List Gp} {ds : List (List Nat)} {a : Addr} {ts : List (List Nat)} (h : GrD H0 H D t gs ds) (hm : (e, a, ts) ∈ gs) (hx : En t x = e) (ht : x ∈ ts) : GrD H0 H D t gs (ds ++ [x]) := by
  obtain ⟨hD, n1, n2, hg, hd, hl⟩ := h
  have hxd := ((hg _ hm).2.2.2 x).mp ht
  refine ⟨hD, n1, n2, fun g hm2 => ?_, fun y hy => ?_, by rw [List.length_append]; omega⟩
  · obtain ⟨h1, h2, h3, h4⟩ := hg g hm2
    refine ⟨h1, h2, by rw [List.length_append]; omega, fun y => ?_⟩
    rw [h4, List.mem_append, List.mem_singleton]
    exact ⟨fun ⟨z1, z2⟩ => ⟨.inl z1, z2⟩, fun ⟨z1, z2⟩ => ⟨z1.elim id fun z => z ▸ hxd.1, z2⟩⟩
  · rcases List.mem_append.mp hy with hy | hy
    · exact hd y hy
    · rw [List.mem_singleton.mp hy]; exact hd x hxd.1
theorem GrD.app {H0 H : Hp} {D : Addr} {t e x : List Nat} {gs : List Gp} {ds : List (List Nat)} {a : Addr} {ts : List (List Nat)} (h : GrD H0 H D t gs ds) (hm : (e, a, ts) ∈ gs) (hx : En t x = e) :
    GrD H0 (upd H a (.lst ((ts ++ [x]).map Sh.tV))) D t (putM gs e (a, ts ++ [x])) (ds ++ [x]) := by
  obtain ⟨hD, n1, n2, hg, hd, hl⟩ := h
  have ha := (hg _ hm).1
  have hem : e ∈ gs.map (·.1) := List.mem_map_of_mem hm
  have hput : putM gs e (a, ts ++ [x]) = gs.map fun g => if g.1 = e then (g.1, a, ts ++ [x]) else g := by unfold putM; rw [if_pos hem]
  have huni : ∀ g, g ∈ gs → g.1 = e → g = (e, a, ts) := fun g hg1 e1 => by
    have g1 := getM_mem n1 hg1
    have g2 := getM_mem n1 hm
    rw [e1] at g1
    exact Prod.ext e1 (Option.some.inj (g1.symm.trans g2))
  have hadr : ∀ g, g ∈ gs → g.1 ≠ e → g.2.1 ≠ a := fun g hg1 hne e3 => by
    obtain ⟨j, hj, ej⟩ := List.mem_iff_getElem.mp hg1
    obtain ⟨k, hk2, ek⟩ := List.mem_iff_getElem.mp hm
    have hne2 := List.pairwise_iff_getElem.mp n2
    rcases Nat.lt_trichotomy j k with q | q | q
    · exact absurd (by rw [List.getElem_map, List.getElem_map, ej, ek]; exact e3) (hne2 j k (by rw [List.length_map]; exact hj) (by rw [List.length_map]; exact hk2) q)
    · subst q; rw [ej] at ek; rw [ek] at hne; exact hne rfl
    · exact absurd (by rw [List.getElem_map, List.getElem_map, ej, ek]; exact e3.symm) (hne2 k j (by rw [List.length_map]; exact hk2) (by rw [List.length_map]; exact hj) q)
  refine ⟨?_, putM_nd n1, ?_, fun g hm2 => ?_, fun y hy => ?_, by rw [hput, List.length_map, List.length_append]; omega⟩
  · rw [upd_ne (fun e1 => by rw [e1, ha] at hD; cases hD), hD, hput]
    unfold kvT
    rw [List.map_map]
    refine congrArg (fun z => some (HO.dT z)) (List.map_congr_left fun g hg1 => ?_)
    show _ = (KeyT (Sh.nI (if g.1 = e then (g.1, a, ts ++ [x]) else g).1), gV (if g.1 = e then (g.1, a, ts ++ [x]) else g).2)
    by_cases e1 : g.1 = e
    · rw [if_pos e1, huni g hg1 e1]; rfl
    · rw [if_neg e1]
  · have : (putM gs e (a, ts ++ [x])).map (·.2.1) = gs.map (·.2.1) := by
      rw [hput, List.map_map]
      refine List.map_congr_left fun g hg1 => ?_
      show (if g.1 = e then (g.1, a, ts ++ [x]) else g).2.1 = g.2.1
      by_cases e1 : g.1 = e
      · rw [if_pos e1, huni g hg1 e1]
      · rw [if_neg e1]
    rw [this]; exact n2
  · rw [hput] at hm2
    obtain ⟨g0, hg0, rfl⟩ := List.mem_map.mp hm2
    by_cases e1 : g0.1 = e
    · rw [if_pos e1]
      obtain ⟨h1, h2, h3, h4⟩ := hg _ hm
      refine ⟨upd_same, h2, ?_, fun y => ?_⟩
      · rw [List.length_append, List.length_append]
        exact Nat.add_le_add_right h3 _
      · show y ∈ ts ++ [x] ↔ _ ∧ En t y = g0.1
        rw [List.mem_append, List.mem_append, List.mem_singleton, e1]
        have h5 := h4 y
        constructor
        · rintro (z | z)
          · exact ⟨.inl (h5.mp z).1, (h5.mp z).2⟩
          · exact ⟨.inr z, by rw [z]; exact hx⟩
        · rintro ⟨z | z, z2⟩
          · exact .inl (h5.mpr ⟨z, z2⟩)
          · exact .inr z
    · rw [if_neg e1]
      obtain ⟨h1, h2, h3, h4⟩ := hg g0 hg0
      refine ⟨by rw [upd_ne (hadr g0 hg0 e1)]; exact h1, h2, by rw [List.length_append]; omega, fun y => ?_⟩
      rw [h4, List.mem_append, List.mem_singleton]
      exact ⟨fun ⟨z1, z2⟩ => ⟨.inl z1, z2⟩, fun ⟨z1, z2⟩ => ⟨z1.elim id fun z => absurd (by rw [z] at z2; exact z2.symm.trans hx) e1, z2⟩⟩
  · rw [putM_mem]
    rcases List.mem_append.mp hy with hy | hy
    · exact .inl (hd y hy)
    · rw [List.mem_singleton.mp hy]; exact .inr hx
/-- the words by their ends -/
def GrH (H : Hp) (D : Addr) (t : List Nat) (gs : List Gp) : Prop := H D = some (.dT (kvT gV gs)) ∧ (gs.map (·.1)).Nodup ∧
  (∀ g, g ∈ gs → H g.2.1 = some (.lst (g.2.2.map Sh.tV)) ∧ g.1 ≠ [] ∧ g.2.2.length ≤ 4000 ∧ g.2.2 ≠ [] ∧ ∀ x, x ∈ g.2.2 ↔ En t x = g.1) ∧ (∀ x, En t x ≠ [] → En t x ∈ gs.map (·.1)) ∧ gs.length ≤ 700
def spLg : Sp := fun vs H Q _ => ∃ t : List Nat, vs = [.str (Sh.S t)] ∧ t.length ≤ 20 ∧ ∀ (D : Addr) (H' : Hp) (gs : List Gp), Same H H' → GrH H' D t gs → Q (.ref D) H'
section
variable {P : Program} {w : World} {K : PySem.W.Frag} {mg : Str → Option Value} {base : Heap} {C_RangeError C_TooLarge : Addr} {cC cT : Addr}
theorem sc_l_groups : FnScope ["text", "groups", "p", "q", "ends"] ["text"] (defScope s_l_groups) := ⟨rfl, rfl, rfl, by decide +kernel, rfl, by decide +kernel, by decide +kernel⟩
theorem ok_l_groups {f : Addr} {fd : FuncData} (F : Fun K "_law_groups" "_law_groups" s_l_groups f fd) (T : Txt K mg C_RangeError C_TooLarge) (c_l_ends : Sh.C1 P w K mg base 1 "_law_ends" (spLe)) : FnOk P w K mg base CX0 2 f fd ["text"] (spLg) := by
  refine F.ok sc_l_groups (fun vs H Q E h => ?_) (fun cdv A outer s H vs Q E hr h => ?_)
  · obtain ⟨t, rfl, htl, q⟩ := h
    rfl
  · obtain ⟨t, rfl, htl, q⟩ := h
    refine ⟨_, (pss_cons (ps_set (i := 1) sc_l_groups.nd rfl (Or.inl rfl) pe_dnewT) (pss_cons (ps_for PassesOwn.never rfl (pi_range1 (by rfl) T.b_range (pa_cons (pe_op op_add (pe_callB Sh.call_lenS (by rfl) T.b_len PySem.boot_len (pa_cons (pv 0) pa_nil)) pe_int) pa_nil)) (pg_name (i := 2) sc_l_groups.nd rfl (Or.inl rfl)) (pss_one (ps_for PassesOwn.never rfl (pi_range2 (by rfl) T.b_range (pa_cons (pv 2) (pa_cons (pe_op op_add (pe_callB Sh.call_lenS (by rfl) T.b_len PySem.boot_len (pa_cons (pv 0) pa_nil)) pe_int) pa_nil))) (pg_name (i := 3) sc_l_groups.nd rfl (Or.inl rfl)) (pss_cons (ps_set (i := 4) sc_l_groups.nd rfl (Or.inl rfl) (Sh.pe_c c_l_ends hr (by decide) (by rfl) (pa_cons (pv 0) (pa_cons (pe_slice sl_str (pv 0) (po_some (pv 2)) (po_some (pv 3))) pa_nil)))) (C8.pss_cut (ps_if (pt_cmp (pc_dnotin (Sh.hu1 hr) (pv 4) (pv 1))) (pss_one (ps_asg (pe_lst pa_nil) (pg_sub (pv 1) (pv 4) (set_dict (Sh.hu1 hr))))) pss_nil) (pss_one (ps_if (pt_cmpR op_notIn_seq (pe_slice sl_str (pv 0) (po_some (pv 2)) (po_some (pv 3))) (pe_dget (Sh.hu1 hr) (pv 1) (pv 4) (fun _ _ => rfl)) (by with_unfolding_all rfl)) (pss_one (ps_expr (pe_bm PySem.F.plainAttrs_list PySem.F.slot_list_append PySem.F.type_list_append mt_append (pe_dget (Sh.hu1 hr) (pv 1) (pv 4) (fun _ _ => rfl)) (pa_cons (pe_slice sl_str (pv 0) (po_some (pv 2)) (po_some (pv 3))) pa_nil)))) pss_nil))))))) (pss_one (ps_ret (pv 1))))), ?_⟩
    walk_at "vx"
    intro D hD
    have sD := Sh.same_upd (o := .dT []) hD
    have hDD : upd H D (.dT []) D = some (.dT []) := upd_same
    generalize upd H D (.dT []) = H1 at sD hDD ⊢
    walk_at "vx"
    refine Sh.v_lenS (Sh.sz_of (by omega)) ?_
    walk_at "vx"
    rw [show ((t.length : Int) + 1).toNat = t.length + 1 by omega]
    refine Sh.f_range (fun i σ H' => ∃ (gs : List Gp) (ds : List (List Nat)) (y2 y3 y4 : Option V), σ = [some (.str (Sh.S t)), some (.ref D), y2, y3, y4] ∧ Same H H' ∧ GrD H H' D t gs ds ∧ gs.length ≤ ds.length ∧ (∀ g, g ∈ gs → ∃ x, x ∈ ds ∧ En t x = g.1) ∧ ds.length ≤ i * 30 ∧ ∀ x, x ∈ ds ↔ ∃ p n, p < i ∧ p + n ≤ t.length ∧ x = (t.drop p).take n) ⟨[], [], _, _, _, rfl, sD, ⟨hDD, List.nodup_nil, List.nodup_nil, (fun m hm => nomatch hm), (fun x hx => nomatch hx), Nat.zero_le _⟩, Nat.zero_le _, (fun g hg => nomatch hg), Nat.zero_le _, fun x => ⟨(fun h => nomatch h), fun ⟨p, n, h, _⟩ => absurd h (Nat.not_lt_zero _)⟩⟩ ?_ ?_
    · rintro i σ H2 hi ⟨gs, ds, y2, y3, y4, rfl, s2, gr, hgl, hgx, hdl, hdm⟩
      rw [Int.zero_add]
      walk_at "vx"
      refine Sh.v_lenS (Sh.sz_of (by omega)) ?_
      walk_at "vx"
      rw [show ((t.length : Int) + 1 - (i : Int)).toNat = t.length + 1 - i by omega]
      refine Sh.f_range (fun j σ H' => ∃ (gs : List Gp) (ds : List (List Nat)) (y3 y4 : Option V), σ = [some (.str (Sh.S t)), some (.ref D), some (.int (i : Nat)), y3, y4] ∧ Same H H' ∧ GrD H H' D t gs ds ∧ gs.length ≤ ds.length ∧ (∀ g, g ∈ gs → ∃ x, x ∈ ds ∧ En t x = g.1) ∧ ds.length ≤ i * 30 + j ∧ ∀ x, x ∈ ds ↔ ∃ p n, (p < i ∨ (p = i ∧ n < j)) ∧ p + n ≤ t.length ∧ x = (t.drop p).take n) ⟨gs, ds, _, _, rfl, s2, gr, hgl, hgx, hdl, fun x => ?_⟩ ?_ ?_
      · rw [hdm]
        exact ⟨fun ⟨p, n, h, z⟩ => ⟨p, n, .inl h, z⟩, fun ⟨p, n, h, z⟩ => ⟨p, n, h.elim id fun h => absurd h.2 (Nat.not_lt_zero _), z⟩⟩
      · clear gr hgl hgx hdl hdm s2
        rintro j σ H3 hj ⟨gs, ds, y3, y4, rfl, s3, gr, hgl, hgx, hdl, hdm⟩
        have hi30 : i * 30 ≤ 20 * 30 := Nat.mul_le_mul_right 30 (by omega)
        walk_at "vx"
        refine Sh.v_slS (Sh.sz_of (by omega)) ?_
        rw [Sh.cutL_mid _ (by omega) (by omega), show ((i : Int) + (j : Int)).toNat - (i : Int).toNat = j by omega, Int.toNat_natCast]
        have hxl : ((t.drop i).take j).length = j := by rw [List.length_take, List.length_drop]; omega
        have hxd : ∀ y, y ∈ ds ++ [(t.drop i).take j] ↔ ∃ p n, (p < i ∨ (p = i ∧ n < j + 1)) ∧ p + n ≤ t.length ∧ y = (t.drop p).take n := fun y => by
          rw [List.mem_append, List.mem_singleton, hdm]
          constructor
          · rintro (⟨p, n, h, z⟩ | h)
            · exact ⟨p, n, h.elim .inl fun h => .inr ⟨h.1, by omega⟩, z⟩
            · exact ⟨i, j, .inr ⟨rfl, by omega⟩, by omega, h⟩
          · rintro ⟨p, n, h, z1, z2⟩
            by_cases e : p = i ∧ n = j
            · rw [e.1, e.2] at z2; exact .inr z2
            · exact .inl ⟨p, n, by omega, z1, z2⟩
        generalize hxe : (t.drop i).take j = x at hxl hxd ⊢
        walk_at "vx"
        refine ⟨t, x, rfl, by omega, by omega, fun R H4 hR0 s4 hR => ?_⟩
        have gr4 : GrD H H4 D t gs ds := by
          obtain ⟨g1, g2, g3, g4, g5⟩ := gr
          exact ⟨s4 _ _ g1, g2, g3, fun g hg => ⟨s4 _ _ (g4 g hg).1, (g4 g hg).2⟩, g5⟩
        have s34 := s3.trans s4
        walk_at "vx"
        refine Sh.v_cut (fun σ' H' => ∃ (gs1 : List Gp) (a : Addr) (ts : List (List Nat)), σ' = [some (.str (Sh.S t)), some (.ref D), some (.int (i : Nat)), some (.int ((i : Int) + (j : Int))), some (.ref R)] ∧ Same H H' ∧ H' R = some (.tup ((En t x).map Sh.nV)) ∧ GrD H H' D t gs1 ds ∧ (En t x, a, ts) ∈ gs1 ∧ ∀ g, g ∈ gs1 → g.1 = En t x ∨ ∃ x, x ∈ ds ∧ En t x = g.1) ?_ ?_
        · walk_at "vx"
          refine Sh.v_dnin ?_
          walk_at "vx"
          refine ⟨D, _, rfl, getT gr4.1 hR, ?_⟩
          cases hg : getM gs (En t x) with
          | some u =>
            walk_at "vx"
            exact ⟨gs, u.1, u.2, rfl, s34, hR, gr4, getM_back hg, fun g h => .inr (hgx g h)⟩
          | none =>
            have hne : En t x ∉ gs.map (·.1) := fun h => by
              obtain ⟨v, h1, _⟩ := getM_some h
              rw [hg] at h1; cases h1
            walk_at "vx"
            refine ⟨of_decide_eq_true rfl, fun L hL => ?_⟩
            walk_at "vx"
            have hL0 : H L = none := by
              cases e : H L with
              | none => rfl
              | some o => rw [s34 _ _ e] at hL; cases hL
            have hDL : D ≠ L := L2.ne_of_none gr4.1 hL
            have hRL : R ≠ L := L2.ne_of_none hR hL
            have hRD : R ≠ D := fun e => by rw [e, gr4.1] at hR; cases hR
            refine ⟨D, _, rfl, DPut.t (k := KeyT (Sh.nI (En t x))) (by rw [upd_ne hDL]; exact gr4.1) (by rw [kV_KeyN, upd_ne hRL]; exact hR) (Sh.sz_lt (by rw [kvT_len]; omega)), ?_⟩
            walk_at "vx"
            refine ⟨gs ++ [(En t x, L, [])], L, [], rfl, fun b o e => ?_, by rw [upd_ne hRD, upd_ne hRL]; exact hR, gr4.new hL hL0 hne hgl, List.mem_append_right _ List.mem_cons_self, fun g hg2 => ?_⟩
            · have h1 := s34 _ _ e
              rw [upd_ne (L2.ne_of_none e hD), upd_ne (L2.ne_of_none h1 hL)]
              exact h1
            · rcases List.mem_append.mp hg2 with h | h
              · exact .inr (hgx g h)
              · rw [List.mem_singleton.mp h]; exact .inl rfl
        · rintro σ' H5 ⟨gs1, a, ts, rfl, s5, hR5, gr5, hm5, hgx5⟩
          have hin : ∀ g, g ∈ gs1 → ∃ y, y ∈ ds ++ [x] ∧ En t y = g.1 := fun g hg => by
            rcases hgx5 g hg with h | ⟨y, h1, h2⟩
            · exact ⟨x, List.mem_append_right _ List.mem_cons_self, h.symm⟩
            · exact ⟨y, List.mem_append_left _ h1, h2⟩
          have hl5 : gs1.length ≤ (ds ++ [x]).length := by rw [List.length_append]; exact gr5.2.2.2.2.2
          have ha := (gr5.2.2.2.1 _ hm5)
          have dg : DGet H5 D (.ref R) (some (.ref a)) := by have := getT gr5.1 hR5; rw [getM_mem gr5.2.1 hm5] at this; exact this
          walk_at "vx"
          refine Sh.v_slS (Sh.sz_of (by omega)) ?_
          rw [Sh.cutL_mid _ (by omega) (by omega), show ((i : Int) + (j : Int)).toNat - (i : Int).toNat = j by omega, Int.toNat_natCast, hxe]
          refine Sh.v_dget ?_
          walk_at "vx"
          refine ⟨D, _, rfl, dg, ?_⟩
          refine Sh.v_ninLX (SqL.of ha.1) ?_
          walk_at "vx"
          by_cases hx : x ∈ ts
          · rw [decide_eq_true hx, Bool.not_true]
            refine Sh.k_ifF ?_
            walk_at "vx"
            exact ⟨gs1, ds ++ [x], _, _, rfl, s5, gr5.more hm5 rfl hx, hl5, hin, by rw [List.length_append]; show ds.length + 1 ≤ _; omega, hxd⟩
          · rw [decide_eq_false hx, Bool.not_false]
            refine Sh.k_ifT ?_
            walk_at "vx"
            refine Sh.v_dget ?_
            walk_at "vx"
            refine ⟨D, _, rfl, dg, ?_⟩
            refine ⟨Sh.tyL (SqL.of ha.1), ?_⟩
            walk_at "vx"
            refine Sh.v_slS (Sh.sz_of (by omega)) ?_
            rw [Sh.cutL_mid _ (by omega) (by omega), show ((i : Int) + (j : Int)).toNat - (i : Int).toNat = j by omega, Int.toNat_natCast, hxe]
            walk_at "vx"
            refine Sh.v_append ha.1 (Sh.sz_lt (by rw [List.length_map]; have := ha.2.2.1; have : ts.length ≤ ds.length := this; omega)) ?_
            rw [show ts.map Sh.tV ++ [.str (Sh.S x)] = (ts ++ [x]).map Sh.tV by rw [List.map_append]; rfl]
            walk_at "vx"
            have hem : En t x ∈ gs1.map (·.1) := List.mem_map_of_mem hm5
            have hput : putM gs1 (En t x) (a, ts ++ [x]) = gs1.map fun g => if g.1 = En t x then (g.1, a, ts ++ [x]) else g := by unfold putM; rw [if_pos hem]
            refine ⟨_, ds ++ [x], _, _, rfl, fun b o e => ?_, gr5.app hm5 rfl, by rw [hput, List.length_map]; exact hl5, fun g hg => ?_, by rw [List.length_append]; show ds.length + 1 ≤ _; omega, hxd⟩
            · rw [upd_ne (fun z => by rw [z, ha.2.1] at e; cases e)]
              exact s5 _ _ e
            · rw [hput] at hg
              obtain ⟨g0, hg0, rfl⟩ := List.mem_map.mp hg
              have : (if g0.1 = En t x then (g0.1, a, ts ++ [x]) else g0).1 = g0.1 := by split <;> rfl
              rw [this]; exact hin g0 hg0
      · rintro σ H3 ⟨gs, ds, y3, y4, rfl, s3, gr, hgl, hgx, hdl, hdm⟩
        walk_at "vx"
        refine ⟨gs, ds, _, _, _, rfl, s3, gr, hgl, hgx, by omega, fun x => ?_⟩
        rw [hdm]
        exact ⟨fun ⟨p, n, h, z⟩ => ⟨p, n, by omega, z⟩, fun ⟨p, n, h, z⟩ => ⟨p, n, by omega, z⟩⟩
    · rintro σ H2 ⟨gs, ds, y2, y3, y4, rfl, s2, gr, hgl, hgx, hdl, hdm⟩
      walk_at "vx"
      have h30 : (t.length + 1) * 30 ≤ 21 * 30 := Nat.mul_le_mul_right 30 (by omega)
      have hall : ∀ x, En t x ≠ [] ↔ x ∈ ds := fun x => by
        rw [en_infix, hdm]
        constructor
        · rintro ⟨a, b, h⟩
          have hl := congrArg List.length h
          rw [List.length_append, List.length_append] at hl
          refine ⟨a.length, x.length, by omega, by omega, ?_⟩
          rw [← h, List.append_assoc, List.drop_left, List.take_left]
        · rintro ⟨p, n, _, _, rfl⟩
          exact (List.take_prefix _ _).isInfix.trans (List.drop_suffix _ _).isInfix
      obtain ⟨g1, g2, g3, g4, g5, _⟩ := gr
      refine q D _ gs s2 ⟨g1, g2, fun g hg => ?_, fun x hx => g5 x ((hall x).mp hx), by omega⟩
      obtain ⟨h1, _, h3, h4⟩ := g4 g hg
      obtain ⟨x, hx, e⟩ := hgx g hg
      have hne : g.1 ≠ [] := by rw [← e]; exact (hall x).mpr hx
      refine ⟨h1, hne, by omega, fun z => ?_, fun y => (h4 y).trans ⟨fun h => h.2, fun h => ⟨(hall y).mp (by rw [h]; exact hne), h⟩⟩⟩
      have := (h4 x).mpr ⟨hx, e⟩
      rw [z] at this
      exact nomatch this
end
def spSh : Sp := fun vs H Q _ => ∃ (A : Addr) (ss : List AS) (st : Int), vs = [.ref A, .int st] ∧ AutH H A ss ∧ Sh.Sm st ∧ ss.length ≤ 10000 ∧ (∀ s, s ∈ ss → s.word.length ≤ 10000 ∧ (s.link = -1 ∨ (0 ≤ s.link ∧ s.link < ss.length ∧ ∀ u, ss[s.link.toNat]? = some u → u.word.length < s.word.length))) ∧
  ((st < 0 ∨ (ss.length : Int) ≤ st) → ∀ H', Same H H' → Q .non H') ∧ (∀ s, 0 ≤ st → ss[st.toNat]? = some s → ∀ H', Same H H' → Q (.str (Sh.S (shortA ss s))) H')
section
variable {P : Program} {w : World} {K : PySem.W.Frag} {mg : Str → Option Value} {base : Heap} {C_RangeError C_TooLarge : Addr} {cC cT : Addr}
theorem sc_l_short : FnScope ["automaton", "state", "found"] ["automaton", "state"] (defScope s_l_short) := ⟨rfl, rfl, rfl, by decide +kernel, rfl, by decide +kernel, by decide +kernel⟩
theorem ok_l_short {f : Addr} {fd : FuncData} (F : Fun K "_law_short" "_law_short" s_l_short f fd) (T : Txt K mg C_RangeError C_TooLarge) (c_shortest_of : Sh.C1X P w K mg base 1 "shortest_of" (spSo C_RangeError)) : FnOk P w K mg base CX0 2 f fd ["automaton", "state"] (spSh) := by
  refine F.ok sc_l_short (fun vs H Q E h => ?_) (fun cdv A outer s H vs Q E hr h => ?_)
  · obtain ⟨A, ss, st, rfl, hA, hsm, hsl, hws, qE, q⟩ := h
    rfl
  · obtain ⟨A, ss, st, rfl, hA, hsm, hsl, hws, qE, q⟩ := h
    refine ⟨_, (pss_cons (ps_try_only rfl rfl ⟨rfl, by decide, .inl T.x_RangeError.g⟩ takes0 (fun W pn xe tk po => (pss_one (ps_set (i := 2) sc_l_short.nd rfl (Or.inl rfl) (Sh.pe_cS c_shortest_of hr (by decide) (by rfl) (fun σ => passAt tk σ) (pa_cons (pv 0) (pa_cons (pv 1) pa_nil)))))) (fun ea oe cls dd pn ez ef => (pss_one (ps_ret pe_non)))) (pss_one (ps_ret (pv 2)))), ?_⟩
    walk_at "vx"
    refine ⟨A, ss, st, rfl, hA, hsm, hsl, hws, fun h => ⟨true, T.m_RangeError_RangeError, fun _ ea _ => ?_, fun h => nomatch h⟩, fun s h0 hs => ?_⟩
    · walk_at "vx"
      exact qE h _ (Same.refl _)
    · walk_at "vx"
      exact q s h0 hs _ (Same.refl _)
theorem sc_l_rich : FnScope ["d", "signs", "size", "text", "menu", "at"] ["d", "signs", "size"] (defScope s_l_rich) := ⟨rfl, rfl, rfl, by decide +kernel, rfl, by decide +kernel, by decide +kernel⟩
theorem ok_l_rich {f : Addr} {fd : FuncData} (F : Fun K "_law_rich" "_law_rich" s_l_rich f fd) (T : Txt K mg C_RangeError C_TooLarge) (c_l_text : Sh.C1 P w K mg base 2 "_law_text" (Sh.spText)) (c_l_take : Sh.C1 P w K mg base 1 "_law_take" (Sh.spTake)) : FnOk P w K mg base CX0 3 f fd ["d", "signs", "size"] (Sh.spRich) := by
  refine F.ok sc_l_rich (fun vs H Q E h => ?_) (fun cdv A outer s H vs Q E hr h => ?_)
  · obtain ⟨a, l, z, n, rfl, hD, hz, hz2, hn1, hn2, q⟩ := h
    rfl
  · obtain ⟨a, l, z, n, rfl, hD, hz, hz2, hn1, hn2, q⟩ := h
    refine ⟨_, (pss_cons (ps_set (i := 3) sc_l_rich.nd rfl (Or.inl rfl) (Sh.pe_c c_l_text hr (by decide) (by rfl) (pa_cons (pv 0) (pa_cons (pv 1) (pa_cons (pe_op op_add pe_int (Sh.pe_c c_l_take hr (by decide) (by rfl) (pa_cons (pv 0) (pa_cons pe_int pa_nil)))) pa_nil))))) (pss_cons (ps_while PassesOwn.never (pt_cmpR op_lt (pe_callB Sh.call_lenS (by rfl) T.b_len PySem.boot_len (pa_cons (pv 3) pa_nil)) (pv 2) (nomark _)) (pss_cons (ps_set (i := 4) sc_l_rich.nd rfl (Or.inl rfl) (Sh.pe_c c_l_take hr (by decide) (by rfl) (pa_cons (pv 0) (pa_cons pe_int pa_nil)))) (pss_one (ps_if (pt_cmpR op_eq (pv 4) pe_int (nomark _)) (pss_one (ps_set (i := 3) sc_l_rich.nd rfl (Or.inl rfl) (pe_op Sh.op_addS (pv 3) (pv 3)))) (pss_one (ps_if (pt_cmpR op_eq (pv 4) pe_int (nomark _)) (pss_cons (ps_set (i := 5) sc_l_rich.nd rfl (Or.inl rfl) (Sh.pe_c c_l_take hr (by decide) (by rfl) (pa_cons (pv 0) (pa_cons (pe_callB Sh.call_lenS (by rfl) T.b_len PySem.boot_len (pa_cons (pv 3) pa_nil)) pa_nil)))) (pss_one (ps_set (i := 3) sc_l_rich.nd rfl (Or.inl rfl) (pe_op Sh.op_addS (pv 3) (pe_slice sl_str (pv 3) (po_some (pv 5)) (po_some (pe_op op_add (pv 5) pe_int))))))) (pss_one (ps_set (i := 3) sc_l_rich.nd rfl (Or.inl rfl) (pe_op Sh.op_addS (pv 3) (pe_ix ix_str (pv 1) (Sh.pe_c c_l_take hr (by decide) (by rfl) (pa_cons (pv 0) (pa_cons (pe_callB Sh.call_lenS (by rfl) T.b_len PySem.boot_len (pa_cons (pv 1) pa_nil)) pa_nil))) (fun _ _ => rfl))))))))))) (pss_one (ps_ret (pe_slice sl_str (pv 3) po_none (po_some (pv 2))))))), ?_⟩
    walk_at "vx"
    refine ⟨a, l, 4, rfl, hD, by decide, by decide, fun k H1 k0 k1 b1 d1 => ?_⟩
    walk_at "vx"
    refine ⟨a, l, z, 1 + k, rfl, d1, hz, hz2, by omega, by omega, fun t H2 ht hm b2 d2 => ?_⟩
    walk_at "vx"
    have bb : Sh.But a H H2 := b1.trans b2
    refine Sh.v_while (fun m σ H' => ∃ (t : List Nat) (y w : Option V), m = (n - t.length).toNat ∧ σ = [some (.ref a), some (.str (Sh.S z)), some (.int n), some (.str (Sh.S t)), y, w] ∧ Sh.But a H H' ∧ Sh.Dr H' a l ∧ 0 < t.length ∧ (t.length : Int) ≤ 2 * n + 4 ∧ ∀ c ∈ t, c ∈ z)
      _ ⟨t, none, none, rfl, rfl, bb, d2, by omega, by omega, hm⟩ ?_ (by walk_at "mo")
    clear hm ht d2 bb b2 b1 d1 k0 k1 t
    rintro m σ H' ⟨t, y, w, rfl, rfl, bb, d2, hp, hle, hm⟩
    walk_at "vx"
    refine Sh.v_lenS (Sh.sz_of (by omega)) ?_
    walk_at "vx"
    refine Sh.k_ifD (fun hlt => ?_) (fun hge => ?_)
    · walk_at "vx"
      refine ⟨a, l, 3, rfl, d2, by decide, by decide, fun k H3 k0 k1 b3 d3 => ?_⟩
      walk_at "vx"
      refine Sh.k_ifD (fun _ => ?_) (fun _ => ?_)
      · walk_at "vx"
        refine Sh.v_addS (Sh.sz_of (by omega)) ?_
        walk_at "vx"
        refine ⟨_, ?_, t ++ t, _, _, rfl, rfl, bb.trans b3, d3, ?_, ?_, ?_⟩
        · rw [List.length_append]; omega
        · rw [List.length_append]; omega
        · rw [List.length_append]; omega
        · intro c hc
          rcases List.mem_append.mp hc with h | h <;> exact hm c h
      · walk_at "vx"
        refine Sh.k_ifD (fun _ => ?_) (fun _ => ?_)
        · walk_at "vx"
          refine Sh.v_lenS (Sh.sz_of (by omega)) ?_
          walk_at "vx"
          refine ⟨a, l, t.length, rfl, d3, by omega, by omega, fun j H4 j0 j1 b4 d4 => ?_⟩
          walk_at "vx"
          refine Sh.v_slS (Sh.sz_of (by omega)) ?_
          rw [Sh.cutL_mid _ j0 (by omega)]
          have e : ((t.drop j.toNat).take ((j + 3).toNat - j.toNat)).length = min 3 (t.length - j.toNat) := by
            rw [List.length_take, List.length_drop]
            omega
          refine Sh.v_addS (Sh.sz_of (by omega)) ?_
          walk_at "vx"
          refine ⟨_, ?_, t ++ (t.drop j.toNat).take ((j + 3).toNat - j.toNat), _, _, rfl, rfl, (bb.trans b3).trans b4, d4, ?_, ?_, ?_⟩
          · rw [List.length_append]; omega
          · rw [List.length_append]; omega
          · rw [List.length_append]; omega
          · intro c hc
            rcases List.mem_append.mp hc with h | h
            · exact hm c h
            · exact hm c (List.mem_of_mem_drop (List.mem_of_mem_take h))
        · walk_at "vx"
          have hzp : 0 < z.length := List.length_pos_iff.mpr hz
          refine Sh.v_lenS (Sh.sz_of (by omega)) ?_
          walk_at "vx"
          refine ⟨a, l, z.length, rfl, d3, by omega, by omega, fun j H4 j0 j1 b4 d4 => ?_⟩
          have hj : j.toNat < z.length := by omega
          refine Sh.v_ixS (Sh.sz_of (by omega)) (List.getElem?_eq_getElem hj) (Int.toNat_of_nonneg j0).symm ?_
          walk_at "vx"
          refine Sh.v_addS (Sh.sz_of (by rw [List.length_singleton]; omega)) ?_
          walk_at "vx"
          refine ⟨_, ?_, t ++ [z[j.toNat]], _, _, rfl, rfl, (bb.trans b3).trans b4, d4, ?_, ?_, ?_⟩
          · rw [List.length_append, List.length_singleton]; omega
          · rw [List.length_append, List.length_singleton]; omega
          · rw [List.length_append, List.length_singleton]; omega
          · intro c hc
            rcases List.mem_append.mp hc with h | h
            · exact hm c h
            · rw [List.mem_singleton.mp h]; exact List.getElem_mem hj
    · walk_at "vx"
      refine Sh.v_slS (Sh.sz_of (by omega)) ?_
      rw [Sh.cutL_to _ hn1]
      refine q _ H' ?_ (fun c hc => hm c (List.mem_of_mem_take hc)) bb d2
      rw [List.length_take]
      omega
end
theorem EnH.ext {H H' : Hp} {D : Addr} {t : List Nat} {ms : List (List Nat × Addr)} (h : EnH H D t ms) (s : LamX.ExtN H H') : EnH H' D t ms := ⟨s _ _ h.1 (fun _ e => by cases e), h.2.1, h.2.2.1, fun m hm => s _ _ (h.2.2.2 m hm) (fun _ e => by cases e)⟩
/-- the whole automaton is as it should be -/
def AllIs (t : List Nat) (ws : List (List Nat)) (L : List Nat) (ss : List AS) : Prop := ss.length = ws.length ∧ ∀ (i : Nat) (s : AS) (w : List Nat), ss[i]? = some s → ws[i]? = some w → StIs t ws L w s
theorem lw_isSt {t : List Nat} {ws : List (List Nat)} (hn : (ws.map (En t)).Nodup) (hm : ∀ w, w ∈ ws ↔ Lg t w) : IsSt t (ws.mergeSort Sh.lwB) := by
  have hp := List.mergeSort_perm ws Sh.lwB
  have hs := Sh.lw_sorted ws
  have nd : ws.Nodup := List.Pairwise.imp (fun {a b} h e => h (by rw [e])) (List.pairwise_map.mp hn)
  refine ⟨(hs.and (hp.nodup_iff.mpr nd)).imp fun {x y} ⟨h1, h2⟩ => ?_, fun w => (hp.mem_iff).trans (hm w)⟩
  rcases h1 with h1 | ⟨h1, h3⟩
  · exact .inl h1
  · refine .inr ⟨h1, ?_⟩
    rcases List.le_iff_lt_or_eq.mp (List.not_lt.mp h3) with h4 | h4
    · exact h4
    · exact absurd h4 h2
def spWa (cT C : Addr) : Sp := fun vs H Q E => ∃ t : List Nat, vs = [.str (Sh.S t)] ∧ t.length ≤ 200 ∧ LamX.Tabs [(cT, Sh.lamQ "word_automaton")] H ∧ (60 < t.length → E (.ref C) none H) ∧
  (t.length ≤ 60 → ∀ (A : Addr) (H' : Hp) (ss : List AS) (ws : List (List Nat)) (L : List Nat), LamX.ExtN H H' → LamX.Tabs [(cT, Sh.lamQ "word_automaton")] H' → AutH H' A ss → IsSt t ws → IsL t L → L.length ≤ 60 → ws.length ≤ 4000 → AllIs t ws L ss → Q (.ref A) H')
section
variable {P : Program} {w : World} {K : PySem.W.Frag} {mg : Str → Option Value} {base : Heap} {C_RangeError C_TooLarge : Addr} {cC cT : Addr}
theorem sc_word_automaton : FnScope ["text", "ends", "longest", "state_by_ends", "letters", "number", "word"] ["text"] (defScope s_word_automaton) := ⟨rfl, rfl, rfl, by decide +kernel, rfl, by decide +kernel, by decide +kernel⟩
theorem ok_word_automaton {f : Addr} {fd : FuncData} (F : Fun K "word_automaton" "word_automaton" s_word_automaton f fd) (T : Txt K mg C_RangeError C_TooLarge) (hcC : fd.code = .ref cC) (TB : LamX.TabB base mg cC cT) (c_ends_of_words : Sh.C1 P w K mg base 1 "ends_of_words" (spEow)) (c_longest_by_ends : Sh.C1 P w K mg base 1 "longest_by_ends" (spLbe)) (c_state_of : Sh.C1 P w K mg base 2 "state_of" (spSto)) : FnOk P w K mg base (L2.CX P w) 4 f fd ["text"] (spWa cT C_TooLarge) := by
  refine Sh.okTX F hcC sc_word_automaton (fun vs H Q E h => ?_) (fun A outer s H vs Q E hr h => ?_)
  · obtain ⟨t, rfl, ht2, hT, qE, q⟩ := h
    rfl
  · obtain ⟨t, rfl, ht2, hT, qE, q⟩ := h
    refine ⟨_, (pss_cons (ps_if (pt_cmpR op_gt (pe_callB Sh.call_lenS (by rfl) T.b_len PySem.boot_len (pa_cons (pv 0) pa_nil)) (C8.pe_gc (by rfl) T.g_LETTER_LIMIT) (nomark _)) (pss_one (ps_raise rfl (takes_of rfl rfl rfl rfl) (pmk_ownA PySem.F.excBase_ValueError T.x_TooLarge.e T.x_TooLarge.g T.x_TooLarge.k (raises_own T.x_TooLarge.b T.x_TooLarge.t) (by exact rfl) (pa_cons (pe_joined (PJ.cons pe_str (PJ.cons (pe_fmt (C8.pe_gc (by rfl) T.g_LETTER_LIMIT)) (PJ.cons pe_str (PJ.cons (pe_fmt (pe_callB Sh.call_lenS (by rfl) T.b_len PySem.boot_len (pa_cons (pv 0) pa_nil))) PJ.nil))))) pa_nil)))) pss_nil) (pss_cons (ps_set (i := 1) sc_word_automaton.nd rfl (Or.inr rfl) (Sh.pe_c c_ends_of_words hr (by decide) (by rfl) (pa_cons (pv 0) pa_nil))) (pss_cons (ps_set (i := 2) sc_word_automaton.nd rfl (Or.inl rfl) (Sh.pe_sortLw (T := [(cT, Sh.lamQ "word_automaton")]) (by rfl) T.b_sorted (Sh.pe_listV rfl (by rfl) T.b_list (by decide +kernel) (Sh.pe_c c_longest_by_ends hr (by decide) (by rfl) (pa_cons (pv 1) pa_nil))) TB rfl (List.mem_singleton.mpr rfl) (fun p hp _ => by rw [List.mem_singleton.mp hp]; rfl) hr (Sh.lamS1_by (sc := defScope s_word_automaton) (by decide +kernel)) T.b_len (fun _ _ _ => rfl) rfl (fun _ _ _ _ _ _ => rfl))) (pss_cons (ps_set (i := 3) sc_word_automaton.nd rfl (Or.inr rfl) (Sh.pe_dcT rfl (Sh.hu0 hr) sc_word_automaton.nd (pi_enum (by rfl) T.b_enumerate (pa_cons (pv 2) pa_nil)) (blkOk_by (own := [("number", 5), ("word", 6)]) (N := ["text", "ends", "longest", "state_by_ends", "letters", "number", "word"]) (sc := defScope s_word_automaton) (by decide +kernel)) (fun _ _ _ _ _ => (Sh.pg_tupK (K := K) (n := 2) rfl rfl (pgs_cons (pg_name (i := 5) sc_word_automaton.nd rfl (Or.inl rfl)) (pgs_cons (pg_name (i := 6) sc_word_automaton.nd rfl (Or.inl rfl)) pgs_nil)))) (fun _ _ _ _ _ => (pe_dget (Sh.hu1 hr) (pv 1) (pv 6) (fun _ _ => rfl))) (fun _ _ _ _ _ => (pv 5)))) (pss_cons (ps_set (i := 4) sc_word_automaton.nd rfl (Or.inr rfl) (pe_callB (Sh.cr_sortSX rfl) (by rfl) T.b_sorted (by decide +kernel) (pa_cons (pe_callTy (Sh.cr_setOfS rfl) (by rfl) T.b_set (by decide +kernel) (pa_cons (pv 0) pa_nil)) pa_nil))) (pss_one (ps_ret (pe_callTy Sh.call_tupQ (by rfl) T.b_tuple (by decide +kernel) (pa_cons (pe_lc rfl sc_word_automaton.nd (pi_list (pv 2)) (blkOk_by (own := [("word", 6)]) (N := ["text", "ends", "longest", "state_by_ends", "letters", "number", "word"]) (sc := defScope s_word_automaton) (by decide +kernel)) (fun _ _ _ _ _ => (pg_name (i := 6) sc_word_automaton.nd rfl (Or.inl rfl))) (fun _ _ _ _ _ => pts_nil) (fun _ _ _ _ _ => (Sh.pe_c c_state_of hr (by decide) (by rfl) (pa_cons (pv 6) (pa_cons (pv 1) (pa_cons (pv 3) (pa_cons (pv 4) pa_nil))))))) pa_nil))))))))), ?_⟩
    walk_at "vx"
    refine Sh.v_lenS (Sh.sz_of (by omega)) ?_
    walk_at "vx"
    refine Sh.k_ifD (fun h0 => ?_) (fun h0 => ?_)
    · walk_at "vx"
      refine Sh.J0 (Sh.J_c (by decide +kernel) (by decide) (Sh.J_i (i := 60) (by unfold Sh.Sm; omega) (by decide) (fun Qv kk => by walk_at "vx"; exact kk) (Sh.J_c (by decide +kernel) (by decide) (Sh.J_i (i := (t.length : Int)) (by unfold Sh.Sm; omega) (by decide) (fun Qv kk => by walk_at "vx"; refine Sh.v_lenS (Sh.sz_of (by omega)) ?_; walk_at "vx"; exact kk) (Sh.J_nil fun outS => ?_)))))
      walk_at "vx"
      exact ⟨of_decide_eq_true rfl, qE (by omega)⟩
    have htl : t.length ≤ 60 := by omega
    replace q := q htl
    walk_at "vx"
    refine ⟨t, rfl, htl, fun D H1 ms s1 hDn hE hml => ?_⟩
    have hT1 := hT.ext s1
    walk_at "vx"
    refine Sh.v_sortLw ?_
    refine Sh.v_listV ?_
    walk_at "vx"
    refine ⟨D, t, ms, rfl, hE, hml, by omega, fun L0 H2 ws0 s2 hL0 hn hm hwl => ?_⟩
    refine ⟨L0, _, rfl, hL0, fun p hp => ?_⟩
    have sp := Sh.same_upd (o := .lst ((kvT Sh.tV (ws0.map fun w => (En t w, w))).map (·.2))) hp
    have evs : (kvT Sh.tV (ws0.map fun w => (En t w, w))).map (·.2) = ws0.map Sh.tV := by unfold kvT; rw [List.map_map, List.map_map]; rfl
    have gp : upd H2 p (.lst ((kvT Sh.tV (ws0.map fun w => (En t w, w))).map (·.2))) p = some (.lst (ws0.map Sh.tV)) := by rw [upd_same, evs]
    have hT2 := (hT1.ext s2).ext sp
    have s12 := (s1.trans s2).trans sp
    have hE2 := (hE.same s2).same sp
    generalize upd H2 p (.lst ((kvT Sh.tV (ws0.map fun w => (En t w, w))).map (·.2))) = H3 at gp hT2 s12 hE2 ⊢
    refine ⟨p, ws0, rfl, SqL.of gp, Sh.sz_of (by omega), fun y hy => Sh.sz_of (by have := en_len ((hm y).mp hy).1; omega), hT2, fun Z H4 e4 hT4 hZ => ?_⟩
    have hst := lw_isSt hn hm
    have hzl : (ws0.mergeSort Sh.lwB).length ≤ 4000 := by rw [(List.mergeSort_perm ws0 Sh.lwB).length_eq]; exact hwl
    generalize ws0.mergeSort Sh.lwB = ws at hst hzl ⊢
    have sZ := Sh.same_upd (o := .lst (ws.map Sh.tV)) hZ
    have gZ : upd H4 Z (.lst (ws.map Sh.tV)) Z = some (.lst (ws.map Sh.tV)) := upd_same
    have hT5 := hT4.ext sZ
    have e5 := ((LamX.ExtN.of s12).trans e4).trans (LamX.ExtN.of sZ)
    have hE5 := (hE2.ext e4).same sZ
    generalize upd H4 Z (.lst (ws.map Sh.tV)) = H5 at gZ hT5 e5 hE5 ⊢
    clear sZ hZ hT4 e4 gp hT2 s12 hE2 sp hp hL0 s2 hE hT1 s1
    walk_at "vx"
    refine Sh.v_dcT ?_
    walk_at "vx"
    refine Sh.v_kE (SqL.of gZ) ?_
    refine Sh.dcT_it (Gd := fun H => SqL K H Z (ws.map Sh.tV)) (n := (ws.map Sh.tV).length) (Y := YPair (fun i => some (.int (i : Nat))) (fun i => (ws.map Sh.tV)[i]?)) walk_enum (fun B i H' => Same H5 H' ∧ ∃ ks : List (List Nat × Nat), H' B = some (.dT (kvT Sh.nV ks)) ∧ ks.length ≤ i ∧ ∀ j w, j < i → ws[j]? = some w → getM ks (En t w) = some j) (fun B hB => ⟨Sh.same_upd hB, [], upd_same, Nat.le_refl _, fun j w h => absurd h (Nat.not_lt_zero _)⟩) (fun B i H' _ ⟨sm, _⟩ => SqL.of (sm _ _ gZ)) ?_ ?_
    · rintro B i x H6 H7 hB hi ⟨sm, ks, hks, hkl, hkv⟩ ⟨T0, x1, x2, rfl, hT0, rfl, hx1, hx2⟩
      obtain rfl : x1 = V.int (i : Nat) := (Option.some.inj hx1).symm
      rw [List.length_map] at hi
      obtain ⟨w1, hw, rfl⟩ : ∃ w, ws[i]? = some w ∧ x2 = Sh.tV w := by
        have hx2 : (ws.map Sh.tV)[i]? = some x2 := hx2
        rw [List.getElem?_map] at hx2
        cases e : ws[i]? with
        | none => rw [e] at hx2; cases hx2
        | some u => rw [e] at hx2; exact ⟨u, rfl, (Option.some.inj hx2).symm⟩
      have sT := Sh.same_upd (o := .tup [V.int (i : Nat), Sh.tV w1]) hT0
      have gT : upd H6 T0 (.tup [V.int (i : Nat), Sh.tV w1]) T0 = some (.tup [V.int (i : Nat), Sh.tV w1]) := upd_same
      generalize upd H6 T0 (.tup [V.int (i : Nat), Sh.tV w1]) = H7 at sT gT ⊢
      refine Sh.v_gTup (SqT.of gT) rfl ?_
      walk_at "vx"
      have hw1 := (hst.2 w1).mp (List.mem_of_getElem? hw)
      have s57 : Same H5 H7 := fun b o e => sT _ _ (sm _ _ e)
      obtain ⟨a1, d1, g1⟩ := (hE5.same s57).get hw1.1
      refine ⟨rfl, ?_⟩
      refine Sh.v_dget ?_
      walk_at "vx"
      refine ⟨D, _, rfl, d1, ?_⟩
      walk_at "vx"
      refine ⟨kvT Sh.nV ks, KeyT (Sh.nI (En t w1)), a1, rfl, by rw [kV_KeyN]; exact g1, sT _ _ hks, Sh.sz_lt (by rw [kvT_len]; omega), by rw [List.length_map]; omega, fun b o e => ?_, putM ks (En t w1) i, ?_, by have := putM_len (ms := ks) (x := En t w1) (v := i); omega, fun j u hj hu => ?_⟩
      · rw [upd_ne (L2.ne_of_none e hB)]
        exact s57 _ _ e
      · rw [upd_same]; exact congrArg (fun z => some (HO.dT z)) (putK_kvT (enc := Sh.nV) ks (En t w1) i)
      · rw [getM_put]
        by_cases e : En t u = En t w1
        · rw [if_pos e]
          have e2 : u = w1 := lg_un ((hst.2 u).mp (List.mem_of_getElem? hu)) hw1 e
          have : j = i := by
            obtain ⟨j1, j2⟩ := List.getElem?_eq_some_iff.mp hu
            obtain ⟨i1, i2⟩ := List.getElem?_eq_some_iff.mp hw
            exact (List.getElem_inj (st_nd hst)).mp (j2.trans (e2.trans i2.symm))
          rw [this]
        · rw [if_neg e]
          refine hkv j u ?_ hu
          rcases Nat.lt_or_ge j i with h | h
          · exact h
          · exfalso
            have : j = i := by omega
            rw [this, hw] at hu
            exact e (by rw [Option.some.inj hu])
    rintro B H6 hB ⟨sm, ks, hks, hkl, hkv⟩
    rw [List.length_map] at hkv
    have hN : NumIs t ws ks := fun x hx => by
      obtain ⟨hi, e⟩ := ix_lt hst hx
      have := hkv _ _ hi (List.getElem?_eq_getElem hi)
      rw [e] at this
      exact this
    have hT6 := hT5.ext sm
    have hE6 := hE5.same sm
    have gZ6 := sm _ _ gZ
    have e6 := e5.trans (LamX.ExtN.of sm)
    clear hkl hkv hB sm gZ hE5 hT5 e5
    walk_at "vx"
    have sb : scanBound = 4096 := rfl
    refine Sh.v_setOfS (by omega) (fun S1 l hS1 hl hlm => ?_)
    walk_at "vx"
    refine Sh.v_sortSX upd_same (fun zs Z1 hzs hzd hzm hzl2 hZ1 => ?_)
    obtain ⟨cs, rfl, hcm, hcs⟩ := ones_asc (fun y => (hzm y).trans (hlm y)) hzs hzd
    have hcl : cs.length ≤ 60 := by rw [List.length_map] at hzl2; omega
    have hL : IsL t cs := ⟨hcs, hcm⟩
    have hZ1 : upd H6 S1 (Sh.SetXO P w S1 l) Z1 = none := hZ1
    have sS := Sh.same_upd (o := Sh.SetXO P w S1 l) hS1
    have sZ1 := Sh.same_upd (o := .lst ((cs.map fun c => [c]).map Sh.tV)) hZ1
    have gL : upd (upd H6 S1 (Sh.SetXO P w S1 l)) Z1 (.lst ((cs.map fun c => [c]).map Sh.tV)) Z1 = some (.lst (cs.map fun c => V.str (Sh.S [c]))) := by rw [upd_same, List.map_map]; rfl
    have hT7 := (hT6.ext sS).ext sZ1
    have hE7 := (hE6.same sS).same sZ1
    have gZ7 := sZ1 _ _ (sS _ _ gZ6)
    have hks7 := sZ1 _ _ (sS _ _ hks)
    have e7 := (e6.trans (LamX.ExtN.of sS)).trans (LamX.ExtN.of sZ1)
    show gName 4 (V.ref Z1) _ (upd (upd H6 S1 (Sh.SetXO P w S1 l)) Z1 (.lst ((cs.map fun c => [c]).map Sh.tV))) _
    generalize upd (upd H6 S1 (Sh.SetXO P w S1 l)) Z1 (.lst ((cs.map fun c => [c]).map Sh.tV)) = H7 at gL hT7 hE7 gZ7 hks7 e7 ⊢
    clear sZ1 sS hZ1 hS1 hks gZ6 e6 hE6 hT6 hzm hlm hzs hzd hzl2
    walk_at "vx"
    refine Sh.v_kL (SqL.of gZ7) ?_
    intro R hR
    refine lc_it (G := fun H => SqL K H Z (ws.map Sh.tV)) (n := (ws.map Sh.tV).length) (Y := YAt (ws.map Sh.tV)) walk_list (fun i H' => Same H7 H' ∧ ∃ ss : List AS, H' R = some (.lst (ss.map fun s => V.ref s.a)) ∧ ss.length = i ∧ (∀ s, s ∈ ss → StH H' s) ∧ ∀ (j : Nat) (s : AS) (u : List Nat), ss[j]? = some s → ws[j]? = some u → StIs t ws cs u s) ⟨Sh.same_upd hR, [], upd_same, rfl, (fun s hs => nomatch hs), fun j s u h => by simp at h⟩ (fun i H' _ ⟨sm, _⟩ => SqL.of (sm _ _ gZ7)) ?_ ?_
    · rintro i y H8 H9 hi ⟨sm, ss, hRl, hsl, hsh, hsi⟩ ⟨rfl, hy⟩
      rw [List.length_map] at hi
      obtain ⟨w1, hw, rfl⟩ : ∃ w, ws[i]? = some w ∧ y = Sh.tV w := by
        rw [List.getElem?_map] at hy
        cases e : ws[i]? with
        | none => rw [e] at hy; cases hy
        | some u => rw [e] at hy; exact ⟨u, rfl, (Option.some.inj hy).symm⟩
      have hw1 := (hst.2 w1).mp (List.mem_of_getElem? hw)
      refine ⟨rfl, Sh.v_yes ?_⟩
      rw [if_pos rfl]
      walk_at "vx"
      refine ⟨D, B, Z1, t, w1, cs, ms, ws, ks, rfl, hE7.same sm, sm _ _ hks7, hN, sm _ _ gL, by omega, hw1, htl, fun s H10 s10 hsn hsH his => ?_⟩
      have hR10 := s10 _ _ hRl
      have hmu : ∀ b o, H10 b = some o → b ≠ R → upd H10 R (.lst (ss.map (fun s => V.ref s.a) ++ [V.ref s.a])) b = some o := fun b o e hb => by rw [upd_ne hb]; exact e
      have hkeep : ∀ {u : AS}, StH H10 u → StH (upd H10 R (.lst (ss.map (fun s => V.ref s.a) ++ [V.ref s.a]))) u := fun {u} ⟨h1, h2, h3⟩ =>
        ⟨hmu _ _ h1 (fun e => by rw [e, hR10] at h1; cases h1), hmu _ _ h2 (fun e => by rw [e, hR10] at h2; cases h2), h3.upd hR10⟩
      refine ⟨_, hR10, by rw [List.length_map]; exact Sh.sz_lt (by omega), fun b o e => hmu _ _ (s10 _ _ (sm _ _ e)) (L2.ne_of_none e hR), ss ++ [s], by rw [upd_same, List.map_append]; rfl, by rw [List.length_append, hsl]; rfl, fun u hu => ?_, fun j u v hj hv => ?_⟩
      · rcases List.mem_append.mp hu with hu | hu
        · obtain ⟨h1, h2, h3⟩ := hsh u hu
          exact hkeep ⟨s10 _ _ h1, s10 _ _ h2, h3.same s10⟩
        · rw [List.mem_singleton.mp hu]; exact hkeep hsH
      · rcases Nat.lt_or_ge j ss.length with h | h
        · rw [List.getElem?_append_left h] at hj
          exact hsi j u v hj hv
        · rw [List.getElem?_append_right h] at hj
          have hj0 : j = i := by
            have := (List.getElem?_eq_some_iff.mp hj).1
            rw [List.length_singleton] at this
            omega
          subst hj0
          rw [hsl, Nat.sub_self] at hj
          rw [hw] at hv
          rw [← Option.some.inj hv, ← Option.some.inj (show some s = some u from hj)]
          exact his
    rintro H8 ⟨sm, ss, hRl, hsl, hsh, hsi⟩
    rw [List.length_map] at hsl
    walk_at "vx"
    refine Sh.v_tupL (SqL.of hRl) (fun A1 hA1 => ?_)
    have sA := Sh.same_upd (o := .tup (ss.map fun s => V.ref s.a)) hA1
    exact q A1 _ ss ws cs ((e7.trans (LamX.ExtN.of sm)).trans (LamX.ExtN.of sA)) ((hT7.ext sm).ext sA) ⟨upd_same, fun u hu => by obtain ⟨h1, h2, h3⟩ := hsh u hu; exact ⟨sA _ _ h1, sA _ _ h2, h3.same sA⟩⟩ hst hL hcl hzl ⟨hsl, hsi⟩
end
def spLl (cT : Addr) : Sp := fun vs H Q _ => ∃ t : List Nat, vs = [.str (Sh.S t)] ∧ t.length ≤ 200 ∧ LamX.Tabs [(cT, Sh.lamQ "word_automaton")] H ∧ ∀ H', LamX.ExtN H H' → LamX.Tabs [(cT, Sh.lamQ "word_automaton")] H' → Q (.bl (decide (60 < t.length))) H'
section
variable {P : Program} {w : World} {K : PySem.W.Frag} {mg : Str → Option Value} {base : Heap} {C_RangeError C_TooLarge : Addr} {cC cT : Addr}
theorem sc_l_large : FnScope ["text", "found"] ["text"] (defScope s_l_large) := ⟨rfl, rfl, rfl, by decide +kernel, rfl, by decide +kernel, by decide +kernel⟩
theorem ok_l_large {f : Addr} {fd : FuncData} (F : Fun K "_law_large" "_law_large" s_l_large f fd) (T : Txt K mg C_RangeError C_TooLarge) (c_word_automaton : Sh.C1X P w K mg base 4 "word_automaton" (spWa cT C_TooLarge)) : FnOk P w K mg base CX0 5 f fd ["text"] (spLl cT) := by
  refine F.ok sc_l_large (fun vs H Q E h => ?_) (fun cdv A outer s H vs Q E hr h => ?_)
  · obtain ⟨t, rfl, htl, hT, q⟩ := h
    rfl
  · obtain ⟨t, rfl, htl, hT, q⟩ := h
    refine ⟨_, (pss_cons (ps_try_only rfl rfl ⟨rfl, by decide, .inl T.x_TooLarge.g⟩ takes0 (fun W pn xe tk po => (pss_one (ps_set (i := 1) sc_l_large.nd rfl (Or.inl rfl) (Sh.pe_cS c_word_automaton hr (by decide) (by rfl) (fun σ => passAt tk σ) (pa_cons (pv 0) pa_nil))))) (fun ea oe cls dd pn ez ef => (pss_one (ps_ret pe_bl)))) (pss_one (ps_ret pe_bl))), ?_⟩
    walk_at "vx"
    refine ⟨t, rfl, htl, hT, fun h => ⟨true, T.m_TooLarge_TooLarge, fun _ ea _ => ?_, fun h => nomatch h⟩, fun h A1 H1 ss ws L e1 hT1 _ _ _ _ _ _ => ?_⟩
    · walk_at "vx"
      have q := q H (LamX.ExtN.refl H) hT
      rw [decide_eq_true h] at q
      exact q
    · walk_at "vx"
      have q := q _ e1 hT1
      rw [decide_eq_false (by omega)] at q
      exact q
end
theorem GrH.same {H H' : Hp} {D : Addr} {t : List Nat} {gs : List Gp} (h : GrH H D t gs) (s : Same H H') : GrH H' D t gs := ⟨s _ _ h.1, h.2.1, fun g hg => ⟨s _ _ (h.2.2.1 g hg).1, (h.2.2.1 g hg).2⟩, h.2.2.2⟩
theorem l_ex {t : List Nat} (h : ∀ c, c ∈ t → c < 55000) : ∃ L, IsL t L := by
  have hL : IsL t ((List.range 55000).filter fun c => decide (c ∈ t)) := ⟨List.pairwise_lt_range.sublist List.filter_sublist, fun c => by
    rw [List.mem_filter, List.mem_range, decide_eq_true_eq]
    exact ⟨fun h => h.2, fun hc => ⟨h c hc, hc⟩⟩⟩
  exact ⟨_, hL⟩
theorem occ_infix {t x : List Nat} : Sh.Occ t x ↔ x <:+: t := by
  constructor
  · rintro ⟨p, h1, h2⟩
    have h2 : (t.drop p).take x.length = x := h2
    rw [← h2]
    exact (List.take_prefix _ _).isInfix.trans (List.drop_suffix _ _).isInfix
  · rintro ⟨a, b, h⟩
    refine ⟨a.length, by rw [← h]; simp, ?_⟩
    show (t.drop a.length).take x.length = x
    rw [← h, List.append_assoc, List.drop_left, List.take_left]
theorem occ_one {t : List Nat} {c : Nat} : Sh.Occ t [c] ↔ c ∈ t := by
  rw [occ_infix]
  constructor
  · intro h; exact h.subset List.mem_cons_self
  · intro h
    obtain ⟨a, b, rfl⟩ := List.mem_iff_append.mp h
    exact ⟨a, b, by simp⟩
/-- the letters of a text, each once -/
theorem ones_of {t : List Nat} {ys : List (List Nat)} (hp : ys.Perm (((List.range t.length).filter fun k => decide (t.getD k 0 ∉ t.take k)).map fun k => [t.getD k 0])) (hs : ys.Pairwise fun a b : List Nat => a ≤ b) : ∃ L, ys = L.map (fun c => [c]) ∧ IsL t L := by
  have hn : ys.Nodup := by
    rw [hp.nodup_iff]
    refine List.pairwise_map.mpr ((List.pairwise_lt_range.sublist List.filter_sublist).imp_of_mem fun {x y} hx hy h e => ?_)
    have hy2 := of_decide_eq_true (List.mem_filter.mp hy).2
    have hx2 := List.mem_range.mp (List.mem_filter.mp hx).1
    refine hy2 ?_
    rw [← (List.cons.inj e).1, List.getD_eq_getElem?_getD, List.getElem?_eq_getElem hx2]
    exact List.mem_take_iff_getElem.mpr ⟨x, by omega, rfl⟩
  have hm : ∀ y, y ∈ ys ↔ ∃ c, c ∈ t ∧ y = [c] := fun y => by
    rw [hp.mem_iff, List.mem_map]
    constructor
    · rintro ⟨k, hk, rfl⟩
      have hk2 := List.mem_range.mp (List.mem_filter.mp hk).1
      exact ⟨_, by rw [List.getD_eq_getElem?_getD, List.getElem?_eq_getElem hk2]; exact List.getElem_mem _, rfl⟩
    · rintro ⟨c, hc, rfl⟩
      have h1 := List.idxOf_lt_length_of_mem hc
      have h2 : t.getD (t.idxOf c) 0 = c := by rw [List.getD_eq_getElem?_getD, List.getElem?_eq_getElem h1]; exact List.getElem_idxOf h1
      refine ⟨t.idxOf c, List.mem_filter.mpr ⟨List.mem_range.mpr h1, decide_eq_true fun h => ?_⟩, by rw [h2]⟩
      rw [h2] at h
      obtain ⟨j, hj, e⟩ := List.mem_take_iff_getElem.mp h
      have h3 := List.not_of_lt_findIdx (p := (· == c)) (xs := t) (i := j) (by show j < t.idxOf c; omega)
      rw [e] at h3
      simp at h3
  obtain ⟨cs, e1, e2, e3⟩ := ones_asc hm hs hn
  exact ⟨cs, e1, e3, e2⟩
theorem ways_yes {t : List Nat} {ws : List (List Nat)} {l w : List Nat} {c : Nat} (h : En t (w ++ [c]) ≠ []) : waysA t ws (l ++ [c]) w = waysA t ws l w ++ [([c], (ixA t ws (w ++ [c]) : Int))] := by
  unfold waysA
  rw [List.filter_append, List.map_append]
  simp [h]
theorem ways_no {t : List Nat} {ws : List (List Nat)} {l w : List Nat} {c : Nat} (h : En t (w ++ [c]) = []) : waysA t ws (l ++ [c]) w = waysA t ws l w := by
  unfold waysA
  rw [List.filter_append, List.map_append]
  simp [h]
theorem tif_all {tt : TT} {te tf : TE} {σ : L2.St} {H : Hp} {Q : VK} (P : VK) (h : ∀ Qv : VK, (∀ v H', P v H' → Qv v H') → tIf tt te tf σ H Qv) (q : ∀ v H', P v H' → Q v H') : tIf tt te tf σ H Q := h Q q
theorem lk_first {t w : List Nat} {j0 : Nat} {r : List Nat} (h : ((List.range w.length).filter fun j => decide (En t (w.drop (1 + j)) ≠ En t w)) = j0 :: r) : IsLk t w (1 + j0) := by
  have hm : j0 ∈ (List.range w.length).filter fun j => decide (En t (w.drop (1 + j)) ≠ En t w) := by rw [h]; exact List.mem_cons_self
  have h1 := List.mem_range.mp (List.mem_filter.mp hm).1
  have h2 := of_decide_eq_true (List.mem_filter.mp hm).2
  have hp : ((List.range w.length).filter fun j => decide (En t (w.drop (1 + j)) ≠ En t w)).Pairwise (· < ·) := List.pairwise_lt_range.sublist List.filter_sublist
  rw [h] at hp
  refine ⟨by omega, by omega, fun j hj => ?_, h2⟩
  cases j with
  | zero => rfl
  | succ j =>
    refine Classical.byContradiction fun hne => ?_
    have hm2 : j ∈ (List.range w.length).filter fun j => decide (En t (w.drop (1 + j)) ≠ En t w) := List.mem_filter.mpr ⟨List.mem_range.mpr (by omega), decide_eq_true (by rw [Nat.add_comm]; exact hne)⟩
    rw [h] at hm2
    rcases List.mem_cons.mp hm2 with e | hm2
    · omega
    · have := (List.pairwise_cons.mp hp).1 j hm2
      omega
theorem lk_none {t w : List Nat} (h : ((List.range w.length).filter fun j => decide (En t (w.drop (1 + j)) ≠ En t w)) = []) : w = [] := by
  refine Classical.byContradiction fun hne => ?_
  have hl := List.length_pos_iff.mpr hne
  have h2 := List.filter_eq_nil_iff.mp h (w.length - 1) (List.mem_range.mpr (by omega))
  rw [decide_eq_true_eq, show 1 + (w.length - 1) = w.length by omega, List.drop_length] at h2
  have h3 : En t [] = En t w := Classical.byContradiction fun e => h2 e
  have : 0 ∈ En t [] := en_zero.mpr rfl
  rw [h3] at this
  exact hne (en_zero.mp this)
/-! the automaton answers as it should -/
theorem all_get {t : List Nat} {ws : List (List Nat)} {L : List Nat} {ss : List AS} (h : AllIs t ws L ss) {i : Nat} (hi : i < ws.length) : ∃ s, ss[i]? = some s ∧ StIs t ws L ws[i] s := by
  have h2 : i < ss.length := by rw [h.1]; exact hi
  exact ⟨ss[i], List.getElem?_eq_getElem h2, h.2 i _ _ (List.getElem?_eq_getElem h2) (List.getElem?_eq_getElem hi)⟩
theorem run_ok {t : List Nat} {ws : List (List Nat)} {L : List Nat} {ss : List AS} (h : AllIs t ws L ss) (hst : IsSt t ws) (hL : IsL t L) : ∀ (x u : List Nat), En t u ≠ [] → runA ss (ixA t ws u) x = if En t (u ++ x) ≠ [] then some (ixA t ws (u ++ x)) else none := by
  intro x
  induction x with
  | nil => intro u hu; rw [List.append_nil, if_pos hu]; rfl
  | cons c x ih =>
    intro u hu
    obtain ⟨hi, e⟩ := ix_lt hst hu
    obtain ⟨s, hs, h1, h2, h3⟩ := all_get h hi
    have hrun : runA ss (ixA t ws u) (c :: x) = match s.ws.filter (fun z => decide (z.2.1 = [c])) with
        | [] => none
        | z :: _ => runA ss z.2.2.toNat x := by
      show (match ss[ixA t ws u]? with | none => none | some s => _) = _
      rw [hs]
    have hmap : (s.ws.filter (fun z => decide (z.2.1 = [c]))).map (·.2) = (waysA t ws L ws[ixA t ws u]).filter fun z => decide (z.1 = [c]) := by
      rw [← h3, List.filter_map]; rfl
    have en := en_snoc (c := c) e
    by_cases hc : En t (u ++ [c]) = []
    · have hno : En t (u ++ c :: x) = [] := Classical.byContradiction fun h => by
        rw [show u ++ c :: x = (u ++ [c]) ++ x by simp] at h
        exact en_pre h hc
      have h4 : (waysA t ws L ws[ixA t ws u]).filter (fun z => decide (z.1 = [c])) = [] := by
        refine List.filter_eq_nil_iff.mpr fun z hz hz2 => ?_
        unfold waysA at hz
        obtain ⟨d, hd, rfl⟩ := List.mem_map.mp hz
        have h5 := of_decide_eq_true (List.mem_filter.mp hd).2
        have h6 : d = c := (List.cons.inj (of_decide_eq_true hz2)).1
        rw [h6, en] at h5
        exact h5 hc
      rw [h4] at hmap
      rw [hrun, List.map_eq_nil_iff.mp hmap, if_neg (fun h => h hno)]
    · have hm : ([c], (ixA t ws (ws[ixA t ws u] ++ [c]) : Int)) ∈ (waysA t ws L ws[ixA t ws u]).filter fun z => decide (z.1 = [c]) := by
        refine List.mem_filter.mpr ⟨?_, decide_eq_true rfl⟩
        unfold waysA
        exact List.mem_map_of_mem (f := fun c => ([c], (ixA t ws (ws[ixA t ws u] ++ [c]) : Int))) (List.mem_filter.mpr ⟨(hL.2 c).mpr (en_letter hc), decide_eq_true (by rw [en]; exact hc)⟩)
      rw [← hmap] at hm
      cases hf : s.ws.filter (fun z => decide (z.2.1 = [c])) with
      | nil => rw [hf] at hm; cases hm
      | cons z zz =>
        have hz : z.2 = ([c], (ixA t ws (u ++ [c]) : Int)) := by
          have hzm : z.2 ∈ (s.ws.filter (fun z => decide (z.2.1 = [c]))).map (·.2) := by rw [hf]; exact List.mem_map_of_mem List.mem_cons_self
          rw [hmap] at hzm
          obtain ⟨hz1, hz2⟩ := List.mem_filter.mp hzm
          unfold waysA at hz1
          obtain ⟨d, hd, e2⟩ := List.mem_map.mp hz1
          rw [← e2] at hz2 ⊢
          have h6 : d = c := (List.cons.inj (of_decide_eq_true hz2)).1
          rw [h6, ix_congr en]
        rw [hrun, hf]
        show runA ss z.2.2.toNat x = _
        rw [hz]
        show runA ss (ixA t ws (u ++ [c]) : Int).toNat x = _
        rw [Int.toNat_natCast, ih _ hc, show (u ++ [c]) ++ x = u ++ c :: x by simp]
theorem run_zero {t : List Nat} {ws : List (List Nat)} {L : List Nat} {ss : List AS} (h : AllIs t ws L ss) (hst : IsSt t ws) (hL : IsL t L) (x : List Nat) : runA ss 0 x = if En t x ≠ [] then some (ixA t ws x) else none := by
  obtain ⟨r, e⟩ := st_zero hst
  have h0 : ixA t ws [] = 0 := ix_at hst (i := 0) (by rw [e]; simp) (by simp [e])
  have := run_ok h hst hL x [] (lg_nil t).1
  rwa [h0, List.nil_append] at this
theorem link_ok {t : List Nat} {ws : List (List Nat)} {L : List Nat} {ss : List AS} (h : AllIs t ws L ss) (hst : IsSt t ws) {i : Nat} {s : AS} (hs : ss[i]? = some s) : Lg t s.word ∧ ws[i]? = some s.word ∧ ((s.word = [] ∧ s.link = -1) ∨ ∃ k, IsLk t s.word k ∧ s.link = (ixA t ws (s.word.drop k) : Nat) ∧ ∃ u, ss[s.link.toNat]? = some u ∧ u.word = s.word.drop k) := by
  have hi : i < ws.length := by rw [← h.1]; exact (List.getElem?_eq_some_iff.mp hs).1
  have hw := List.getElem?_eq_getElem hi
  obtain ⟨h1, h2, h3⟩ := h.2 i s _ hs hw
  rw [← h1] at hw h2
  have hL := (hst.2 _).mp (List.mem_of_getElem? hw)
  refine ⟨hL, hw, ?_⟩
  rcases h2 with h2 | ⟨h4, k, hk, hl⟩
  · exact .inl h2
  · have hkL := lk_lg hL hk
    obtain ⟨hj, e⟩ := ix_lt hst hkL.1
    obtain ⟨u, hu, h5, _⟩ := all_get h hj
    have h6 := lg_un ((hst.2 _).mp (List.getElem_mem hj)) hkL e
    exact .inr ⟨k, hk, hl, u, by rw [hl, Int.toNat_natCast]; exact hu, h5.trans h6⟩
theorem short_ok {t : List Nat} {ws : List (List Nat)} {L : List Nat} {ss : List AS} (h : AllIs t ws L ss) (hst : IsSt t ws) {i : Nat} {s : AS} (hs : ss[i]? = some s) : shortW t s.word (shortA ss s) := by
  obtain ⟨hL, _, h2⟩ := link_ok h hst hs
  unfold shortA
  rcases h2 with ⟨h2, h3⟩ | ⟨k, hk, hl, u, hu, hue⟩
  · rw [if_pos h3, h2]; exact short_nil t
  · rw [if_neg (by omega), hu]
    show shortW t s.word (s.word.drop (s.word.length - u.word.length - 1))
    have := hk.1
    have := hk.2.1
    rw [hue, List.length_drop, show s.word.length - (s.word.length - k) - 1 = k - 1 by omega]
    exact short_lk hL hk
theorem all_bounds {t : List Nat} {ws : List (List Nat)} {L : List Nat} {ss : List AS} (h : AllIs t ws L ss) (hst : IsSt t ws) (htl : t.length ≤ 1000) : ∀ s, s ∈ ss → s.word.length ≤ 10000 ∧ (s.link = -1 ∨ (0 ≤ s.link ∧ s.link < ss.length ∧ ∀ u, ss[s.link.toNat]? = some u → u.word.length < s.word.length)) := fun s hs => by
  obtain ⟨i, hi, rfl⟩ := List.mem_iff_getElem.mp hs
  obtain ⟨hL, _, h2⟩ := link_ok h hst (List.getElem?_eq_getElem hi)
  have := en_len hL.1
  refine ⟨by omega, ?_⟩
  rcases h2 with ⟨_, h3⟩ | ⟨k, hk, hl, u, hu, hue⟩
  · exact .inl h3
  · have h4 := (List.getElem?_eq_some_iff.mp hu).1
    refine .inr ⟨by omega, by omega, fun v hv => ?_⟩
    rw [hu] at hv
    rw [← Option.some.inj hv, hue, List.length_drop]
    have := hk.1
    have := hk.2.1
    omega
theorem way_bounds {t : List Nat} {ws : List (List Nat)} {L : List Nat} {ss : List AS} (h : AllIs t ws L ss) (hst : IsSt t ws) (hLl : L.length ≤ 100) : ∀ s, s ∈ ss → s.ws.length ≤ 100 ∧ ∀ z, z ∈ s.ws → 0 ≤ z.2.2 ∧ z.2.2 < ss.length := fun s hs => by
  obtain ⟨i, hi, rfl⟩ := List.mem_iff_getElem.mp hs
  obtain ⟨_, _, h3⟩ := h.2 i _ _ (List.getElem?_eq_getElem hi) (List.getElem?_eq_getElem (by rw [← h.1]; exact hi))
  constructor
  · have := congrArg List.length h3
    rw [List.length_map] at this
    unfold waysA at this
    rw [List.length_map] at this
    have h4 := List.length_filter_le (fun c => decide (En t (ws[i]'(by rw [← h.1]; exact hi) ++ [c]) ≠ [])) L
    omega
  · intro z hz
    have hz2 : z.2 ∈ ss[i].ws.map (·.2) := List.mem_map_of_mem hz
    rw [h3] at hz2
    unfold waysA at hz2
    obtain ⟨c, hc, e⟩ := List.mem_map.mp hz2
    obtain ⟨hj, _⟩ := ix_lt hst (of_decide_eq_true (List.mem_filter.mp hc).2)
    rw [← e]
    have hl := h.1
    exact ⟨Int.natCast_nonneg _, by show ((ixA t ws _ : Nat) : Int) < (ss.length : Int); omega⟩
/-! automata as data -/
def dAS (s : AS) : PyData := .tuple [.str (Sh.S s.word), .int s.link, .tuple ((s.ws.map (·.2)).map fun e => .tuple (Sh.dSI e))]
theorem dp_AS {K : PySem.W.Frag} {H : Hp} {s : AS} (h : StH H s) : Dp K H (.ref s.a) (dAS s) := .tup (SqT.of h.1) (.cons (.str _) (.cons (.int _) (.cons (.tup (SqT.of h.2.1) (h.2.2.dp Sh.dp_SI)) .nil)))
theorem dp_ASs {K : PySem.W.Frag} {H : Hp} : ∀ {ss : List AS}, (∀ s, s ∈ ss → StH H s) → DpAll K H (ss.map fun s => V.ref s.a) (ss.map dAS)
  | [], _ => .nil
  | s :: ss, h => .cons (dp_AS (h s List.mem_cons_self)) (dp_ASs fun y hy => h y (List.mem_cons_of_mem _ hy))
theorem all_same {t : List Nat} {ws : List (List Nat)} {L : List Nat} {ss sr : List AS} (h : AllIs t ws L ss) (g : AllIs t ws L sr) : ss.map dAS = sr.map dAS := by
  refine List.ext_getElem (by rw [List.length_map, List.length_map, h.1, g.1]) fun i hi hj => ?_
  rw [List.length_map] at hi hj
  rw [List.getElem_map, List.getElem_map]
  have hw : i < ws.length := by rw [← h.1]; exact hi
  obtain ⟨a1, a2, a3⟩ := h.2 i _ _ (List.getElem?_eq_getElem hi) (List.getElem?_eq_getElem hw)
  obtain ⟨b1, b2, b3⟩ := g.2 i _ _ (List.getElem?_eq_getElem hj) (List.getElem?_eq_getElem hw)
  unfold dAS
  rw [a1, b1, a3, b3, link_un a2 b2]
theorem shp_AS {t : List Nat} {ws : List (List Nat)} {L : List Nat} {ss : List AS} (h : AllIs t ws L ss) (hst : IsSt t ws) (hL : IsL t L) (hch : ∀ c, c ∈ t → c < 55000) : Sh.Shp (.tuple (ss.map dAS)) 4 := by
  refine Sh.Shp.tup (Sh.ShpA.of fun d hd => ?_)
  obtain ⟨s, hs, rfl⟩ := List.mem_map.mp hd
  obtain ⟨i, hi, rfl⟩ := List.mem_iff_getElem.mp hs
  obtain ⟨hLg, _, _⟩ := link_ok h hst (List.getElem?_eq_getElem hi)
  obtain ⟨_, _, h3⟩ := h.2 i _ _ (List.getElem?_eq_getElem hi) (List.getElem?_eq_getElem (by rw [← h.1]; exact hi))
  refine Sh.Shp.tup (.cons (Sh.Shp.str fun c hc => hch c ((en_infix.mp hLg.1).subset hc)) (.cons (Sh.Shp.int _) (.cons (Sh.Shp.tup (Sh.ShpA.of fun d hd => ?_)) .nil)))
  obtain ⟨e, he, rfl⟩ := List.mem_map.mp hd
  rw [h3] at he
  unfold waysA at he
  obtain ⟨c, hc, rfl⟩ := List.mem_map.mp he
  refine Sh.shp_SI fun x hx => ?_
  rw [List.mem_singleton.mp hx]
  exact hch c ((hL.2 c).mp (List.mem_filter.mp hc).1)
theorem tabs_butL {T : List (Addr × Str)} {H H' : Hp} {p : Addr} {xs : List V} (h : H p = some (.lst xs)) (b : Sh.But p H H') (t : LamX.Tabs T H) : LamX.Tabs T H' := fun x hx => by
  obtain ⟨ps, h1, h2, h3⟩ := t x hx
  refine ⟨ps, b _ _ (fun e => by rw [e, h] at h1; cases h1) h1, h2, fun pos cv hc => ?_⟩
  obtain ⟨c, e1, e2⟩ := h3 pos cv hc
  exact ⟨c, e1, b _ _ (fun e => by rw [e, h] at e2; cases e2) e2⟩
section
variable {P : Program} {w : World} {K : PySem.W.Frag} {mg : Str → Option Value} {base : Heap} {C_RangeError C_TooLarge : Addr} {cC cT : Addr}
theorem sc_law : FnScope ["script", "d", "signs", "text", "groups", "longest", "ends", "order", "number", "due", "size", "word", "own", "links", "ways", "letter", "told", "words", "other", "k"] ["script"] (defScope s_law) := ⟨rfl, rfl, rfl, by decide +kernel, rfl, by decide +kernel, by decide +kernel⟩
theorem ok_law {f : Addr} {fd : FuncData} (F : Fun K "law" "law" s_law f fd) (T : Txt K mg C_RangeError C_TooLarge) (c_l_begin : Sh.C1 P w K mg base 1 "_law_begin" (Sh.spBegin K)) (c_l_signs : Sh.C1 P w K mg base 2 "_law_signs" (Sh.spSigns)) (c_l_rich : Sh.C1 P w K mg base 3 "_law_rich" (Sh.spRich)) (c_l_take : Sh.C1 P w K mg base 1 "_law_take" (Sh.spTake)) (c_l_groups : Sh.C1 P w K mg base 2 "_law_groups" (spLg)) (c_l_ends : Sh.C1 P w K mg base 1 "_law_ends" (spLe)) (c_word_automaton : Sh.C1X P w K mg base 4 "word_automaton" (spWa cT C_TooLarge)) (c_run_word : Sh.C1 P w K mg base 1 "run_word" (spRw)) (c_l_short : Sh.C1 P w K mg base 2 "_law_short" (spSh)) (c_l_large : Sh.C1 P w K mg base 5 "_law_large" (spLl cT)) : FnOk P w K mg base CX0 6 f fd ["script"] (Pr.spLawT K cT) := by
  refine F.ok sc_law (fun vs H Q E h => ?_) (fun cdv A outer s H vs Q E hr h => ?_)
  · obtain ⟨a, ns, rfl, hS, hsz, hbits, q⟩ := h
    rfl
  · obtain ⟨a, ns, rfl, hS, hsz, hbits, q⟩ := h
    refine ⟨_, (pss_cons (ps_set (i := 1) sc_law.nd rfl (Or.inl rfl) (Sh.pe_c c_l_begin hr (by decide) (by rfl) (pa_cons (pv 0) pa_nil))) (pss_cons (ps_set (i := 2) sc_law.nd rfl (Or.inl rfl) (Sh.pe_c c_l_signs hr (by decide) (by rfl) (pa_cons (pv 1) pa_nil))) (pss_cons (ps_set (i := 3) sc_law.nd rfl (Or.inr rfl) (Sh.pe_c c_l_rich hr (by decide) (by rfl) (pa_cons (pv 1) (pa_cons (pv 2) (pa_cons (Sh.pe_c c_l_take hr (by decide) (by rfl) (pa_cons (pv 1) (pa_cons pe_int pa_nil))) pa_nil))))) (pss_cons (ps_set (i := 4) sc_law.nd rfl (Or.inl rfl) (Sh.pe_c c_l_groups hr (by decide) (by rfl) (pa_cons (pv 3) pa_nil))) (pss_cons (ps_set (i := 5) sc_law.nd rfl (Or.inr rfl) pe_dnewT) (pss_cons (ps_lock (ps_for PassesOwn.never rfl (pi_keys (pv 4)) (pg_name (i := 6) sc_law.nd rfl (Or.inl rfl)) (pss_one (ps_asg (pe_callB (Sh.cr_maxLw rfl (Sh.hu64 hr)) (by rfl) T.b_max (by decide +kernel) (pa_cons (pe_lc rfl sc_law.nd (pi_list (pe_dget (Sh.hu1 hr) (pv 4) (pv 6) (fun _ _ => rfl))) (blkOk_by (own := [("word", 11)]) (N := ["script", "d", "signs", "text", "groups", "longest", "ends", "order", "number", "due", "size", "word", "own", "links", "ways", "letter", "told", "words", "other", "k"]) (sc := defScope s_law) (by decide +kernel)) (fun _ _ _ _ _ => (pg_name (i := 11) sc_law.nd rfl (Or.inl rfl))) (fun _ _ _ _ _ => pts_nil) (fun _ _ _ _ _ => (pe_tup (pa_cons (pe_callB Sh.call_lenS (by rfl) T.b_len PySem.boot_len (pa_cons (pv 11) pa_nil)) (pa_cons (pv 11) pa_nil))))) pa_nil)) (pg_sub (pv 5) (pv 6) (set_dict (Sh.hu1 hr))))))) (pss_cons (ps_set (i := 7) sc_law.nd rfl (Or.inl rfl) (pe_callB (Sh.cr_sortD (Sh.hu64 hr)) (by rfl) T.b_sorted (by decide +kernel) (pa_cons (pe_lock (pe_lc rfl sc_law.nd (pi_keys (pv 5)) (blkOk_by (own := [("ends", 6)]) (N := ["script", "d", "signs", "text", "groups", "longest", "ends", "order", "number", "due", "size", "word", "own", "links", "ways", "letter", "told", "words", "other", "k"]) (sc := defScope s_law) (by decide +kernel)) (fun _ _ _ _ _ => (pg_name (i := 6) sc_law.nd rfl (Or.inl rfl))) (fun _ _ _ _ _ => pts_nil) (fun _ _ _ _ _ => (pe_dget (Sh.hu1 hr) (pv 5) (pv 6) (fun _ _ => rfl))))) pa_nil))) (pss_cons (ps_set (i := 8) sc_law.nd rfl (Or.inl rfl) pe_dnewT) (pss_cons (ps_lock (ps_for PassesOwn.never rfl (pi_keys (pv 4)) (pg_name (i := 6) sc_law.nd rfl (Or.inl rfl)) (pss_one (ps_asg (pe_bm PySem.F.plainAttrs_list PySem.F.slot_list_index PySem.F.type_list_index (mt_indexD (Sh.hu65 hr)) (pv 7) (pa_cons (pe_dget (Sh.hu1 hr) (pv 5) (pv 6) (fun _ _ => rfl)) pa_nil)) (pg_sub (pv 8) (pv 6) (set_dict (Sh.hu1 hr))))))) (pss_cons (ps_set (i := 9) sc_law.nd rfl (Or.inl rfl) (pe_lst pa_nil)) (pss_cons (ps_for PassesOwn.never rfl (pi_list (pv 7)) (Sh.pg_tupK (K := K) (n := 2) rfl rfl (pgs_cons (pg_name (i := 10) sc_law.nd rfl (Or.inl rfl)) (pgs_cons (pg_name (i := 11) sc_law.nd rfl (Or.inr rfl)) pgs_nil))) (pss_cons (ps_set (i := 12) sc_law.nd rfl (Or.inr rfl) (Sh.pe_c c_l_ends hr (by decide) (by rfl) (pa_cons (pv 3) (pa_cons (pv 11) pa_nil)))) (pss_cons (ps_setLc (i := 13) rfl sc_law.nd rfl rfl (sw_true rfl rfl rfl (by decide +kernel)) (pi_range2 (by rfl) T.b_range (pa_cons pe_int (pa_cons (pe_op op_add (pe_callB Sh.call_lenS (by rfl) T.b_len PySem.boot_len (pa_cons (pv 11) pa_nil)) pe_int) pa_nil))) (blkOk_by (own := [("k", 19)]) (N := ["script", "d", "signs", "text", "groups", "longest", "ends", "order", "number", "due", "size", "word", "own", "links", "ways", "letter", "told", "words", "other", "k"]) (sc := defScope s_law) (by decide +kernel)) (fun _ _ _ _ _ => (pg_name (i := 19) sc_law.nd rfl (Or.inl rfl))) (fun _ _ _ _ _ => (pts_one (pt_cmpR (Sh.op_neDK (K := K) rfl (Sh.hu64 hr)) (Sh.pe_c c_l_ends hr (by decide) (by rfl) (pa_cons (pv 3) (pa_cons (pe_slice sl_str (pv 11) (po_some (pv 19)) po_none) pa_nil))) (pv 12) (nomark _)))) (fun _ _ _ _ _ => (Sh.pe_c c_l_ends hr (by decide) (by rfl) (pa_cons (pv 3) (pa_cons (pe_slice sl_str (pv 11) (po_some (pv 19)) po_none) pa_nil))))) (pss_cons (ps_set (i := 14) sc_law.nd rfl (Or.inl rfl) (pe_lst pa_nil)) (pss_cons (ps_for PassesOwn.never rfl (pi_list (pe_callB Sh.cr_sortX (by rfl) T.b_sorted (by decide +kernel) (pa_cons (pe_lc rfl sc_law.nd (pi_range1 (by rfl) T.b_range (pa_cons (pe_callB Sh.call_lenS (by rfl) T.b_len PySem.boot_len (pa_cons (pv 3) pa_nil)) pa_nil)) (blkOk_by (own := [("k", 19)]) (N := ["script", "d", "signs", "text", "groups", "longest", "ends", "order", "number", "due", "size", "word", "own", "links", "ways", "letter", "told", "words", "other", "k"]) (sc := defScope s_law) (by decide +kernel)) (fun _ _ _ _ _ => (pg_name (i := 19) sc_law.nd rfl (Or.inl rfl))) (fun _ _ _ _ _ => (pts_one (pt_cmpR Sh.op_ninX (pe_ix ix_str (pv 3) (pv 19) (fun _ _ => rfl)) (pe_slice sl_str (pv 3) po_none (po_some (pv 19))) (by with_unfolding_all rfl)))) (fun _ _ _ _ _ => (pe_ix ix_str (pv 3) (pv 19) (fun _ _ => rfl)))) pa_nil))) (pg_name (i := 15) sc_law.nd rfl (Or.inl rfl)) (pss_cons (ps_set (i := 6) sc_law.nd rfl (Or.inl rfl) (Sh.pe_c c_l_ends hr (by decide) (by rfl) (pa_cons (pv 3) (pa_cons (pe_op Sh.op_addS (pv 11) (pv 15)) pa_nil)))) (pss_one (ps_if (pt_cmpR op_gt (pe_callB Sh.call_lenQ (by rfl) T.b_len PySem.boot_len (pa_cons (pv 6) pa_nil)) pe_int (nomark _)) (pss_one (ps_expr (pe_bm PySem.F.plainAttrs_list PySem.F.slot_list_append PySem.F.type_list_append mt_append (pv 14) (pa_cons (pe_tup (pa_cons (pv 15) (pa_cons (pe_dget (Sh.hu1 hr) (pv 8) (pv 6) (fun _ _ => rfl)) pa_nil))) pa_nil)))) pss_nil)))) (pss_one (ps_expr (pe_bm PySem.F.plainAttrs_list PySem.F.slot_list_append PySem.F.type_list_append mt_append (pv 9) (pa_cons (pe_tup (pa_cons (pv 11) (pa_cons (pe_ifExp (pt_cmpR op_gt (pe_callB Sh.call_lenQ (by rfl) T.b_len PySem.boot_len (pa_cons (pv 13) pa_nil)) pe_int (nomark _)) (pe_dget (Sh.hu1 hr) (pv 8) (pe_ix ix_list (pv 13) pe_int (fun _ _ => rfl)) (fun _ _ => rfl)) (pe_op op_sub pe_int pe_int)) (pa_cons (pe_callTy Sh.call_tupQ (by rfl) T.b_tuple (by decide +kernel) (pa_cons (pv 14) pa_nil)) pa_nil)))) pa_nil))))))))) (pss_cons (ps_set (i := 16) sc_law.nd rfl (Or.inl rfl) (Sh.pe_cL c_word_automaton hr (by decide) (by rfl) (pa_cons (pv 3) pa_nil))) (pss_cons (ps_if (pt_cmpR (op_neD (Sh.hu64 hr)) (pv 16) (pe_callTy Sh.call_tupQ (by rfl) T.b_tuple (by decide +kernel) (pa_cons (pv 9) pa_nil)) (nomark _)) (pss_one (ps_ret pe_bl)) pss_nil) (pss_cons (ps_lock (ps_for PassesOwn.never rfl (pi_keys (pv 4)) (pg_name (i := 6) sc_law.nd rfl (Or.inl rfl)) (pss_cons (ps_set (i := 17) sc_law.nd rfl (Or.inl rfl) (pe_callB (Sh.cr_sortD (Sh.hu64 hr)) (by rfl) T.b_sorted (by decide +kernel) (pa_cons (pe_lc rfl sc_law.nd (pi_list (pe_dget (Sh.hu1 hr) (pv 4) (pv 6) (fun _ _ => rfl))) (blkOk_by (own := [("word", 11)]) (N := ["script", "d", "signs", "text", "groups", "longest", "ends", "order", "number", "due", "size", "word", "own", "links", "ways", "letter", "told", "words", "other", "k"]) (sc := defScope s_law) (by decide +kernel)) (fun _ _ _ _ _ => (pg_name (i := 11) sc_law.nd rfl (Or.inl rfl))) (fun _ _ _ _ _ => pts_nil) (fun _ _ _ _ _ => (pe_tup (pa_cons (pe_callB Sh.call_lenS (by rfl) T.b_len PySem.boot_len (pa_cons (pv 11) pa_nil)) (pa_cons (pv 11) pa_nil))))) pa_nil))) (pss_cons (ps_if (pw_or (pt_cmpR (op_neD (Sh.hu64 hr)) (Sh.pe_c c_l_short hr (by decide) (by rfl) (pa_cons (pv 16) (pa_cons (pe_dget (Sh.hu1 hr) (pv 8) (pv 6) (fun _ _ => rfl)) pa_nil))) (pe_ix ix_tup (pe_ix ix_list (pv 17) pe_int (fun _ _ => rfl)) pe_int (fun _ _ => rfl)) (nomark _)) (pw_or1 (pt_cmpR op_ne (Sh.pe_c c_run_word hr (by decide) (by rfl) (pa_cons (pv 16) (pa_cons (pe_ix ix_tup (pe_ix ix_list (pv 17) (pe_un un_neg pe_int) (fun _ _ => rfl)) pe_int (fun _ _ => rfl)) pa_nil))) (pe_dget (Sh.hu1 hr) (pv 8) (pv 6) (fun _ _ => rfl)) (nomark _)))).pt (pss_one (ps_ret pe_bl)) pss_nil) (pss_cons (ps_if (pt_cmpR op_ne (Sh.pe_c c_run_word hr (by decide) (by rfl) (pa_cons (pv 16) (pa_cons (pe_ix ix_tup (pe_ix ix_list (pv 17) pe_int (fun _ _ => rfl)) pe_int (fun _ _ => rfl)) pa_nil))) (pe_dget (Sh.hu1 hr) (pv 8) (pv 6) (fun _ _ => rfl)) (nomark _)) (pss_one (ps_ret pe_bl)) pss_nil) (pss_cons (ps_set (i := 18) sc_law.nd rfl (Or.inl rfl) (pe_op Sh.op_addS (pe_ix ix_tup (pe_ix ix_list (pv 17) (pe_un un_neg pe_int) (fun _ _ => rfl)) pe_int (fun _ _ => rfl)) (pe_ix ix_str (pv 2) (Sh.pe_c c_l_take hr (by decide) (by rfl) (pa_cons (pv 1) (pa_cons (pe_callB Sh.call_lenS (by rfl) T.b_len PySem.boot_len (pa_cons (pv 2) pa_nil)) pa_nil))) (fun _ _ => rfl)))) (pss_one (ps_if (pt_cmpR op_ne (pe_cmpR op_eq (Sh.pe_c c_run_word hr (by decide) (by rfl) (pa_cons (pv 16) (pa_cons (pv 18) pa_nil))) (pe_op op_sub pe_int pe_int) (nomark _)) (pe_cmpR Sh.op_ninX (pv 18) (pv 3) (by with_unfolding_all rfl)) (nomark _)) (pss_one (ps_ret pe_bl)) pss_nil)))))))) (pss_cons (ps_if (pw_or (pt_cmpR op_notN (Sh.pe_c c_l_short hr (by decide) (by rfl) (pa_cons (pv 16) (pa_cons (pe_op op_sub pe_int pe_int) pa_nil))) pe_non (nomark _)) (pw_or1 (pt_cmpR op_notN (Sh.pe_c c_l_short hr (by decide) (by rfl) (pa_cons (pv 16) (pa_cons (pe_callB Sh.call_lenQ (by rfl) T.b_len PySem.boot_len (pa_cons (pv 16) pa_nil)) pa_nil))) pe_non (nomark _)))).pt (pss_one (ps_ret pe_bl)) pss_nil) (pss_one (ps_ret (pe_and (Sh.pe_c c_l_large hr (by decide) (by rfl) (pa_cons (pe_op Sh.op_mulS pe_str pe_int) pa_nil)) (pe_one (pe_not (Sh.pe_c c_l_large hr (by decide) (by rfl) (pa_cons (pe_op Sh.op_mulS pe_str (pe_op op_add pe_int (Sh.pe_c c_l_take hr (by decide) (by rfl) (pa_cons (pv 1) (pa_cons pe_int pa_nil))))) pa_nil)))))))))))))))))))))), ?_⟩
    have hT : LamX.Tabs [(cT, Sh.lamQ "word_automaton")] H := fun p hp => by rw [List.mem_singleton.mp hp]; exact LamX.TabS.nil hbits
    walk_at "vx"
    refine ⟨a, ns, rfl, hS, hsz, fun p l H1 hp hl s1 d1 => ?_⟩
    have hT := hT.ext s1
    walk_at "vx"
    refine ⟨p, l, rfl, d1, fun z H2 hz hz6 hlt b2 d2 => ?_⟩
    walk_at "vx"
    refine ⟨p, l, 15, rfl, d2, by decide, by decide, fun m H3 m0 m1 b3 d3 => ?_⟩
    walk_at "vx"
    refine ⟨p, l, z, m, rfl, d3, hz, by omega, m0, by omega, fun t H4 htm hm b4 d4 => ?_⟩
    have hT := tabs_but d3 b4 (tabs_but d2 b3 (tabs_but d1 b2 hT))
    have htl : t.length ≤ 14 := by omega
    have hch : ∀ c, c ∈ t → c < 55000 := fun c hc => by have := (hlt c (hm c hc)).2.1; omega
    have hzch : ∀ c, c ∈ z → c < 55000 := fun c hc => by have := (hlt c hc).2.1; omega
    clear hbits d1 b2 d2 b3 d3 b4 hS hm htm s1 hp hl
    walk_at "vx"
    refine ⟨t, rfl, by omega, fun D H5 gs s5 hG => ?_⟩
    have hT := hT.ext s5
    have d5 := Sh.Dr.same d4 s5
    clear s5 d4
    walk_at "vx"
    intro L hL
    have sL := Sh.same_upd (o := .dT []) hL
    have hLL : upd H5 L (.dT []) L = some (.dT []) := upd_same
    have hT := hT.ext sL
    have d6 := Sh.Dr.same d5 sL
    have hG6 := GrH.same hG sL
    generalize upd H5 L (.dT []) = H6 at sL hLL hT d6 hG6 ⊢
    have hLD : L ≠ D := fun e => by rw [e, hG.1] at hL; cases hL
    clear hL d5 hG sL
    walk_at "vx"
    refine ⟨D, .dT _, hG6.1, trivial, fun od => ?_⟩
    have hF : upd H6 D (.frz od (.dT (kvT gV gs))) D = some (.frz od (.dT (kvT gV gs))) := upd_same
    have n8 := NT.setT (o := .frz od (.dT (kvT gV gs))) hG6.1
    have hL8 : upd H6 D (.frz od (.dT (kvT gV gs))) L = some (.dT []) := by rw [upd_ne hLD]; exact hLL
    have hg8 : ∀ g, g ∈ gs → upd H6 D (.frz od (.dT (kvT gV gs))) g.2.1 = some (.lst (g.2.2.map Sh.tV)) := fun g hg => n8 _ _ (hG6.2.2.1 g hg).1 nd_lst
    generalize upd H6 D (.frz od (.dT (kvT gV gs))) = H8 at hF n8 hL8 hg8 ⊢
    have hgl : (kvT gV gs).length = gs.length := kvT_len gs
    have hg4 := hG6.2.2.2.2
    walk_at "vx"
    unfold iKeys
    walk_at "vx"
    refine ⟨D, od, rfl, .inr ⟨_, hF, ?_⟩⟩
    refine for_it walk_keysT (fun i σ H' => ∃ (as : List (Addr × List Nat)) (y6 : Option V), σ = [some (.ref a), some (.ref p), some (.str (Sh.S z)), some (.str (Sh.S t)), some (.ref D), some (.ref L), y6, none, none, none, none, none, none, none, none, none, none, none, none, none] ∧ NT H8 H' ∧ H' D = some (.frz od (.dT (kvT gV gs))) ∧ H' L = some (.dT (kvT V.ref (as.map fun z => (En t z.2, z.1)))) ∧ Sh.LE Sh.eLw H' as ∧ (∀ z, z ∈ as → Lg t z.2) ∧ as.map (fun z => En t z.2) = (gs.map (·.1)).take i) ⟨[], _, rfl, NT.refl _, hF, hL8, Sh.LE.nil, (fun z hz => nomatch hz), rfl⟩ (fun i σ H' _ ⟨_, _, _, _, e, _⟩ => e) ?_ ?_
    · --SKIP
      rintro i x σ H2 H3 hi ⟨as, y6, rfl, n2, hF2, hL2, hA2, hLg2, has⟩ ⟨rfl, kk, vv, q0, hkv, rfl, hq0⟩
      rw [hgl] at hi
      obtain ⟨g, hg, rfl, rfl⟩ : ∃ g, gs[i]? = some g ∧ kk = KeyT (Sh.nI g.1) ∧ vv = gV g.2 := by
        unfold kvT at hkv
        rw [List.getElem?_map] at hkv
        obtain ⟨g, h1, h2⟩ := Option.map_eq_some_iff.mp hkv
        exact ⟨g, h1, (Prod.mk.inj h2).1.symm, (Prod.mk.inj h2).2.symm⟩
      have hgm := List.mem_of_getElem? hg
      obtain ⟨_, hge, hgl4, hgne, hgx⟩ := hG6.2.2.1 g hgm
      have hgL := n2 _ _ (hg8 g hgm) nd_lst
      have hasl : as.length = i := by have := congrArg List.length has; rw [List.length_map, List.length_take, List.length_map] at this; omega
      walk_at "vx"
      refine Sh.v_dget ?_
      walk_at "vx"
      refine ⟨D, _, rfl, by have := getFT hF2 hq0; rw [valV_kvT, getM_mem hG6.2.1 hgm] at this; exact this, ?_⟩
      have hwl : ∀ y, y ∈ g.2.2 → y.length ≤ 14 := fun y hy => by have := en_len (t := t) (x := y) (by rw [(hgx y).mp hy]; exact hge); omega
      refine Sh.v_kL (SqL.of hgL) (Sh.lc_walkE (Gd := fun H => SqL K H g.2.1 (g.2.2.map Sh.tV)) Sh.eLw Sh.tV (fun y : List Nat => [some (.ref a), some (.ref p), some (.str (Sh.S z)), some (.str (Sh.S t)), some (.ref D), some (.ref L), some (.ref q0), none, none, none, none, some (.str (Sh.S y)), none, none, none, none, none, none, none, none]) Sh.walk_L (fun H' s => SqL.of (s _ _ hgL)) (fun _ => true) (fun y => y) (Sh.sz_of (by omega)) (fun y H2 hy s2 Pq k => ?_) (fun y => rfl) (fun y H2 _ s2 Qb k => Sh.v_yes (k _ (Same.refl _))) (fun y H2 hy _ s2 Qv k => ?_) (fun R bs H2 hR s2 gR hB e => ?_))
      · walk_at "vx"
        exact k
      · have := hwl y hy
        walk_at "vx"
        refine Sh.v_lenS (Sh.sz_of (by omega)) ?_
        walk_at "vx"
        exact ⟨of_decide_eq_true rfl, fun T hT => k T _ (Sh.same_upd hT) upd_same⟩
      rw [Sh.filter_all, List.map_id'] at e
      walk_at "vx"
      refine Sh.v_maxLw (SqL.of gR) hB (fun h => hgne (by rw [← e, h]; rfl)) (fun zz hzz hmx => ?_)
      have hzb : zz.2 ∈ g.2.2 := by rw [← e]; exact List.mem_map_of_mem hzz
      have hzE := (hgx _).mp hzb
      have hzL : Lg t zz.2 := ⟨by rw [hzE]; exact hge, fun x hx => by
        have hxb := (hgx x).mpr (hx.trans hzE)
        rw [← e] at hxb
        obtain ⟨y, hy, rfl⟩ := List.mem_map.mp hxb
        exact Nat.le_of_not_lt fun h => hmx y hy (.inl h)⟩
      walk_at "vx"
      have hL3 := s2 _ _ hL2
      refine ⟨L, _, rfl, DPut.t (k := KeyT (Sh.nI g.1)) hL3 (s2 _ _ hq0) (Sh.sz_lt (by rw [kvT_len, List.length_map]; omega)), ?_⟩
      walk_at "vx"
      have hnew : En t zz.2 ∉ (as.map fun z => (En t z.2, z.1)).map (·.1) := fun h => by
        rw [List.map_map] at h
        have h : En t zz.2 ∈ as.map (fun z => En t z.2) := h
        rw [has, hzE] at h
        obtain ⟨j, hj, e1⟩ := List.mem_iff_getElem.mp h
        rw [List.getElem_take] at e1
        rw [List.length_take, List.length_map] at hj
        exact List.pairwise_iff_getElem.mp hG6.2.1 j i (by rw [List.length_map]; omega) (by rw [List.length_map]; exact hi) (by omega) (by rw [e1, List.getElem_map]; congr 1; rw [(List.getElem?_eq_some_iff.mp hg).2])
      have n3 := NT.setT (o := .dT (putK (kvT V.ref (as.map fun z => (En t z.2, z.1))) (KeyT (Sh.nI g.1)) (.ref zz.1))) hL3
      refine ⟨as ++ [zz], _, rfl, (n2.trans (NT.of s2)).trans n3, by rw [upd_ne (Ne.symm hLD)]; exact s2 _ _ hF2, ?_, n3.le ((hA2.same s2).app (hB.sub fun y hy => by rw [List.mem_singleton.mp hy]; exact hzz)), fun y hy => ?_, ?_⟩
      · rw [upd_same, ← hzE]
        refine congrArg (fun z => some (HO.dT z)) ((putK_kvT (enc := V.ref) (as.map fun z => (En t z.2, z.1)) (En t zz.2) zz.1).trans ?_)
        unfold putM
        rw [if_neg hnew, List.map_append]; rfl
      · rcases List.mem_append.mp hy with hy | hy
        · exact hLg2 y hy
        · rw [List.mem_singleton.mp hy]; exact hzL
      · rw [List.map_append, has, List.take_add_one, List.getElem?_map, hg]
        show _ ++ [En t zz.2] = _ ++ [g.1]
        rw [hzE]
    --END
    rintro σ H9 ⟨as, y6, rfl, n9, hF9, hL9, hA9, hLg9, has⟩
    rw [hgl, List.take_of_length_le (by rw [List.length_map]; exact Nat.le_refl _)] at has
    refine ⟨hF9, ?_⟩
    have n10 := NT.setF (o := .dT (kvT gV gs)) hF9
    have nA := (n8.trans n9).trans n10
    have hT := nA.tabs hT
    have dA := nA.dr d6
    have hLA : upd H9 D (.dT (kvT gV gs)) L = some (.dT (kvT V.ref (as.map fun z => (En t z.2, z.1)))) := by rw [upd_ne hLD]; exact hL9
    have hGA : GrH (upd H9 D (.dT (kvT gV gs))) D t gs := ⟨upd_same, hG6.2.1, fun g hg => ⟨nA _ _ (hG6.2.2.1 g hg).1 nd_lst, (hG6.2.2.1 g hg).2⟩, hG6.2.2.2⟩
    have hAA := n10.le hA9
    clear hLL n8 hL8 hg8 hF hF9 n9 hL9 hA9 n10 nA d6
    clear hG6
    generalize upd H9 D (.dT (kvT gV gs)) = HA at hT dA hLA hGA hAA ⊢
    walk_at "vx"
    refine ⟨L, .dT _, hLA, trivial, fun od2 => ?_⟩
    have hFL : upd HA L (.frz od2 (.dT (kvT V.ref (as.map fun z => (En t z.2, z.1))))) L = some (.frz od2 (.dT (kvT V.ref (as.map fun z => (En t z.2, z.1))))) := upd_same
    have nB := NT.setT (o := .frz od2 (.dT (kvT V.ref (as.map fun z => (En t z.2, z.1))))) hLA
    have hDB : upd HA L (.frz od2 (.dT (kvT V.ref (as.map fun z => (En t z.2, z.1))))) D = some (.dT (kvT gV gs)) := by rw [upd_ne (Ne.symm hLD)]; exact hGA.1
    generalize upd HA L (.frz od2 (.dT (kvT V.ref (as.map fun z => (En t z.2, z.1))))) = HB at hFL nB hDB ⊢
    have hasl : as.length = gs.length := by have := congrArg List.length has; rw [List.length_map, List.length_map] at this; exact this
    have hlk : (kvT V.ref (as.map fun z => (En t z.2, z.1))).length = as.length := by rw [kvT_len, List.length_map]
    have hand : ((as.map fun z => (En t z.2, z.1)).map (·.1)).Nodup := by
      rw [List.map_map]
      have : as.map (fun z => En t z.2) = gs.map (·.1) := has
      show (as.map (fun z => En t z.2)).Nodup
      rw [this]; exact hGA.2.1
    walk_at "vx"
    refine ⟨L, od2, rfl, .inr ⟨_, hFL, ?_⟩⟩
    intro R hR
    refine lc_it (G := fun H => H L = some (.frz od2 (.dT (kvT V.ref (as.map fun z => (En t z.2, z.1)))))) walk_keysT (fun i H' => Same HB H' ∧ H' R = some (.lst ((as.take i).map Sh.rE))) ⟨Sh.same_upd hR, upd_same⟩ (fun i H' _ ⟨s, _⟩ => s _ _ hFL) ?_ ?_
    · --SKIP
      rintro i x H2 H3 hi ⟨s2, hR2⟩ ⟨rfl, kk, vv, q0, hkv, rfl, hq0⟩
      rw [hlk] at hi
      have hkv2 : kk = KeyT (Sh.nI (En t as[i].2)) ∧ vv = V.ref as[i].1 := by
        unfold kvT at hkv
        rw [List.getElem?_map, List.getElem?_map, List.getElem?_eq_getElem hi] at hkv
        have := Option.some.inj hkv
        exact ⟨(Prod.mk.inj this).1.symm, (Prod.mk.inj this).2.symm⟩
      obtain ⟨rfl, rfl⟩ := hkv2
      refine ⟨rfl, Sh.v_yes ?_⟩
      rw [if_pos rfl]
      refine Sh.v_dget ?_
      walk_at "vx"
      refine ⟨L, _, rfl, by have := getFT (s2 _ _ hFL) hq0; rw [valV_kvT, getM_mem (m := (En t as[i].2, as[i].1)) hand (List.mem_map_of_mem (List.getElem_mem hi))] at this; exact this, ?_⟩
      refine ⟨_, hR2, Sh.sz_lt (by rw [List.length_map, List.length_take]; omega), Sh.same_mut s2 hR, ?_⟩
      rw [upd_same, List.take_add_one, List.getElem?_eq_getElem hi, List.map_append]; rfl
    --END
    rintro HC ⟨sC, hRC⟩
    rw [hlk, List.take_length] at hRC
    refine ⟨sC _ _ hFL, ?_⟩
    have nC := NT.setF (o := .dT (kvT V.ref (as.map fun z => (En t z.2, z.1)))) (sC _ _ hFL)
    have nD := (nB.trans (NT.of sC)).trans nC
    have hT := nD.tabs hT
    have dD := nD.dr dA
    have hLD2 : upd HC L (.dT (kvT V.ref (as.map fun z => (En t z.2, z.1)))) L = some (.dT (kvT V.ref (as.map fun z => (En t z.2, z.1)))) := upd_same
    have hGD : GrH (upd HC L (.dT (kvT V.ref (as.map fun z => (En t z.2, z.1))))) D t gs := ⟨by rw [upd_ne (Ne.symm hLD)]; exact sC _ _ hDB, hGA.2.1, fun g hg => ⟨nD _ _ (hGA.2.2.1 g hg).1 nd_lst, (hGA.2.2.1 g hg).2⟩, hGA.2.2.2⟩
    have hAD := nD.le hAA
    have hRD := nC _ _ hRC nd_lst
    clear hFL nB hDB hR sC hRC nC nD hGA hAA hLA dA
    generalize upd HC L (.dT (kvT V.ref (as.map fun z => (En t z.2, z.1)))) = HD at hT dD hLD2 hGD hAD hRD ⊢
    walk_at "vx"
    refine Sh.v_sortLwP (SqL.of hRD) hAD (Sh.sz_of (by omega)) (fun O zs hO hzp hzs => ?_)
    have hst : IsSt t (zs.map (·.2)) := by
      have hn : (as.map (·.2)).Nodup := by
        have h : (as.map fun z => En t z.2).Pairwise (· ≠ ·) := by rw [has]; exact hGD.2.1
        rw [List.pairwise_map] at h
        exact List.pairwise_map.mpr (h.imp fun {x y} h e => h (by rw [e]))
      have hn2 : (zs.map (·.2)).Nodup := (hzp.map (·.2)).nodup_iff.mpr hn
      refine ⟨?_, fun x => ?_⟩
      · have h2 := List.pairwise_map.mp hn2
        rw [List.pairwise_map]
        exact (hzs.and h2).imp fun {x y} ⟨h3, h4⟩ => Sh.lwR_tri h3 (fun e => h4 e.symm)
      · rw [(hzp.map (·.2)).mem_iff]
        constructor
        · intro h
          obtain ⟨y, hy, rfl⟩ := List.mem_map.mp h
          exact hLg9 y hy
        · intro h
          have h2 := hGD.2.2.2.1 x h.1
          rw [← has] at h2
          obtain ⟨y, hy, e⟩ := List.mem_map.mp h2
          rw [← lg_un (hLg9 y hy) h e]
          exact List.mem_map_of_mem hy
    have hzl : zs.length ≤ 700 := by rw [hzp.length_eq]; omega
    have hasz : ∀ y, y ∈ as → y ∈ zs := fun y hy => hzp.mem_iff.mpr hy
    have hAZ := hAD.sub (bs := zs) fun y hy => hzp.mem_iff.mp hy
    have sO := Sh.same_upd (o := .lst (zs.map Sh.rE)) hO
    have gO : upd HD O (.lst (zs.map Sh.rE)) O = some (.lst (zs.map Sh.rE)) := upd_same
    have hT := hT.ext sO
    have dE := Sh.Dr.same dD sO
    have hLE := sO _ _ hLD2
    have hGE := hGD.same sO
    have hAE := hAZ.same sO
    generalize upd HD O (.lst (zs.map Sh.rE)) = HE at gO hT dE hLE hGE hAE ⊢
    clear sO hO hAZ hzp hzs hRD hAD hGD hLD2 dD
    walk_at "vx"
    intro Nn hNn
    have sN := Sh.same_upd (o := .dT []) hNn
    have hNN : upd HE Nn (.dT []) Nn = some (.dT []) := upd_same
    have hT := hT.ext sN
    have dF := Sh.Dr.same dE sN
    have hGF := hGE.same sN
    have hAF := hAE.same sN
    have gOF := sN _ _ gO
    have hLF := sN _ _ hLE
    have hND : Nn ≠ D := fun e => by rw [e, hGE.1] at hNn; cases hNn
    have hNL : Nn ≠ L := fun e => by rw [e, hLE] at hNn; cases hNn
    generalize upd HE Nn (.dT []) = HF at hNN hT dF hGF hAF gOF hLF ⊢
    clear sN hNn gO hGE hAE hLE dE
    walk_at "vx"
    refine ⟨D, .dT _, hGF.1, trivial, fun od => ?_⟩
    have hF : upd HF D (.frz od (.dT (kvT gV gs))) D = some (.frz od (.dT (kvT gV gs))) := upd_same
    have n8 := NT.setT (o := .frz od (.dT (kvT gV gs))) hGF.1
    have hN8 : upd HF D (.frz od (.dT (kvT gV gs))) Nn = some (.dT []) := by rw [upd_ne hND]; exact hNN
    have hL8 : upd HF D (.frz od (.dT (kvT gV gs))) L = some (.dT (kvT V.ref (as.map fun z => (En t z.2, z.1)))) := by rw [upd_ne hLD]; exact hLF
    have hO8 := n8 _ _ gOF nd_lst
    have hA8 := n8.le hAF
    generalize upd HF D (.frz od (.dT (kvT gV gs))) = H8 at hF n8 hN8 hL8 hO8 hA8 ⊢
    walk_at "vx"
    refine ⟨D, od, rfl, .inr ⟨_, hF, ?_⟩⟩
    have hwch : ∀ x, Lg t x → ∀ c, c ∈ x → c < 55000 := fun x hx c hc => hch c ((en_infix.mp hx.1).subset hc)
    refine for_it walk_keysT (fun i σ H' => ∃ (ks : List (List Nat × Nat)) (y6 : Option V), σ = [some (.ref a), some (.ref p), some (.str (Sh.S z)), some (.str (Sh.S t)), some (.ref D), some (.ref L), y6, some (.ref O), some (.ref Nn), none, none, none, none, none, none, none, none, none, none, none] ∧ NT H8 H' ∧ H' D = some (.frz od (.dT (kvT gV gs))) ∧ H' L = some (.dT (kvT V.ref (as.map fun z => (En t z.2, z.1)))) ∧ H' Nn = some (.dT (kvT Sh.nV ks)) ∧ ks.map (·.1) = (gs.map (·.1)).take i ∧ ∀ m, m ∈ ks → ∃ u, (zs.map (·.2))[m.2]? = some u ∧ En t u = m.1) ⟨[], _, rfl, NT.refl _, hF, hL8, hN8, rfl, fun m hm => nomatch hm⟩ (fun i σ H' _ ⟨_, _, _, _, e, _⟩ => e) ?_ ?_
    · --SKIP
      rintro i x σ H2 H3 hi ⟨ks, y6, rfl, n2, hF2, hL2, hN2, hks, hkm⟩ ⟨rfl, kk, vv, q0, hkv, rfl, hq0⟩
      rw [hgl] at hi
      obtain ⟨g, hg, rfl, rfl⟩ : ∃ g, gs[i]? = some g ∧ kk = KeyT (Sh.nI g.1) ∧ vv = gV g.2 := by
        unfold kvT at hkv
        rw [List.getElem?_map] at hkv
        obtain ⟨g, h1, h2⟩ := Option.map_eq_some_iff.mp hkv
        exact ⟨g, h1, (Prod.mk.inj h2).1.symm, (Prod.mk.inj h2).2.symm⟩
      have hksl : ks.length = i := by have := congrArg List.length hks; rw [List.length_map, List.length_take, List.length_map] at this; omega
      have hgm : g.1 ∈ as.map (fun z => En t z.2) := by rw [has]; exact List.mem_map_of_mem (List.mem_of_getElem? hg)
      obtain ⟨yy, hyy, hye⟩ := List.mem_map.mp hgm
      have hye : En t yy.2 = g.1 := hye
      have hO2 := n2 _ _ hO8 nd_lst
      have hA2 := n2.le hA8
      walk_at "vx"
      refine ⟨Sh.tyL (SqL.of hO2), ?_⟩
      refine Sh.v_dget ?_
      walk_at "vx"
      refine ⟨L, _, rfl, by have := getT hL2 (x := g.1) (by rw [← kV_KeyN]; exact hq0); rw [← hye, getM_mem (m := (En t yy.2, yy.1)) hand (List.mem_map_of_mem hyy)] at this; exact this, ?_⟩
      obtain ⟨j, hj, ej⟩ := List.mem_iff_getElem.mp (hasz yy hyy)
      have hjw : (zs.map (·.2))[j]? = some yy.2 := by rw [List.getElem?_map, List.getElem?_eq_getElem hj, ej]; rfl
      walk_at "vx"
      refine Sh.v_idxLw (as := zs) (w := yy.2) (j := j) hO2 hA2 (hA2 yy (hasz yy hyy)) (fun u hu => hwch u.2 ((hst.2 _).mp (List.mem_map_of_mem hu))) (hwch yy.2 (hLg9 yy hyy)) hjw (st_nd hst) ?_
      walk_at "vx"
      refine ⟨Nn, _, rfl, DPut.t (k := KeyT (Sh.nI g.1)) hN2 hq0 (Sh.sz_lt (by rw [kvT_len]; omega)), ?_⟩
      walk_at "vx"
      have hnew : g.1 ∉ ks.map (·.1) := fun h => by
        rw [hks] at h
        obtain ⟨j, hj, e1⟩ := List.mem_iff_getElem.mp h
        rw [List.getElem_take] at e1
        rw [List.length_take, List.length_map] at hj
        exact List.pairwise_iff_getElem.mp hGF.2.1 j i (by rw [List.length_map]; omega) (by rw [List.length_map]; exact hi) (by omega) (by rw [e1, List.getElem_map]; congr 1; rw [(List.getElem?_eq_some_iff.mp hg).2])
      refine ⟨ks ++ [(g.1, j)], _, rfl, n2.trans (NT.setT hN2), by rw [upd_ne (Ne.symm hND)]; exact hF2, by rw [upd_ne (Ne.symm hNL)]; exact hL2, ?_, ?_, fun m hm => ?_⟩
      · rw [upd_same]
        refine congrArg (fun z => some (HO.dT z)) ((putK_kvT (enc := Sh.nV) ks g.1 j).trans ?_)
        unfold putM
        rw [if_neg hnew]
      · rw [List.map_append, hks, List.take_add_one, List.getElem?_map, hg]; rfl
      · rcases List.mem_append.mp hm with hm | hm
        · exact hkm m hm
        · rw [List.mem_singleton.mp hm]; exact ⟨yy.2, hjw, hye⟩
    --END
    rintro σ H9 ⟨ks, y6, rfl, n9, hF9, hL9, hN9, hks, hkm⟩
    rw [hgl, List.take_of_length_le (by rw [List.length_map]; exact Nat.le_refl _)] at hks
    refine ⟨hF9, ?_⟩
    have n10 := NT.setF (o := .dT (kvT gV gs)) hF9
    have nA := (n8.trans n9).trans n10
    have hT := nA.tabs hT
    have dG := nA.dr dF
    have hNG : upd H9 D (.dT (kvT gV gs)) Nn = some (.dT (kvT Sh.nV ks)) := by rw [upd_ne hND]; exact hN9
    have hGG : GrH (upd H9 D (.dT (kvT gV gs))) D t gs := ⟨upd_same, hGF.2.1, fun g hg => ⟨nA _ _ (hGF.2.2.1 g hg).1 nd_lst, (hGF.2.2.1 g hg).2⟩, hGF.2.2.2⟩
    have gOG := nA _ _ gOF nd_lst
    have hAG := nA.le hAF
    have hkn : (ks.map (·.1)).Nodup := by rw [hks]; exact hGF.2.1
    generalize hws : zs.map (·.2) = ws at hst hkm
    have hN : NumIs t ws ks := fun x hx => by
      have h1 := hGF.2.2.2.1 x hx
      rw [← hks] at h1
      obtain ⟨v, h2, h3⟩ := getM_some h1
      obtain ⟨u, h4, h5⟩ := hkm _ h3
      obtain ⟨h6, h7⟩ := List.getElem?_eq_some_iff.mp h4
      rw [h2, ix_at hst h6 (by rw [h7]; exact h5)]
    clear hNN n8 hL8 hO8 hA8 hN8 hF hF9 n9 hL9 hN9 n10 nA dF gOF hAF hLF
    clear hGF
    generalize upd H9 D (.dT (kvT gV gs)) = HG at hT dG hNG hGG gOG hAG ⊢
    walk_at "vx"
    refine ⟨of_decide_eq_true rfl, fun Du hDu => ?_⟩
    have sD := Sh.same_upd (o := .lst []) hDu
    have hDD : upd HG Du (.lst []) Du = some (.lst []) := upd_same
    have hOD : O ≠ Du := L2.ne_of_none gOG hDu
    have hpD := dG.ne hDu
    have hgD : ∀ g, g ∈ gs → g.2.1 ≠ Du := fun g hg => L2.ne_of_none (hGG.2.2.1 g hg).1 hDu
    have hT := hT.ext sD
    have dH := Sh.Dr.same dG sD
    have hGH := hGG.same sD
    have gOH := sD _ _ gOG
    have hAH := hAG.same sD
    have hNH := sD _ _ hNG
    generalize upd HG Du (.lst []) = HH at hDD hT dH hGH gOH hAH hNH ⊢
    clear sD hDu gOG hAG hNG hGG dG
    walk_at "vx"
    obtain ⟨Lc, hLc⟩ := l_ex hch
    have hzws : ∀ (i : Nat) (u : Addr × List Nat), zs[i]? = some u → ws[i]? = some u.2 := fun i u h => by rw [← hws, List.getElem?_map, h]; rfl
    refine Sh.v_kL (SqL.of gOH) (Sh.f_list (xs := zs.map Sh.rE) (fun i σ H' => ∃ (ss : List AS) (y6 y10 y11 y12 y13 y14 y15 : Option V), σ = [some (.ref a), some (.ref p), some (.str (Sh.S z)), some (.str (Sh.S t)), some (.ref D), some (.ref L), y6, some (.ref O), some (.ref Nn), some (.ref Du), y10, y11, y12, y13, y14, y15, none, none, none, none] ∧ Sh.But Du HH H' ∧ H' Du = some (.lst (ss.map fun s => V.ref s.a)) ∧ ss.length = i ∧ (∀ s, s ∈ ss → StH H' s) ∧ ∀ (j : Nat) (s : AS) (u : List Nat), ss[j]? = some s → ws[j]? = some u → StIs t ws Lc u s) ⟨[], _, _, _, _, _, _, _, rfl, fun b o _ e => e, hDD, rfl, (fun s hs => nomatch hs), fun j s u h => by simp at h⟩ (fun i σ H' _ ⟨_, _, _, _, _, _, _, _, _, b, _⟩ => SqL.of (b _ _ hOD gOH)) ?_ ?_)
    · --SKIP
      rintro i x σ H2 hi ⟨ss, y6, y10, y11, y12, y13, y14, y15, rfl, b2, hDu2, hsl, hsh, hsi⟩
      obtain ⟨u, hu, rfl⟩ : ∃ u, zs[i]? = some u ∧ x = Sh.rE u := by
        rw [List.getElem?_map] at hi
        obtain ⟨u, h1, h2⟩ := Option.map_eq_some_iff.mp hi
        exact ⟨u, h1, h2.symm⟩
      have hwu := hzws i u hu
      have hLu : Lg t u.2 := (hst.2 _).mp (List.mem_of_getElem? hwu)
      have hul := en_len hLu.1
      have hil : i < zs.length := (List.getElem?_eq_some_iff.mp hu).1
      have huT : H2 u.1 = some (.tup [.int (u.2.length : Nat), .str (Sh.S u.2)]) := b2 _ _ (fun e => by have := hAH u (List.mem_of_getElem? hu); rw [e, hDD] at this; cases this) (hAH u (List.mem_of_getElem? hu))
      have hN2 := b2 _ _ (fun e => by rw [e, hDD] at hNH; cases hNH) hNH
      refine Sh.v_gTup (SqT.of huT) rfl ?_
      walk_at "vx"
      refine ⟨t, u.2, rfl, by omega, by omega, fun R1 H3 hR1 s3 gR1 => ?_⟩
      walk_at "vx"
      refine Sh.v_lenS (Sh.sz_of (by omega)) ?_
      walk_at "vx"
      rw [show ((u.2.length : Int) + 1 - 1).toNat = u.2.length by omega]
      refine Sh.lc_RA (fun j => decide (En t (u.2.drop (1 + j)) ≠ En t u.2)) (fun j => Sh.nI (En t (u.2.drop (1 + j)))) (Sh.sz_of (by omega)) (fun j H4 hj s4 Qb k => ?_) (fun j H4 hj _ s4 Qv k => ?_) (fun R2 bs H4 hR2 s4 gR2 hbs ebs => ?_)
      · walk_at "vx"
        refine Sh.v_slS (Sh.sz_of (by omega)) ?_
        rw [Sh.cutL_from _ (by omega), show (1 + (j : Int)).toNat = 1 + j by omega]
        walk_at "vx"
        refine ⟨t, _, rfl, by omega, by rw [List.length_drop]; omega, fun R3 H5 hR3 s5 gR3 => ?_⟩
        walk_at "vx"
        refine Sh.v_neT (ns := Sh.nI (En t (u.2.drop (1 + j)))) (ms := Sh.nI (En t u.2)) (SqT.of (by rw [gR3, Sh.nV_map])) (SqT.of (by rw [s5 _ _ (s4 _ _ gR1), Sh.nV_map])) ?_
        rw [show (!decide (Sh.nI (En t (u.2.drop (1 + j))) = Sh.nI (En t u.2))) = decide (En t (u.2.drop (1 + j)) ≠ En t u.2) by
          by_cases h : En t (u.2.drop (1 + j)) = En t u.2
          · simp [h]
          · have h2 : Sh.nI (En t (u.2.drop (1 + j))) ≠ Sh.nI (En t u.2) := fun e => h (nI_inj e)
            simp [h, h2]]
        walk_at "vx"
        exact k _ s5
      · walk_at "vx"
        refine Sh.v_slS (Sh.sz_of (by omega)) ?_
        rw [Sh.cutL_from _ (by omega), show (1 + (j : Int)).toNat = 1 + j by omega]
        walk_at "vx"
        refine ⟨t, _, rfl, by omega, by rw [List.length_drop]; omega, fun R3 H5 hR3 s5 gR3 => ?_⟩
        exact k R3 H5 s5 (by rw [gR3, Sh.nV_map])
      have s24 := s3.trans s4
      clear s3 s4
      walk_at "vx"
      refine ⟨of_decide_eq_true rfl, fun W hW => ?_⟩
      have sW := Sh.same_upd (o := .lst []) hW
      have hRW : R2 ≠ W := L2.ne_of_none gR2 hW
      have gW : upd H4 W (.lst []) W = some (.lst []) := upd_same
      have s25 := s24.trans sW
      have gR25 := sW _ _ gR2
      have hbs5 : Sh.LTup (upd H4 W (.lst [])) bs := fun z hz => sW _ _ (hbs z hz)
      have hW2 : H2 W = none := by
        cases e : H2 W with
        | none => rfl
        | some o => rw [s24 _ _ e] at hW; cases hW
      generalize upd H4 W (.lst []) = H5 at gW s25 gR25 hbs5 ⊢
      clear sW hW s24 hbs gR2
      walk_at "vx"
      refine Sh.v_lenS (Sh.sz_of (by omega)) ?_
      walk_at "vx"
      rw [Int.toNat_natCast]
      refine Sh.lc_R (fun k => decide (t.getD k 0 ∉ t.take k)) (fun k => Sh.tV [t.getD k 0]) (Sh.sz_of (by omega)) (fun j H6 hj s6 Qb k => ?_) (fun j H6 hj _ s6 Qv k => ?_) (fun R4 hR4 => ?_)
      · rw [Int.zero_add]
        have hjt : t[j]? = some (t.getD j 0) := by rw [List.getD_eq_getElem?_getD, List.getElem?_eq_getElem hj]; rfl
        walk_at "vx"
        refine Sh.v_ixS (k := j) (Sh.sz_of (by omega)) hjt rfl ?_
        walk_at "vx"
        refine Sh.v_slS (Sh.sz_of (by omega)) ?_
        rw [Sh.cutL_to _ (by omega), Int.toNat_natCast]
        refine Sh.v_ninS ?_
        have hdec : ∀ i : Decidable (Sh.Occ (t.take j) [t.getD j 0]), (!@decide _ i) = decide (t.getD j 0 ∉ t.take j) := fun i => by
          rw [@Sh.dec_iff _ _ i _ (occ_one (t := t.take j) (c := t.getD j 0))]
          by_cases h : t.getD j 0 ∈ t.take j <;> simp [h]
        rw [hdec]
        walk_at "vx"
        exact k
      · rw [Int.zero_add]
        have hjt : t[j]? = some (t.getD j 0) := by rw [List.getD_eq_getElem?_getD, List.getElem?_eq_getElem hj]; rfl
        walk_at "vx"
        refine Sh.v_ixS (k := j) (Sh.sz_of (by omega)) hjt rfl ?_
        walk_at "vx"
        exact k
      walk_at "vx"
      have s26 := s25.trans (Sh.same_upd (o := .lst (((List.range t.length).filter fun k => decide (t.getD k 0 ∉ t.take k)).map fun k => Sh.tV [t.getD k 0])) hR4)
      have gR4 : upd H5 R4 (.lst (((List.range t.length).filter fun k => decide (t.getD k 0 ∉ t.take k)).map fun k => Sh.tV [t.getD k 0])) R4 = some (.lst ((((List.range t.length).filter fun k => decide (t.getD k 0 ∉ t.take k)).map fun k => [t.getD k 0]).map Sh.tV)) := by rw [upd_same, List.map_map]; rfl
      have s56 := Sh.same_upd (o := .lst (((List.range t.length).filter fun k => decide (t.getD k 0 ∉ t.take k)).map fun k => Sh.tV [t.getD k 0])) hR4
      generalize upd H5 R4 (.lst (((List.range t.length).filter fun k => decide (t.getD k 0 ∉ t.take k)).map fun k => Sh.tV [t.getD k 0])) = H6 at s26 gR4 s56 ⊢
      have hfl := List.length_filter_le (fun k => decide (t.getD k 0 ∉ t.take k)) (List.range t.length)
      rw [List.length_range] at hfl
      refine Sh.v_sortX (SqL.of gR4) (Sh.sz_of (by rw [List.length_map]; omega)) (fun ys Z hyp hys hZ => ?_)
      obtain ⟨Lq, hy2, hL2⟩ := ones_of hyp hys
      obtain rfl := l_un hL2 hLc
      have hLl : Lq.length ≤ 14 := by have := hyp.length_eq; rw [hy2, List.length_map, List.length_map] at this; omega
      subst hy2
      have sZ := Sh.same_upd (o := .lst ((Lq.map fun c => [c]).map Sh.tV)) hZ
      have gZ : upd H6 Z (.lst ((Lq.map fun c => [c]).map Sh.tV)) Z = some (.lst ((Lq.map fun c => [c]).map Sh.tV)) := upd_same
      have gW7 := sZ _ _ (s56 _ _ gW)
      have s27 := s26.trans sZ
      have gR27 := sZ _ _ (s56 _ _ gR25)
      have hbs7 : Sh.LTup (upd H6 Z (.lst ((Lq.map fun c => [c]).map Sh.tV))) bs := fun z hz => sZ _ _ (s56 _ _ (hbs5 z hz))
      have hZW : Z ≠ W := fun e => by rw [e, s56 _ _ gW] at hZ; cases hZ
      generalize upd H6 Z (.lst ((Lq.map fun c => [c]).map Sh.tV)) = H7 at gZ gW7 s27 gR27 hbs7 ⊢
      clear sZ hZ hyp hys gR4 s56 s26 hR4 gW s25 gR25 hbs5 hL2 hfl
      walk_at "vx"
      refine Sh.v_kL (SqL.of gZ) (Sh.f_list (xs := (Lq.map fun c => [c]).map Sh.tV) (fun j σ H' => ∃ (cs : List (Addr × Sh.SI)) (y6 y15 : Option V), σ = [some (.ref a), some (.ref p), some (.str (Sh.S z)), some (.str (Sh.S t)), some (.ref D), some (.ref L), y6, some (.ref O), some (.ref Nn), some (.ref Du), some (.int (u.2.length : Nat)), some (.str (Sh.S u.2)), some (.ref R1), some (.ref R2), some (.ref W), y15, none, none, none, none] ∧ (∀ b o, b ≠ W → H7 b = some o → H' b = some o) ∧ H' W = some (.lst (cs.map Sh.rE)) ∧ Sh.LE Sh.eSI H' cs ∧ cs.map (·.2) = waysA t ws (Lq.take j) u.2 ∧ cs.length ≤ j) ⟨[], _, _, rfl, fun b o _ e => e, gW7, Sh.LE.nil, rfl, Nat.le_refl _⟩ (fun j σ H' _ ⟨_, _, _, _, b, _⟩ => SqL.of (b _ _ hZW gZ)) ?_ ?_)
      · rintro j x σ H8 hj ⟨cs, y6, y15, rfl, b8, hW8, hC8, ecs, hcl⟩
        obtain ⟨c, hc, rfl⟩ : ∃ c, Lq[j]? = some c ∧ x = Sh.tV [c] := by
          rw [List.getElem?_map, List.getElem?_map] at hj
          cases e : Lq[j]? with
          | none => rw [e] at hj; cases hj
          | some v => rw [e] at hj; exact ⟨v, rfl, (Option.some.inj hj).symm⟩
        have hjl := (List.getElem?_eq_some_iff.mp hc).1
        have et : Lq.take (j + 1) = Lq.take j ++ [c] := by rw [List.take_add_one, hc]; rfl
        have hN8 := b8 _ _ (fun e => by rw [e] at hN2; rw [s27 _ _ hN2] at gW7; cases gW7) (s27 _ _ hN2)
        walk_at "vx"
        refine Sh.v_addS (Sh.sz_of (by show u.2.length + 1 ≤ _; omega)) ?_
        walk_at "vx"
        refine ⟨t, u.2 ++ [c], rfl, by omega, by rw [List.length_append]; show u.2.length + 1 ≤ _; omega, fun R5 H9 hR5 s9 gR5 => ?_⟩
        walk_at "vx"
        refine Sh.v_lenT (SqT.of gR5) ?_
        rw [List.length_map]
        walk_at "vx"
        have hW9 := s9 _ _ hW8
        refine Sh.k_ifD (fun h => ?_) (fun h => ?_)
        · have hne : En t (u.2 ++ [c]) ≠ [] := fun e => by rw [e] at h; exact absurd h (by decide)
          walk_at "vx"
          refine ⟨Sh.tyL (SqL.of hW9), ?_⟩
          walk_at "vx"
          refine Sh.v_dget ?_
          walk_at "vx"
          refine ⟨Nn, _, rfl, by have := getT (s9 _ _ hN8) gR5; rw [hN _ hne] at this; exact this, ?_⟩
          walk_at "vx"
          refine ⟨of_decide_eq_true rfl, fun T hTn => ?_⟩
          walk_at "vx"
          have sT := Sh.same_upd (o := .tup [.str (Sh.S [c]), Sh.nV (ixA t ws (u.2 ++ [c]))]) hTn
          refine Sh.v_append (sT _ _ hW9) (Sh.sz_lt (by rw [List.length_map]; omega)) ?_
          walk_at "vx"
          refine ⟨cs ++ [(T, [c], (ixA t ws (u.2 ++ [c]) : Int))], _, _, rfl, fun b o hb e => by rw [upd_ne hb]; exact sT _ _ (s9 _ _ (b8 _ _ hb e)), by rw [upd_same, List.map_append]; rfl, ((((hC8.same s9).same sT).app (Sh.LE.one (z := (T, [c], (ixA t ws (u.2 ++ [c]) : Int))) upd_same))).upd (sT _ _ hW9), ?_, by rw [List.length_append]; show cs.length + 1 ≤ _; omega⟩
          rw [List.map_append, ecs, et, ways_yes hne]; rfl
        · have hne : En t (u.2 ++ [c]) = [] := List.length_eq_zero_iff.mp (by omega)
          walk_at "vx"
          refine ⟨cs, _, _, rfl, fun b o hb e => s9 _ _ (b8 _ _ hb e), hW9, hC8.same s9, ?_, by omega⟩
          rw [ecs, et, ways_no hne]
      rintro σ H8 ⟨cs, y6, y15, rfl, b8, hW8, hC8, ecs, hcl⟩
      rw [List.length_map, List.length_map, List.take_length] at ecs
      have hDuW : Du ≠ W := L2.ne_of_none hDu2 hW2
      have hDu8 := b8 _ _ hDuW (s27 _ _ hDu2)
      have hR28 := b8 _ _ hRW gR27
      have hbs8 : Sh.LTup H8 bs := fun z hz => by
        have h1 := hbs7 z hz
        exact b8 _ _ (fun e => by rw [e, gW7] at h1; cases h1) h1
      have hN8 := b8 _ _ (fun e => by rw [e] at hN2; rw [s27 _ _ hN2] at gW7; cases gW7) (s27 _ _ hN2)
      have hbl : bs.length ≤ 14 := by
        have h1 := congrArg List.length ebs
        rw [List.length_map, List.length_map] at h1
        have h2 := List.length_filter_le (fun j => decide (En t (u.2.drop (1 + j)) ≠ En t u.2)) (List.range u.2.length)
        rw [List.length_range] at h2
        omega
      walk_at "vx"
      refine ⟨Sh.tyL (SqL.of hDu8), ?_⟩
      refine Sh.v_cons (Sh.v_tup (Sh.v_cons (Sh.v_var rfl (Sh.v_cons ?_))))
      refine tif_all (fun v H' => H' = H8 ∧ ∃ lk : Int, v = .int lk ∧ LinkIs t ws u.2 lk) (fun Qv k => ?_) ?_
      · walk_at "vx"
        refine Sh.v_lenL (SqL.of hR28) ?_
        rw [List.length_map]
        walk_at "vx"
        cases bs with
        | nil =>
          have h0 := lk_none (List.map_eq_nil_iff.mp ebs.symm)
          refine Sh.k_ifD (fun h => absurd h (by decide)) (fun _ => ?_)
          walk_at "vx"
          exact k _ _ ⟨rfl, -1, rfl, .inl ⟨h0, rfl⟩⟩
        | cons b0 bs =>
          cases hfl2 : (List.range u.2.length).filter fun j => decide (En t (u.2.drop (1 + j)) ≠ En t u.2) with
          | nil => rw [hfl2] at ebs; cases ebs
          | cons j0 rr =>
            rw [hfl2, List.map_cons, List.map_cons] at ebs
            have hb0 : b0.2 = Sh.nI (En t (u.2.drop (1 + j0))) := (List.cons.inj ebs).1
            have hlk := lk_first hfl2
            have hune : u.2 ≠ [] := fun e => by have := hlk.2.1; rw [e] at this; simp at this
            have gb0 := hbs8 b0 List.mem_cons_self
            rw [hb0] at gb0
            refine Sh.k_ifD (fun _ => ?_) (fun h => absurd (by rw [List.length_cons]; omega) h)
            refine Sh.v_dget ?_
            walk_at "vx"
            refine ⟨Nn, _, rfl, by have := getT (x := En t (u.2.drop (1 + j0))) hN8 (by rw [gb0, Sh.nV_map]); rw [hN _ (lk_ne hLu.1)] at this; exact this, ?_⟩
            exact k _ _ ⟨rfl, _, rfl, .inr ⟨hune, _, hlk, rfl⟩⟩
      rintro v H' ⟨eH, lk, rfl, hlk⟩
      obtain rfl : H8 = H' := eH.symm
      walk_at "vx"
      refine Sh.v_tupL (SqL.of hW8) (fun V0 hV => ?_)
      walk_at "vx"
      refine ⟨of_decide_eq_true rfl, fun T hTn => ?_⟩
      walk_at "vx"
      have sV := Sh.same_upd (o := .tup (cs.map Sh.rE)) hV
      have sT := Sh.same_upd (o := .tup [.str (Sh.S u.2), .int lk, .ref V0]) hTn
      have hDu9 := sT _ _ (sV _ _ hDu8)
      refine Sh.v_append hDu9 (Sh.sz_lt (by rw [List.length_map]; omega)) ?_
      walk_at "vx"
      have gT : upd (upd H8 V0 (.tup (cs.map Sh.rE))) T (.tup [.str (Sh.S u.2), .int lk, .ref V0]) T = some (.tup [.str (Sh.S u.2), .int lk, .ref V0]) := upd_same
      have gV : upd (upd H8 V0 (.tup (cs.map Sh.rE))) T (.tup [.str (Sh.S u.2), .int lk, .ref V0]) V0 = some (.tup (cs.map Sh.rE)) := sT _ _ upd_same
      have hC9 := (hC8.same sV).same sT
      have s89 : Same H8 (upd (upd H8 V0 (.tup (cs.map Sh.rE))) T (.tup [.str (Sh.S u.2), .int lk, .ref V0])) := sV.trans sT
      generalize upd (upd H8 V0 (.tup (cs.map Sh.rE))) T (.tup [.str (Sh.S u.2), .int lk, .ref V0]) = H9 at gT gV hC9 s89 hDu9 ⊢
      have hkeep : ∀ {v : AS}, StH H9 v → StH (upd H9 Du (.lst (ss.map (fun s => V.ref s.a) ++ [V.ref T]))) v := fun {v} ⟨h1, h2, h3⟩ =>
        ⟨by rw [upd_ne (fun e => by rw [e, hDu9] at h1; cases h1)]; exact h1, by rw [upd_ne (fun e => by rw [e, hDu9] at h2; cases h2)]; exact h2, h3.upd hDu9⟩
      have hWn : ∀ b o, H2 b = some o → b ≠ W := fun b o e => L2.ne_of_none e hW2
      have s29 : ∀ b o, H2 b = some o → H9 b = some o := fun b o e => s89 _ _ (b8 _ _ (hWn _ _ e) (s27 _ _ e))
      refine ⟨ss ++ [⟨T, V0, cs, u.2, lk⟩], _, _, _, _, _, _, _, rfl, fun b o hb e => by rw [upd_ne hb]; exact s29 _ _ (b2 _ _ hb e), by rw [upd_same, List.map_append]; rfl, by rw [List.length_append, hsl]; rfl, fun v hv => ?_, fun j v y hj hy => ?_⟩
      · rcases List.mem_append.mp hv with hv | hv
        · obtain ⟨h1, h2, h3⟩ := hsh v hv
          exact hkeep ⟨s29 _ _ h1, s29 _ _ h2, fun q hq => s29 _ _ (h3 q hq)⟩
        · rw [List.mem_singleton.mp hv]; exact hkeep ⟨gT, gV, hC9⟩
      · rcases Nat.lt_or_ge j ss.length with h | h
        · rw [List.getElem?_append_left h] at hj
          exact hsi j v y hj hy
        · rw [List.getElem?_append_right h] at hj
          have hj0 : j = i := by
            have := (List.getElem?_eq_some_iff.mp hj).1
            rw [List.length_singleton] at this
            omega
          subst hj0
          rw [hsl, Nat.sub_self] at hj
          rw [hwu] at hy
          rw [← Option.some.inj hy, ← Option.some.inj (show some (AS.mk T V0 cs u.2 lk) = some v from hj)]
          exact ⟨rfl, hlk, ecs⟩
    --END
    rintro σ H2 ⟨ss, y6, y10, y11, y12, y13, y14, y15, rfl, b2, hDu2, hsl, hsh, hsi⟩
    rw [List.length_map] at hsl
    have hT := tabs_butL hDD b2 hT
    have d2 : Sh.Dr H2 p l := by
      obtain ⟨n1, n2, n3, n4, h1, h2, h3⟩ := dH
      exact ⟨n1, n2, n3, n4, b2 _ _ hpD.1.symm h1, b2 _ _ hpD.2.symm h2, h3⟩
    have hG2 : GrH H2 D t gs := ⟨b2 _ _ (fun e => by have h := hGH.1; rw [e, hDD] at h; cases h) hGH.1, hGH.2.1, fun g hg => ⟨b2 _ _ (hgD g hg) (hGH.2.2.1 g hg).1, (hGH.2.2.1 g hg).2⟩, hGH.2.2.2⟩
    have hN2 := b2 _ _ (fun e => by rw [e, hDD] at hNH; cases hNH) hNH
    have hall : AllIs t ws Lc ss := ⟨by rw [hsl, ← hws, List.length_map], hsi⟩
    have hwsl : ws.length ≤ 700 := by rw [← hws, List.length_map]; exact hzl
    clear hDD hGH gOH hAH hNH b2 dH hpD hgD hOD
    walk_at "vx"
    refine ⟨t, rfl, by omega, hT, fun h => absurd h (by omega), fun _ A1 H3 ss3 ws3 L3 e3 hT3 hA3 hst3 hL3 hL3l _ hall3 => ?_⟩
    obtain rfl := st_un hst3 hst
    obtain rfl := l_un hL3 hLc
    walk_at "vx"
    have hDu3 := e3 _ _ hDu2 (fun _ e => by cases e)
    have d3 : Sh.Dr H3 p l := by
      obtain ⟨n1, n2, n3, n4, h1, h2, h3⟩ := d2
      exact ⟨n1, n2, n3, n4, e3 _ _ h1 (fun _ e => by cases e), e3 _ _ h2 (fun _ e => by cases e), h3⟩
    have hG3 : GrH H3 D t gs := ⟨e3 _ _ hG2.1 (fun _ e => by cases e), hG2.2.1, fun g hg => ⟨e3 _ _ (hG2.2.2.1 g hg).1 (fun _ e => by cases e), (hG2.2.2.1 g hg).2⟩, hG2.2.2.2⟩
    have hN3 := e3 _ _ hN2 (fun _ e => by cases e)
    have hsh3 : ∀ s, s ∈ ss → StH H3 s := fun s hs => by
      obtain ⟨h1, h2, h3⟩ := hsh s hs
      exact ⟨e3 _ _ h1 (fun _ e => by cases e), e3 _ _ h2 (fun _ e => by cases e), fun q hq => e3 _ _ (h3 q hq) (fun _ e => by cases e)⟩
    refine Sh.v_tupL (SqL.of hDu3) (fun Tp hTp => ?_)
    have sT := Sh.same_upd (o := .tup (ss.map fun s => V.ref s.a)) hTp
    have gT : upd H3 Tp (.tup (ss.map fun s => V.ref s.a)) Tp = some (.tup (ss.map fun s => V.ref s.a)) := upd_same
    have hT4 := hT3.ext sT
    have hA4 := hA3.same sT
    have d4 := d3.same sT
    have hG4 := hG3.same sT
    have hN4 := sT _ _ hN3
    have hsh4 : ∀ s, s ∈ ss → StH (upd H3 Tp (.tup (ss.map fun s => V.ref s.a))) s := fun s hs => by
      obtain ⟨h1, h2, h3⟩ := hsh3 s hs
      exact ⟨sT _ _ h1, sT _ _ h2, h3.same sT⟩
    generalize upd H3 Tp (.tup (ss.map fun s => V.ref s.a)) = H4 at gT hT4 hA4 d4 hG4 hN4 hsh4 ⊢
    clear sT hTp hDu3 d3 hG3 hN3 hsh3 hA3 hT3 e3 hDu2 d2 hG2 hN2 hsh hT hsi
    refine Sh.v_neSame (d := .tuple (ss3.map dAS)) (.tup (SqT.of hA4.1) (dp_ASs hA4.2)) (.tup (SqT.of gT) (by rw [all_same hall3 hall]; exact dp_ASs hsh4)) ((shp_AS hall3 hst hLc hch).shaped (by decide)) ?_
    clear gT hsh4 hall
    walk_at "vx"
    refine Sh.k_ifF ?_
    walk_at "vx"
    refine ⟨D, .dT _, hG4.1, trivial, fun od => ?_⟩
    have hF : upd H4 D (.frz od (.dT (kvT gV gs))) D = some (.frz od (.dT (kvT gV gs))) := upd_same
    have n8 := NT.setT (o := .frz od (.dT (kvT gV gs))) hG4.1
    have hT8 := n8.tabs hT4
    have d8 := n8.dr d4
    have hN8 : upd H4 D (.frz od (.dT (kvT gV gs))) Nn = some (.dT (kvT Sh.nV ks)) := by rw [upd_ne hND]; exact hN4
    have hA8 : AutH (upd H4 D (.frz od (.dT (kvT gV gs)))) A1 ss3 := ⟨n8 _ _ hA4.1 nd_tup, fun s hs => by obtain ⟨h1, h2, h3⟩ := hA4.2 s hs; exact ⟨n8 _ _ h1 nd_tup, n8 _ _ h2 nd_tup, n8.le h3⟩⟩
    have hg8 : ∀ g, g ∈ gs → upd H4 D (.frz od (.dT (kvT gV gs))) g.2.1 = some (.lst (g.2.2.map Sh.tV)) := fun g hg => n8 _ _ (hG4.2.2.1 g hg).1 nd_lst
    generalize upd H4 D (.frz od (.dT (kvT gV gs))) = H8 at hF n8 hT8 d8 hN8 hA8 hg8 ⊢
    have hDp : D ≠ p := fun e => by obtain ⟨_, _, _, _, h1, _⟩ := d8; rw [e, h1] at hF; cases hF
    have hNp : Nn ≠ p := fun e => by obtain ⟨_, _, _, _, h1, _⟩ := d8; rw [e, h1] at hN8; cases hN8
    have hssl : ss3.length ≤ 700 := by rw [hall3.1]; exact hwsl
    have hsne : ss3 ≠ [] := fun e => by
      obtain ⟨r, e2⟩ := st_zero hst
      have := hall3.1
      rw [e, e2] at this
      cases this
    walk_at "vx"
    refine ⟨D, od, rfl, .inr ⟨_, hF, ?_⟩⟩
    refine for_it walk_keysT (fun i σ H' => ∃ (y6 y11 y17 y18 : Option V), σ = [some (.ref a), some (.ref p), some (.str (Sh.S z)), some (.str (Sh.S t)), some (.ref D), some (.ref L), y6, some (.ref O), some (.ref Nn), some (.ref Du), y10, y11, y12, y13, y14, y15, some (.ref A1), y17, y18, none] ∧ Sh.But p H8 H' ∧ Sh.Dr H' p l) ⟨_, _, _, _, rfl, fun b o _ e => e, d8⟩ (fun i σ H' _ ⟨_, _, _, _, _, b, _⟩ => b _ _ hDp hF) ?_ ?_
    · --SKIP
      rintro i x σ H2 H3 hi ⟨y6, y11, y17, y18, rfl, b3, d3⟩ ⟨rfl, kk, vv, q0, hkv, rfl, hq0⟩
      rw [hgl] at hi
      obtain ⟨g, hg, rfl, rfl⟩ : ∃ g, gs[i]? = some g ∧ kk = KeyT (Sh.nI g.1) ∧ vv = gV g.2 := by
        unfold kvT at hkv
        rw [List.getElem?_map] at hkv
        obtain ⟨g, h1, h2⟩ := Option.map_eq_some_iff.mp hkv
        exact ⟨g, h1, (Prod.mk.inj h2).1.symm, (Prod.mk.inj h2).2.symm⟩
      have hgm := List.mem_of_getElem? hg
      obtain ⟨_, hge, hgl4, hgne, hgx⟩ := hG4.2.2.1 g hgm
      have hgp : g.2.1 ≠ p := fun e => by
        have h2 := hg8 g hgm
        obtain ⟨n1, n2, n3, n4, h1, _⟩ := d8
        rw [e, h1] at h2
        have h3 := List.map_eq_cons_iff.mp (HO.lst.inj (Option.some.inj h2)).symm
        obtain ⟨_, _, _, h4, _⟩ := h3
        cases h4
      have hgL := b3 _ _ hgp (hg8 g hgm)
      have hF3 := b3 _ _ hDp hF
      have hN3 := b3 _ _ hNp hN8
      walk_at "vx"
      refine Sh.v_dget ?_
      walk_at "vx"
      refine ⟨D, _, rfl, by have := getFT hF3 hq0; rw [valV_kvT, getM_mem hG4.2.1 hgm] at this; exact this, ?_⟩
      have hwl : ∀ y, y ∈ g.2.2 → y.length ≤ 14 := fun y hy => by have := en_len (t := t) (x := y) (by rw [(hgx y).mp hy]; exact hge); omega
      refine Sh.v_kL (SqL.of hgL) (Sh.lc_walkE (Gd := fun H => SqL K H g.2.1 (g.2.2.map Sh.tV)) Sh.eLw Sh.tV (fun y : List Nat => [some (.ref a), some (.ref p), some (.str (Sh.S z)), some (.str (Sh.S t)), some (.ref D), some (.ref L), some (.ref q0), some (.ref O), some (.ref Nn), some (.ref Du), y10, some (.str (Sh.S y)), y12, y13, y14, y15, some (.ref A1), y17, y18, none]) Sh.walk_L (fun H' s => SqL.of (s _ _ hgL)) (fun _ => true) (fun y => y) (Sh.sz_of (by omega)) (fun y H2 hy s2 Pq k => ?_) (fun y => rfl) (fun y H2 _ s2 Qb k => Sh.v_yes (k _ (Same.refl _))) (fun y H2 hy _ s2 Qv k => ?_) (fun R bs H2 hR s2 gR hB e => ?_))
      · walk_at "vx"
        exact k
      · have := hwl y hy
        walk_at "vx"
        refine Sh.v_lenS (Sh.sz_of (by omega)) ?_
        walk_at "vx"
        exact ⟨of_decide_eq_true rfl, fun T hT => k T _ (Sh.same_upd hT) upd_same⟩
      rw [Sh.filter_all, List.map_id'] at e
      walk_at "vx"
      refine Sh.v_sortLwP (SqL.of gR) hB (Sh.sz_of (by have := congrArg List.length e; rw [List.length_map] at this; omega)) (fun Zp qs hZ hqp hqs => ?_)
      have hqm : ∀ y, y ∈ qs.map (·.2) ↔ En t y = g.1 := fun y => by rw [(hqp.map (·.2)).mem_iff, e]; exact hgx y
      have hqB := (hB.sub fun y hy => hqp.mem_iff.mp hy : Sh.LE Sh.eLw H2 qs)
      have hql : qs.length ≤ 4000 := by rw [hqp.length_eq]; have := congrArg List.length e; rw [List.length_map] at this; omega
      have hqne : qs ≠ [] := fun h => by
        obtain ⟨y, hy⟩ := List.exists_mem_of_ne_nil _ hgne
        have := (hqm y).mpr ((hgx y).mp hy)
        rw [h] at this; cases this
      have sZ := Sh.same_upd (o := .lst (qs.map Sh.rE)) hZ
      have gZ : upd H2 Zp (.lst (qs.map Sh.rE)) Zp = some (.lst (qs.map Sh.rE)) := upd_same
      have s23 := s2.trans sZ
      have hqC := hqB.same sZ
      generalize upd H2 Zp (.lst (qs.map Sh.rE)) = H5 at gZ s23 hqC ⊢
      clear sZ hqB hZ hqp hB gR hR s2 e
      obtain ⟨q1, qr, rfl⟩ : ∃ q1 qr, qs = q1 :: qr := by
        cases qs with
        | nil => exact absurd rfl hqne
        | cons a b => exact ⟨a, b, rfl⟩
      have hlast : ∃ q2, (q1 :: qr)[(q1 :: qr).length - 1]? = some q2 ∧ ∀ y, y ∈ q1 :: qr → ¬ Sh.lwR q2.2 y.2 := by
        refine ⟨(q1 :: qr).getLast hqne, by rw [List.getLast_eq_getElem, List.getElem?_eq_getElem], fun y hy => ?_⟩
        obtain ⟨j, hj, rfl⟩ := List.mem_iff_getElem.mp hy
        rw [List.getLast_eq_getElem]
        rcases Nat.lt_or_ge j ((q1 :: qr).length - 1) with h | h
        · exact List.pairwise_iff_getElem.mp hqs j _ hj (by omega) h
        · have : j = (q1 :: qr).length - 1 := by omega
          subst this
          exact Sh.lwR_irr
      obtain ⟨q2, hq2, hq2m⟩ := hlast
      have hq2e := List.mem_of_getElem? hq2
      have he1 : En t q1.2 = g.1 := (hqm _).mp (List.mem_map_of_mem List.mem_cons_self)
      have he2 : En t q2.2 = g.1 := (hqm _).mp (List.mem_map_of_mem hq2e)
      have hne1 : En t q1.2 ≠ [] := by rw [he1]; exact hge
      have hL2 : Lg t q2.2 := ⟨by rw [he2]; exact hge, fun x hx => by
        obtain ⟨y, hy, rfl⟩ := List.mem_map.mp ((hqm x).mpr (hx.trans he2))
        exact Nat.le_of_not_lt fun h => hq2m y hy (.inl h)⟩
      have hS1 : shortW t q2.2 q1.2 := ⟨he1.trans he2.symm, fun y hy => by
        obtain ⟨v, hv, rfl⟩ := List.mem_map.mp ((hqm y).mpr (hy.trans he2))
        rcases List.mem_cons.mp hv with rfl | hv
        · exact Nat.le_refl _
        · exact Nat.le_of_not_lt fun h => (List.pairwise_cons.mp hqs).1 v hv (.inl h)⟩
      have hl1 := en_len hne1
      have hl2 := en_len hL2.1
      obtain ⟨hix, eix⟩ := ix_lt hst hL2.1
      obtain ⟨sA, hsA, hsw, _, _⟩ := all_get hall3 hix
      have hwq : ws3[ixA t ws3 q2.2] = q2.2 := lg_un ((hst.2 _).mp (List.getElem_mem hix)) hL2 eix
      have hshort : shortA ss3 sA = q1.2 := by
        have h1 := short_ok hall3 hst hsA
        rw [hsw, hwq] at h1
        exact short_un hL2.1 h1 hS1
      have gq0 : H5 q0 = some (.tup ((En t q2.2).map Sh.nV)) := by rw [s23 _ _ hq0, kV_KeyN, he2]
      have hN5 := s23 _ _ hN3
      have dgN : ∀ H', Same H5 H' → DGet H' Nn (.ref q0) (some (.int (ixA t ws3 q2.2 : Nat))) := fun H' sm => by
        have := getT (sm _ _ hN5) (sm _ _ gq0)
        rw [hN _ hL2.1] at this
        exact this
      have hA5 : AutH H5 A1 ss3 := by
        have hA3p : AutH H3 A1 ss3 := ⟨b3 _ _ (fun e => by obtain ⟨_, _, _, _, h1, _⟩ := d8; have h2 := hA8.1; rw [e, h1] at h2; cases h2) hA8.1, fun s hs => by
          obtain ⟨h1, h2, h3⟩ := hA8.2 s hs
          have kp : ∀ {x : Addr} {xs : List V}, H8 x = some (.tup xs) → H3 x = some (.tup xs) := fun {x xs} h => b3 _ _ (fun e => by obtain ⟨_, _, _, _, h1, _⟩ := d8; rw [e, h1] at h; cases h) h
          exact ⟨kp h1, kp h2, fun q hq => kp (h3 q hq)⟩⟩
        exact hA3p.same s23
      have d5 := d3.same s23
      have hc1 : ∀ c, c ∈ q1.2 → c < 55000 := fun c hc => hch c ((en_infix.mp hne1).subset hc)
      walk_at "vx"
      refine Sh.v_or ?_
      walk_at "vx"
      refine Sh.v_dget ?_
      walk_at "vx"
      refine ⟨Nn, _, rfl, dgN _ (Same.refl _), ?_⟩
      refine ⟨A1, ss3, _, rfl, hA5, by unfold Sh.Sm; omega, by omega, all_bounds hall3 hst (by omega), fun h => absurd h (by rw [hall3.1]; omega), fun sB _ hsB H6 s6 => ?_⟩
      obtain rfl : sA = sB := by rw [Int.toNat_natCast, hsA] at hsB; exact Option.some.inj hsB
      rw [hshort]
      have gq1 : H5 q1.1 = some (.tup [.int (q1.2.length : Nat), .str (Sh.S q1.2)]) := hqC q1 List.mem_cons_self
      have gq2 : H5 q2.1 = some (.tup [.int (q2.2.length : Nat), .str (Sh.S q2.2)]) := hqC q2 hq2e
      have gZm : ((q1 :: qr).map Sh.rE)[((q1 :: qr).map Sh.rE).length - 1]? = some (.ref q2.1) := by rw [List.length_map, List.getElem?_map, hq2]; rfl
      have hLcl : L3.length ≤ 100 := by omega
      have hwb := way_bounds hall3 hst hLcl
      have rz := fun x => run_zero hall3 hst hLc x
      walk_at "vx"
      refine Sh.v_ixL (k := 0) (v := .ref q1.1) (SqL.of (s6 _ _ gZ)) rfl rfl ?_
      walk_at "vx"
      refine Sh.v_ixT (k := 1) (v := .str (Sh.S q1.2)) (SqT.of (s6 _ _ gq1)) rfl rfl ?_
      refine Sh.v_neSame (d := .str (Sh.S q1.2)) (.str _) (.str _) ((Sh.Shp.str hc1 : Sh.Shp _ 1).shaped (by decide)) ?_
      walk_at "vx"
      refine Sh.k_ifF ?_
      walk_at "vx"
      refine Sh.v_ixLm1 (SqL.of (s6 _ _ gZ)) gZm ?_
      walk_at "vx"
      refine Sh.v_ixT (k := 1) (v := .str (Sh.S q2.2)) (SqT.of (s6 _ _ gq2)) rfl rfl ?_
      walk_at "vx"
      refine ⟨A1, ss3, q2.2, rfl, hA5.same s6, by omega, hsne, by omega, hwb, fun H7 s7 => ?_⟩
      rw [rz, if_pos hL2.1]
      have s57 := s6.trans s7
      walk_at "vx"
      show tDGet (tVar 8) (tVar 6) _ _ _
      refine Sh.v_dget ?_
      walk_at "vx"
      refine ⟨Nn, _, rfl, dgN _ s57, ?_⟩
      show rNe (.int (ixA t ws3 q2.2 : Nat)) (.int (ixA t ws3 q2.2 : Nat)) _ _
      refine Sh.v_neI ?_
      rw [decide_eq_true rfl, Bool.not_true]
      walk_at "vx"
      refine Sh.k_ifF ?_
      walk_at "vx"
      refine Sh.v_ixL (k := 0) (v := .ref q1.1) (SqL.of (s57 _ _ gZ)) rfl rfl ?_
      walk_at "vx"
      refine Sh.v_ixT (k := 1) (v := .str (Sh.S q1.2)) (SqT.of (s57 _ _ gq1)) rfl rfl ?_
      walk_at "vx"
      refine ⟨A1, ss3, q1.2, rfl, hA5.same s57, by omega, hsne, by omega, hwb, fun H9 s9 => ?_⟩
      rw [rz, if_pos hne1]
      have s59 := s57.trans s9
      show tDGet (tVar 8) (tVar 6) _ _ _
      refine Sh.v_dget ?_
      walk_at "vx"
      refine ⟨Nn, _, rfl, dgN _ s59, ?_⟩
      show rNe (.int (ixA t ws3 q1.2 : Nat)) (.int (ixA t ws3 q2.2 : Nat)) _ _
      refine Sh.v_neI ?_
      rw [ix_congr (he1.trans he2.symm), decide_eq_true rfl, Bool.not_true]
      walk_at "vx"
      refine Sh.k_ifF ?_
      have d9 := d5.same s59
      walk_at "vx"
      refine Sh.v_ixLm1 (SqL.of (s59 _ _ gZ)) gZm ?_
      walk_at "vx"
      refine Sh.v_ixT (k := 1) (v := .str (Sh.S q2.2)) (SqT.of (s59 _ _ gq2)) rfl rfl ?_
      walk_at "vx"
      refine Sh.v_lenS (Sh.sz_of (by omega)) ?_
      walk_at "vx"
      have hzl0 := List.length_pos_iff.mpr hz
      refine ⟨p, l, _, rfl, d9, by omega, by omega, fun m H10 m0 m1 b10 d10 => ?_⟩
      obtain ⟨mm, rfl⟩ := Int.eq_ofNat_of_zero_le m0
      have hmz : mm < z.length := by omega
      walk_at "vx"
      refine Sh.v_ixS (k := mm) (Sh.sz_of (by omega)) (List.getElem?_eq_getElem hmz) rfl ?_
      walk_at "vx"
      show Sh.rCatX (.str (Sh.S q2.2)) (.str (Sh.S [z[mm]])) _ _
      refine Sh.v_addS (a := q2.2) (b := [z[mm]]) (Sh.sz_of (by show q2.2.length + 1 ≤ _; omega)) ?_
      walk_at "vx"
      have hA10 : AutH H10 A1 ss3 := by
        have h9 := hA5.same s59
        have kp : ∀ {x : Addr} {xs : List V}, H9 x = some (.tup xs) → H10 x = some (.tup xs) := fun {x xs} h => b10 _ _ (fun e => by obtain ⟨_, _, _, _, h1, _⟩ := d9; rw [e, h1] at h; cases h) h
        exact ⟨kp h9.1, fun s hs => by obtain ⟨h1, h2, h3⟩ := h9.2 s hs; exact ⟨kp h1, kp h2, fun q hq => kp (h3 q hq)⟩⟩
      refine ⟨A1, ss3, q2.2 ++ [z[mm]], rfl, hA10, by rw [List.length_append]; show q2.2.length + 1 ≤ _; omega, hsne, by omega, hwb, fun H11 s11 => ?_⟩
      rw [rz]
      have hoc : Sh.Occ t (q2.2 ++ [z[mm]]) ↔ En t (q2.2 ++ [z[mm]]) ≠ [] := occ_infix.trans en_infix.symm
      generalize q2.2 ++ [z[mm]] = other at hoc ⊢
      walk_at "vx"
      refine Sh.v_ninS ?_
      refine Sh.v_neB ?_
      have hEq : ∀ i : Decidable (Sh.Occ t other), (!decide ((decide ((match (if En t other ≠ [] then some (ixA t ws3 other) else none) with | some i => (i : Int) | none => -1) = 0 - 1)) = !@decide _ i)) = false := fun i => by
        rw [@Sh.dec_iff _ _ i _ hoc]
        by_cases h : En t other = []
        · rw [if_neg (fun h2 => h2 h)]; simp [h]
        · rw [if_pos h]
          have h9 : ¬ ((ixA t ws3 other : Nat) : Int) = 0 - 1 := by omega
          simp only [h9, decide_false]
          simp [h]
      rw [hEq]
      walk_at "vx"
      refine Sh.k_ifF ?_
      walk_at "vx"
      exact ⟨_, _, _, _, rfl, fun b o hb e => s11 _ _ (b10 _ _ hb (s59 _ _ (s23 _ _ (b3 _ _ hb e)))), d10.same s11⟩
    --END
    rintro σ H9 ⟨y6, y11, y17, y18, rfl, b9, d9⟩
    refine ⟨b9 _ _ hDp hF, ?_⟩
    have hF9 := b9 _ _ hDp hF
    have n9 := NT.setF (o := .dT (kvT gV gs)) hF9
    have hT9 := n9.tabs (tabs_but d8 b9 hT8)
    have dX := n9.dr d9
    have hAX : AutH (upd H9 D (.dT (kvT gV gs))) A1 ss3 := by
      have kp : ∀ {x : Addr} {xs : List V}, H8 x = some (.tup xs) → upd H9 D (.dT (kvT gV gs)) x = some (.tup xs) := fun {x xs} h => n9 _ _ (b9 _ _ (fun e => by obtain ⟨_, _, _, _, h1, _⟩ := d8; rw [e, h1] at h; cases h) h) nd_tup
      exact ⟨kp hA8.1, fun s hs => by obtain ⟨h1, h2, h3⟩ := hA8.2 s hs; exact ⟨kp h1, kp h2, fun q hq => kp (h3 q hq)⟩⟩
    clear n9 hF9 b9 d9 hT8 d8 hA8 hg8 hF n8 hN8 hG4 hN4 hA4 hT4 d4
    generalize upd H9 D (.dT (kvT gV gs)) = HX at hT9 dX hAX ⊢
    have habd := all_bounds hall3 hst (by omega)
    walk_at "vx"
    refine Sh.v_or ?_
    walk_at "vx"
    refine ⟨A1, ss3, _, rfl, hAX, by unfold Sh.Sm; omega, by omega, habd, fun _ HY sY => ?_, fun s h0 => absurd h0 (by omega)⟩
    walk_at "vx"
    refine ⟨rfl, ?_⟩
    rw [decide_eq_true rfl, Bool.not_true]
    walk_at "vx"
    refine Sh.k_ifF ?_
    walk_at "vx"
    refine Sh.v_lenT (SqT.of (sY _ _ hAX.1)) ?_
    rw [List.length_map]
    walk_at "vx"
    refine ⟨A1, ss3, _, rfl, hAX.same sY, by unfold Sh.Sm; omega, by omega, habd, fun _ HZ sZ => ?_, fun s _ hs => by rw [Int.toNat_natCast, List.getElem?_eq_none (Nat.le_refl _)] at hs; cases hs⟩
    walk_at "vx"
    refine ⟨rfl, ?_⟩
    rw [decide_eq_true rfl, Bool.not_true]
    walk_at "vx"
    refine Sh.k_ifF ?_
    have hT10 := (hT9.ext sY).ext sZ
    have d10 := (dX.same sY).same sZ
    walk_at "vx"
    rw [show (Str.ofString "a") = Sh.S [97] from rfl]
    refine Sh.v_mulS (n := 61) rfl (by omega) (Sh.sz_of (by decide)) ?_
    walk_at "vx"
    have hrl : ∀ n, (Sh.repL n [97]).length = n := fun n => by rw [Sh.repL_len]; simp
    refine ⟨Sh.repL 61 [97], rfl, by rw [hrl]; omega, hT10, fun HU e1 hTU => ?_⟩
    rw [hrl, decide_eq_true (by omega)]
    walk_at "vx"
    refine Sh.k_ifT ?_
    have dU : Sh.Dr HU p l := by
      obtain ⟨n1, n2, n3, n4, h1, h2, h3⟩ := d10
      exact ⟨n1, n2, n3, n4, e1 _ _ h1 (fun _ e => by cases e), e1 _ _ h2 (fun _ e => by cases e), h3⟩
    walk_at "vx"
    refine ⟨p, l, 8, rfl, dU, by decide, by decide, fun m HV m0 m1 bV dV => ?_⟩
    obtain ⟨mm, rfl⟩ := Int.eq_ofNat_of_zero_le m0
    have hTV := tabs_but dU bV hTU
    walk_at "vx"
    refine Sh.v_mulS (n := 1 + mm) (by omega) (by omega) (Sh.sz_of (by show 1 * (1 + mm) ≤ _; omega)) ?_
    walk_at "vx"
    refine ⟨Sh.repL (1 + mm) [97], rfl, by rw [hrl]; omega, hTV, fun HW e2 hTW => ?_⟩
    rw [hrl, decide_eq_false (by omega)]
    walk_at "vx"
    exact q _
end
theorem all_mk {l : PySem.W.OpenLaw} {w : World} {K : PySem.W.Frag} {h : Heap} {mg : Str → Option Value} {fa f1 f2 f3 f4 f5 f6 f7 f8 f9 f10 f11 f12 f13 f14 f15 f16 f17 f18 C_RangeError C_TooLarge : Addr} (X : K.In h) (G : h.Ns mainGlobals mg) (hfa : mg "law" = some (.ref fa))
    {od1 an1 od2 an2 od3 an3 od4 an4 od5 an5 od6 an6 od7 an7 od8 an8 od9 an9 od10 an10 od11 an11 od12 an12 od13 an13 od14 an14 od15 an15 od16 an16 od17 an17 od18 an18 : Option Addr} {sl1 sl2 sl3 sl4 sl5 sl6 sl7 sl8 sl9 sl10 sl11 sl12 sl13 sl14 sl15 sl16 sl17 sl18 : Array (Option Value)} {oc1 kV1 dc1 pm1 cd1 ct1 oc2 kV2 dc2 pm2 cd2 ct2 oc3 kV3 dc3 pm3 cd3 ct3 oc4 kV4 dc4 pm4 cd4 ct4 oc5 kV5 dc5 pm5 cd5 ct5 oc6 kV6 dc6 pm6 cd6 ct6 oc7 kV7 dc7 pm7 cd7 ct7 oc8 kV8 dc8 pm8 cd8 ct8 oc9 kV9 dc9 pm9 cd9 ct9 oc10 kV10 dc10 pm10 cd10 ct10 oc11 kV11 dc11 pm11 cd11 ct11 oc12 kV12 dc12 pm12 cd12 ct12 oc13 kV13 dc13 pm13 cd13 ct13 oc14 kV14 dc14 pm14 cd14 ct14 oc15 kV15 dc15 pm15 cd15 ct15 oc16 kV16 dc16 pm16 cd16 ct16 oc17 kV17 dc17 pm17 cd17 ct17 oc18 kV18 dc18 pm18 cd18 ct18 : Value}
    (a1 : PySem.W.nsIn K mainGlobals "ends_of_words" = some (some (.ref f1))) (l1 : K.lookup f1 = some ⟨oc1, od1, .func (PySem.W.fnOf "ends_of_words" "ends_of_words" (defArgs s_ends_of_words) (defBody s_ends_of_words) (defScope s_ends_of_words) .none kV1 dc1 pm1 an1 cd1 ct1), sl1⟩) (c1 : PySem.W.codeIn K cd1 "ends_of_words" = true) (k1 : PySem.W.keepIn K (.ref f1) = true)
    (a2 : PySem.W.nsIn K mainGlobals "longest_by_ends" = some (some (.ref f2))) (l2 : K.lookup f2 = some ⟨oc2, od2, .func (PySem.W.fnOf "longest_by_ends" "longest_by_ends" (defArgs s_longest_by_ends) (defBody s_longest_by_ends) (defScope s_longest_by_ends) .none kV2 dc2 pm2 an2 cd2 ct2), sl2⟩) (c2 : PySem.W.codeIn K cd2 "longest_by_ends" = true) (k2 : PySem.W.keepIn K (.ref f2) = true)
    (a3 : PySem.W.nsIn K mainGlobals "longest_unlike" = some (some (.ref f3))) (l3 : K.lookup f3 = some ⟨oc3, od3, .func (PySem.W.fnOf "longest_unlike" "longest_unlike" (defArgs s_longest_unlike) (defBody s_longest_unlike) (defScope s_longest_unlike) .none kV3 dc3 pm3 an3 cd3 ct3), sl3⟩) (c3 : PySem.W.codeIn K cd3 "longest_unlike" = true) (k3 : PySem.W.keepIn K (.ref f3) = true)
    (a4 : PySem.W.nsIn K mainGlobals "run_word" = some (some (.ref f4))) (l4 : K.lookup f4 = some ⟨oc4, od4, .func (PySem.W.fnOf "run_word" "run_word" (defArgs s_run_word) (defBody s_run_word) (defScope s_run_word) .none kV4 dc4 pm4 an4 cd4 ct4), sl4⟩) (c4 : PySem.W.codeIn K cd4 "run_word" = true) (k4 : PySem.W.keepIn K (.ref f4) = true)
    (a5 : PySem.W.nsIn K mainGlobals "shortest_of" = some (some (.ref f5))) (l5 : K.lookup f5 = some ⟨oc5, od5, .func (PySem.W.fnOf "shortest_of" "shortest_of" (defArgs s_shortest_of) (defBody s_shortest_of) (defScope s_shortest_of) .none kV5 dc5 pm5 an5 cd5 ct5), sl5⟩) (c5 : PySem.W.codeIn K cd5 "shortest_of" = true) (k5 : PySem.W.keepIn K (.ref f5) = true)
    (a6 : PySem.W.nsIn K mainGlobals "_law_begin" = some (some (.ref f6))) (l6 : K.lookup f6 = some ⟨oc6, od6, .func (PySem.W.fnOf "_law_begin" "_law_begin" (defArgs s_l_begin) (defBody s_l_begin) (defScope s_l_begin) .none kV6 dc6 pm6 an6 cd6 ct6), sl6⟩) (c6 : PySem.W.codeIn K cd6 "_law_begin" = true) (k6 : PySem.W.keepIn K (.ref f6) = true)
    (a7 : PySem.W.nsIn K mainGlobals "_law_take" = some (some (.ref f7))) (l7 : K.lookup f7 = some ⟨oc7, od7, .func (PySem.W.fnOf "_law_take" "_law_take" (defArgs s_l_take) (defBody s_l_take) (defScope s_l_take) .none kV7 dc7 pm7 an7 cd7 ct7), sl7⟩) (c7 : PySem.W.codeIn K cd7 "_law_take" = true) (k7 : PySem.W.keepIn K (.ref f7) = true)
    (a8 : PySem.W.nsIn K mainGlobals "_law_letters" = some (some (.ref f8))) (l8 : K.lookup f8 = some ⟨oc8, od8, .func (PySem.W.fnOf "_law_letters" "_law_letters" (defArgs s_l_letters) (defBody s_l_letters) (defScope s_l_letters) .none kV8 dc8 pm8 an8 cd8 ct8), sl8⟩) (c8 : PySem.W.codeIn K cd8 "_law_letters" = true) (k8 : PySem.W.keepIn K (.ref f8) = true)
    (a9 : PySem.W.nsIn K mainGlobals "_law_ends" = some (some (.ref f9))) (l9 : K.lookup f9 = some ⟨oc9, od9, .func (PySem.W.fnOf "_law_ends" "_law_ends" (defArgs s_l_ends) (defBody s_l_ends) (defScope s_l_ends) .none kV9 dc9 pm9 an9 cd9 ct9), sl9⟩) (c9 : PySem.W.codeIn K cd9 "_law_ends" = true) (k9 : PySem.W.keepIn K (.ref f9) = true)
    (a10 : PySem.W.nsIn K mainGlobals "state_of" = some (some (.ref f10))) (l10 : K.lookup f10 = some ⟨oc10, od10, .func (PySem.W.fnOf "state_of" "state_of" (defArgs s_state_of) (defBody s_state_of) (defScope s_state_of) .none kV10 dc10 pm10 an10 cd10 ct10), sl10⟩) (c10 : PySem.W.codeIn K cd10 "state_of" = true) (k10 : PySem.W.keepIn K (.ref f10) = true)
    (a11 : PySem.W.nsIn K mainGlobals "_law_signs" = some (some (.ref f11))) (l11 : K.lookup f11 = some ⟨oc11, od11, .func (PySem.W.fnOf "_law_signs" "_law_signs" (defArgs s_l_signs) (defBody s_l_signs) (defScope s_l_signs) .none kV11 dc11 pm11 an11 cd11 ct11), sl11⟩) (c11 : PySem.W.codeIn K cd11 "_law_signs" = true) (k11 : PySem.W.keepIn K (.ref f11) = true)
    (a12 : PySem.W.nsIn K mainGlobals "_law_text" = some (some (.ref f12))) (l12 : K.lookup f12 = some ⟨oc12, od12, .func (PySem.W.fnOf "_law_text" "_law_text" (defArgs s_l_text) (defBody s_l_text) (defScope s_l_text) .none kV12 dc12 pm12 an12 cd12 ct12), sl12⟩) (c12 : PySem.W.codeIn K cd12 "_law_text" = true) (k12 : PySem.W.keepIn K (.ref f12) = true)
    (a13 : PySem.W.nsIn K mainGlobals "_law_groups" = some (some (.ref f13))) (l13 : K.lookup f13 = some ⟨oc13, od13, .func (PySem.W.fnOf "_law_groups" "_law_groups" (defArgs s_l_groups) (defBody s_l_groups) (defScope s_l_groups) .none kV13 dc13 pm13 an13 cd13 ct13), sl13⟩) (c13 : PySem.W.codeIn K cd13 "_law_groups" = true) (k13 : PySem.W.keepIn K (.ref f13) = true)
    (a14 : PySem.W.nsIn K mainGlobals "_law_short" = some (some (.ref f14))) (l14 : K.lookup f14 = some ⟨oc14, od14, .func (PySem.W.fnOf "_law_short" "_law_short" (defArgs s_l_short) (defBody s_l_short) (defScope s_l_short) .none kV14 dc14 pm14 an14 cd14 ct14), sl14⟩) (c14 : PySem.W.codeIn K cd14 "_law_short" = true) (k14 : PySem.W.keepIn K (.ref f14) = true)
    (a15 : PySem.W.nsIn K mainGlobals "_law_rich" = some (some (.ref f15))) (l15 : K.lookup f15 = some ⟨oc15, od15, .func (PySem.W.fnOf "_law_rich" "_law_rich" (defArgs s_l_rich) (defBody s_l_rich) (defScope s_l_rich) .none kV15 dc15 pm15 an15 cd15 ct15), sl15⟩) (c15 : PySem.W.codeIn K cd15 "_law_rich" = true) (k15 : PySem.W.keepIn K (.ref f15) = true)
    (a16 : PySem.W.nsIn K mainGlobals "word_automaton" = some (some (.ref f16))) (l16 : K.lookup f16 = some ⟨oc16, od16, .func (PySem.W.fnOf "word_automaton" "word_automaton" (defArgs s_word_automaton) (defBody s_word_automaton) (defScope s_word_automaton) .none kV16 dc16 pm16 an16 cd16 ct16), sl16⟩) (c16 : PySem.W.codeIn K cd16 "word_automaton" = true) (k16 : PySem.W.keepIn K (.ref f16) = true)
    (a17 : PySem.W.nsIn K mainGlobals "_law_large" = some (some (.ref f17))) (l17 : K.lookup f17 = some ⟨oc17, od17, .func (PySem.W.fnOf "_law_large" "_law_large" (defArgs s_l_large) (defBody s_l_large) (defScope s_l_large) .none kV17 dc17 pm17 an17 cd17 ct17), sl17⟩) (c17 : PySem.W.codeIn K cd17 "_law_large" = true) (k17 : PySem.W.keepIn K (.ref f17) = true)
    (a18 : PySem.W.nsIn K mainGlobals "law" = some (some (.ref f18))) (l18 : K.lookup f18 = some ⟨oc18, od18, .func (PySem.W.fnOf "law" "law" (defArgs s_law) (defBody s_law) (defScope s_law) .none kV18 dc18 pm18 an18 cd18 ct18), sl18⟩) (c18 : PySem.W.codeIn K cd18 "law" = true) (k18 : PySem.W.keepIn K (.ref f18) = true)
    (z1 : PySem.W.nsIn K mainGlobals "abs" = some none)
    (z2 : PySem.W.nsIn K mainGlobals "enumerate" = some none)
    (z3 : PySem.W.nsIn K mainGlobals "int" = some none)
    (z4 : PySem.W.nsIn K mainGlobals "len" = some none)
    (z5 : PySem.W.nsIn K mainGlobals "list" = some none)
    (z6 : PySem.W.nsIn K mainGlobals "max" = some none)
    (z7 : PySem.W.nsIn K mainGlobals "range" = some none)
    (z8 : PySem.W.nsIn K mainGlobals "set" = some none)
    (z9 : PySem.W.nsIn K mainGlobals "sorted" = some none)
    (z10 : PySem.W.nsIn K mainGlobals "tuple" = some none)
    {tk1 : Tok} (g1 : PySem.W.nsIn K mainGlobals "LETTER_LIMIT" = some (some (.int 60 tk1)))
    (xa_RangeError : PySem.W.nsIn K mainGlobals "RangeError" = some (some (.ref C_RangeError))) (xk_RangeError : PySem.W.keepIn K (.ref C_RangeError) = true) (xe_RangeError : PySem.W.excIn K C_RangeError [.type "ValueError", .type "Exception", .type "BaseException", .type "object"] "ValueError.__new__" = true) (xb_RangeError : PySem.W.subIn K (.ref C_RangeError) (.type "BaseException") = some true) (xt_RangeError : PySem.W.typeIn K (.ref C_RangeError) = some (.type "type")) (xi_RangeError : PySem.W.isClsIn K C_RangeError = true)
    (xa_TooLarge : PySem.W.nsIn K mainGlobals "TooLarge" = some (some (.ref C_TooLarge))) (xk_TooLarge : PySem.W.keepIn K (.ref C_TooLarge) = true) (xe_TooLarge : PySem.W.excIn K C_TooLarge [.type "ValueError", .type "Exception", .type "BaseException", .type "object"] "ValueError.__new__" = true) (xb_TooLarge : PySem.W.subIn K (.ref C_TooLarge) (.type "BaseException") = some true) (xt_TooLarge : PySem.W.typeIn K (.ref C_TooLarge) = some (.type "type")) (xi_TooLarge : PySem.W.isClsIn K C_TooLarge = true)
    (xs_RangeError_RangeError : PySem.W.subIn K (.ref C_RangeError) (.ref C_RangeError) = some true)
    (xs_RangeError_TooLarge : PySem.W.subIn K (.ref C_RangeError) (.ref C_TooLarge) = some false)
    (xs_TooLarge_RangeError : PySem.W.subIn K (.ref C_TooLarge) (.ref C_RangeError) = some false)
    (xs_TooLarge_TooLarge : PySem.W.subIn K (.ref C_TooLarge) (.ref C_TooLarge) = some true)
    {cC cT : Addr} (tb1 : PySem.W.tabIn K "word_automaton" = some (cC, cT)) (tb2 : K.lookup cT = none) (tb3 : cd16 = .ref cC)
    (hTab : ∀ c P, PySem.W.tabIn K "word_automaton" = some (c, P) → PySem.W.CodeHd h c P ∧ h.get? P = some (PySem.W.tabObj #[]))
    : LamX.LawAtS l w K CX0 6 63 "script" mg fa h := by
  have e := hfa.symm.trans (PySem.W.mg_of X G a18)
  cases e
  have T : Txt K mg C_RangeError C_TooLarge := ⟨PySem.W.mg_none_of X G z1, PySem.W.mg_none_of X G z2, PySem.W.mg_none_of X G z3, PySem.W.mg_none_of X G z4, PySem.W.mg_none_of X G z5, PySem.W.mg_none_of X G z6, PySem.W.mg_none_of X G z7, PySem.W.mg_none_of X G z8, PySem.W.mg_none_of X G z9, PySem.W.mg_none_of X G z10, ⟨_, PySem.W.mg_of X G g1, ⟨_, rfl⟩⟩, ⟨PySem.W.mg_of X G xa_RangeError, xk_RangeError, xe_RangeError, xb_RangeError, xt_RangeError, xi_RangeError⟩, ⟨PySem.W.mg_of X G xa_TooLarge, xk_TooLarge, xe_TooLarge, xb_TooLarge, xt_TooLarge, xi_TooLarge⟩, Sh.exm_mk xb_RangeError xi_RangeError xt_RangeError xs_RangeError_RangeError, Sh.exm_mk xb_TooLarge xi_TooLarge xt_TooLarge xs_RangeError_TooLarge, Sh.exm_mk xb_RangeError xi_RangeError xt_RangeError xs_TooLarge_RangeError, Sh.exm_mk xb_TooLarge xi_TooLarge xt_TooLarge xs_TooLarge_TooLarge⟩
  have F1 := fun_mk (st := s_ends_of_words) l1 c1 k1
  have b1 := F1.binds (ps := ["text"]) fun _ _ _ _ _ _ us hl => match us, hl with | [_], _ => rfl
  have F2 := fun_mk (st := s_longest_by_ends) l2 c2 k2
  have b2 := F2.binds (ps := ["ends"]) fun _ _ _ _ _ _ us hl => match us, hl with | [_], _ => rfl
  have F3 := fun_mk (st := s_longest_unlike) l3 c3 k3
  have b3 := F3.binds (ps := ["ends", "word"]) fun _ _ _ _ _ _ us hl => match us, hl with | [_, _], _ => rfl
  have F4 := fun_mk (st := s_run_word) l4 c4 k4
  have b4 := F4.binds (ps := ["automaton", "word"]) fun _ _ _ _ _ _ us hl => match us, hl with | [_, _], _ => rfl
  have F5 := fun_mk (st := s_shortest_of) l5 c5 k5
  have b5 := F5.binds (ps := ["automaton", "state"]) fun _ _ _ _ _ _ us hl => match us, hl with | [_, _], _ => rfl
  have F6 := fun_mk (st := s_l_begin) l6 c6 k6
  have b6 := F6.binds (ps := ["script"]) fun _ _ _ _ _ _ us hl => match us, hl with | [_], _ => rfl
  have F7 := fun_mk (st := s_l_take) l7 c7 k7
  have b7 := F7.binds (ps := ["d", "many"]) fun _ _ _ _ _ _ us hl => match us, hl with | [_, _], _ => rfl
  have F8 := fun_mk (st := s_l_letters) l8 c8 k8
  have b8 := F8.binds (ps := []) fun _ _ _ _ _ _ us hl => match us, hl with | [], _ => rfl
  have F9 := fun_mk (st := s_l_ends) l9 c9 k9
  have b9 := F9.binds (ps := ["text", "word"]) fun _ _ _ _ _ _ us hl => match us, hl with | [_, _], _ => rfl
  have F10 := fun_mk (st := s_state_of) l10 c10 k10
  have b10 := F10.binds (ps := ["word", "ends", "state_by_ends", "letters"]) fun _ _ _ _ _ _ us hl => match us, hl with | [_, _, _, _], _ => rfl
  have F11 := fun_mk (st := s_l_signs) l11 c11 k11
  have b11 := F11.binds (ps := ["d"]) fun _ _ _ _ _ _ us hl => match us, hl with | [_], _ => rfl
  have F12 := fun_mk (st := s_l_text) l12 c12 k12
  have b12 := F12.binds (ps := ["d", "signs", "size"]) fun _ _ _ _ _ _ us hl => match us, hl with | [_, _, _], _ => rfl
  have F13 := fun_mk (st := s_l_groups) l13 c13 k13
  have b13 := F13.binds (ps := ["text"]) fun _ _ _ _ _ _ us hl => match us, hl with | [_], _ => rfl
  have F14 := fun_mk (st := s_l_short) l14 c14 k14
  have b14 := F14.binds (ps := ["automaton", "state"]) fun _ _ _ _ _ _ us hl => match us, hl with | [_, _], _ => rfl
  have F15 := fun_mk (st := s_l_rich) l15 c15 k15
  have b15 := F15.binds (ps := ["d", "signs", "size"]) fun _ _ _ _ _ _ us hl => match us, hl with | [_, _, _], _ => rfl
  have F16 := fun_mk (st := s_word_automaton) l16 c16 k16
  have b16 := F16.binds (ps := ["text"]) fun _ _ _ _ _ _ us hl => match us, hl with | [_], _ => rfl
  have F17 := fun_mk (st := s_l_large) l17 c17 k17
  have b17 := F17.binds (ps := ["text"]) fun _ _ _ _ _ _ us hl => match us, hl with | [_], _ => rfl
  have F18 := fun_mk (st := s_law) l18 c18 k18
  subst tb3
  obtain ⟨tC, tH⟩ := hTab _ _ tb1
  refine ⟨PySem.W.fnOf "law" "law" (defArgs s_law) (defBody s_law) (defScope s_law) .none kV18 dc18 pm18 an18 cd18 ct18, [(cC, cT)], Pr.spLawT K cT, fun p hp => by rw [List.mem_singleton.mp hp]; exact tH, fun p hp => by rw [List.mem_singleton.mp hp]; exact tb2, fun p hp => by rw [List.mem_singleton.mp hp]; exact tC, fun s v => .of_eq rfl, fun H a ns hl _ hT hS => ⟨a, ns, rfl, hS, hl, hT _ List.mem_cons_self, fun _ => rfl⟩, fun base _ _ hTB => ?_⟩
  have TB := hTB _ List.mem_cons_self
  have C_ends_of_words : Sh.C1 l.prog w K mg base 1 "ends_of_words" (spEow) := ⟨f1, _, _, ok_ends_of_words F1 T , PySem.W.mg_of X G a1, k1, b1⟩
  have C_longest_by_ends : Sh.C1 l.prog w K mg base 1 "longest_by_ends" (spLbe) := ⟨f2, _, _, ok_longest_by_ends F2 T , PySem.W.mg_of X G a2, k2, b2⟩
  have C_longest_unlike : Sh.C1 l.prog w K mg base 1 "longest_unlike" (spLun) := ⟨f3, _, _, ok_longest_unlike F3 T , PySem.W.mg_of X G a3, k3, b3⟩
  have C_run_word : Sh.C1 l.prog w K mg base 1 "run_word" (spRw) := ⟨f4, _, _, ok_run_word F4 T , PySem.W.mg_of X G a4, k4, b4⟩
  have C_shortest_of : Sh.C1X l.prog w K mg base 1 "shortest_of" (spSo C_RangeError) := ⟨f5, _, _, ok_shortest_of F5 T , PySem.W.mg_of X G a5, k5, b5⟩
  have C_l_begin : Sh.C1 l.prog w K mg base 1 "_law_begin" (Sh.spBegin K) := ⟨f6, _, _, ok_l_begin F6 T , PySem.W.mg_of X G a6, k6, b6⟩
  have C_l_take : Sh.C1 l.prog w K mg base 1 "_law_take" (Sh.spTake) := ⟨f7, _, _, ok_l_take F7 T , PySem.W.mg_of X G a7, k7, b7⟩
  have C_l_letters : Sh.C1 l.prog w K mg base 1 "_law_letters" (Sh.spLetters) := ⟨f8, _, _, ok_l_letters F8 T , PySem.W.mg_of X G a8, k8, b8⟩
  have C_l_ends : Sh.C1 l.prog w K mg base 1 "_law_ends" (spLe) := ⟨f9, _, _, ok_l_ends F9 T , PySem.W.mg_of X G a9, k9, b9⟩
  have C_state_of : Sh.C1 l.prog w K mg base 2 "state_of" (spSto) := ⟨f10, _, _, ok_state_of F10 T C_longest_unlike, PySem.W.mg_of X G a10, k10, b10⟩
  have C_l_signs : Sh.C1 l.prog w K mg base 2 "_law_signs" (Sh.spSigns) := ⟨f11, _, _, ok_l_signs F11 T C_l_take C_l_letters, PySem.W.mg_of X G a11, k11, b11⟩
  have C_l_text : Sh.C1 l.prog w K mg base 2 "_law_text" (Sh.spText) := ⟨f12, _, _, ok_l_text F12 T C_l_take, PySem.W.mg_of X G a12, k12, b12⟩
  have C_l_groups : Sh.C1 l.prog w K mg base 2 "_law_groups" (spLg) := ⟨f13, _, _, ok_l_groups F13 T C_l_ends, PySem.W.mg_of X G a13, k13, b13⟩
  have C_l_short : Sh.C1 l.prog w K mg base 2 "_law_short" (spSh) := ⟨f14, _, _, ok_l_short F14 T C_shortest_of, PySem.W.mg_of X G a14, k14, b14⟩
  have C_l_rich : Sh.C1 l.prog w K mg base 3 "_law_rich" (Sh.spRich) := ⟨f15, _, _, ok_l_rich F15 T C_l_text C_l_take, PySem.W.mg_of X G a15, k15, b15⟩
  have C_word_automaton : Sh.C1X l.prog w K mg base 4 "word_automaton" (spWa cT C_TooLarge) := ⟨f16, _, _, ok_word_automaton F16 T rfl TB C_ends_of_words C_longest_by_ends C_state_of, PySem.W.mg_of X G a16, k16, b16⟩
  have C_l_large : Sh.C1 l.prog w K mg base 5 "_law_large" (spLl cT) := ⟨f17, _, _, ok_l_large F17 T C_word_automaton, PySem.W.mg_of X G a17, k17, b17⟩
  exact ok_law F18 T C_l_begin C_l_signs C_l_rich C_l_take C_l_groups C_l_ends C_word_automaton C_run_word C_l_short C_l_large
end Pr
open PySem PySem.W PyProof.Rows
set_option maxHeartbeats 0 in
theorem PySem.Challenge.cw_textshards_k46_automata_of_words_holds : PySem.Challenge.rw_textshards_k46_automata_of_words.Holds := by
  w_on; o_law; k_head; (case hw => w_witness2)
  k_fill
  refine Sh.walk_tab (l := PySem.Challenge.rw_textshards_k46_automata_of_words) (n := 63) (k := 6) (x := "script") (xs := "word_automaton") (CX := fun _ => L2.CX0) rfl (by decide) rfl ⟨rfl, by decide, by decide⟩ (fun w h Y => PySem.W.km_in_of Y) (by decide +kernel) ?F (fun _ _ _ _ _ h => h)
  case F =>
    intro w mg fa h KX G hmg hTab
    refine' Pr.all_mk KX G hmg ?a1 ?l1 ?c1 ?k1 ?a2 ?l2 ?c2 ?k2 ?a3 ?l3 ?c3 ?k3 ?a4 ?l4 ?c4 ?k4 ?a5 ?l5 ?c5 ?k5 ?a6 ?l6 ?c6 ?k6 ?a7 ?l7 ?c7 ?k7 ?a8 ?l8 ?c8 ?k8 ?a9 ?l9 ?c9 ?k9 ?a10 ?l10 ?c10 ?k10 ?a11 ?l11 ?c11 ?k11 ?a12 ?l12 ?c12 ?k12 ?a13 ?l13 ?c13 ?k13 ?a14 ?l14 ?c14 ?k14 ?a15 ?l15 ?c15 ?k15 ?a16 ?l16 ?c16 ?k16 ?a17 ?l17 ?c17 ?k17 ?a18 ?l18 ?c18 ?k18 ?z1 ?z2 ?z3 ?z4 ?z5 ?z6 ?z7 ?z8 ?z9 ?z10 ?g1 ?xa_RangeError ?xk_RangeError ?xe_RangeError ?xb_RangeError ?xt_RangeError ?xi_RangeError ?xa_TooLarge ?xk_TooLarge ?xe_TooLarge ?xb_TooLarge ?xt_TooLarge ?xi_TooLarge ?xs_RangeError_RangeError ?xs_RangeError_TooLarge ?xs_TooLarge_RangeError ?xs_TooLarge_TooLarge ?tb1 ?tb2 ?tb3 hTab
    (case a1 => k_is)
    (case l1 => k_is)
    (case c1 => k_is)
    (case k1 => k_is)
    (case a2 => k_is)
    (case l2 => k_is)
    (case c2 => k_is)
    (case k2 => k_is)
    (case a3 => k_is)
    (case l3 => k_is)
    (case c3 => k_is)
    (case k3 => k_is)
    (case a4 => k_is)
    (case l4 => k_is)
    (case c4 => k_is)
    (case k4 => k_is)
    (case a5 => k_is)
    (case l5 => k_is)
    (case c5 => k_is)
    (case k5 => k_is)
    (case a6 => k_is)
    (case l6 => k_is)
    (case c6 => k_is)
    (case k6 => k_is)
    (case a7 => k_is)
    (case l7 => k_is)
    (case c7 => k_is)
    (case k7 => k_is)
    (case a8 => k_is)
    (case l8 => k_is)
    (case c8 => k_is)
    (case k8 => k_is)
    (case a9 => k_is)
    (case l9 => k_is)
    (case c9 => k_is)
    (case k9 => k_is)
    (case a10 => k_is)
    (case l10 => k_is)
    (case c10 => k_is)
    (case k10 => k_is)
    (case a11 => k_is)
    (case l11 => k_is)
    (case c11 => k_is)
    (case k11 => k_is)
    (case a12 => k_is)
    (case l12 => k_is)
    (case c12 => k_is)
    (case k12 => k_is)
    (case a13 => k_is)
    (case l13 => k_is)
    (case c13 => k_is)
    (case k13 => k_is)
    (case a14 => k_is)
    (case l14 => k_is)
    (case c14 => k_is)
    (case k14 => k_is)
    (case a15 => k_is)
    (case l15 => k_is)
    (case c15 => k_is)
    (case k15 => k_is)
    (case a16 => k_is)
    (case l16 => k_is)
    (case c16 => k_is)
    (case k16 => k_is)
    (case a17 => k_is)
    (case l17 => k_is)
    (case c17 => k_is)
    (case k17 => k_is)
    (case a18 => k_is)
    (case l18 => k_is)
    (case c18 => k_is)
    (case k18 => k_is)
    (case z1 => k_is)
    (case z2 => k_is)
    (case z3 => k_is)
    (case z4 => k_is)
    (case z5 => k_is)
    (case z6 => k_is)
    (case z7 => k_is)
    (case z8 => k_is)
    (case z9 => k_is)
    (case z10 => k_is)
    (case g1 => k_is)
    (case xa_RangeError => k_is)
    (case xk_RangeError => k_is)
    (case xe_RangeError => k_exc)
    (case xb_RangeError => k_is)
    (case xt_RangeError => k_is)
    (case xi_RangeError => k_is)
    (case xa_TooLarge => k_is)
    (case xk_TooLarge => k_is)
    (case xe_TooLarge => k_exc)
    (case xb_TooLarge => k_is)
    (case xt_TooLarge => k_is)
    (case xi_TooLarge => k_is)
    (case xs_RangeError_RangeError => first | rfl | k_is)
    (case xs_RangeError_TooLarge => first | rfl | k_is)
    (case xs_TooLarge_RangeError => first | rfl | k_is)
    (case xs_TooLarge_TooLarge => first | rfl | k_is)
    (case tb3 => rfl)
    (case tb1 => rfl)
    (case tb2 => rfl)
