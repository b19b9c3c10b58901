import PyProof.Rows.All
import Wide.All
import OpenK.AllK
import Wide.FinOn
import HandS.ForMost
import HandS.IsInst
import HandS.Style
import HandS.Wide
import HandS.Codes
import HandS.NoneIn
import HandS.Defaults
import HandS.TupMul
import HandS.Zip
import HandS.SetFor
import HandS.SetKeys
import HandS.Walk
import HandS.Codes
import HandS.ForExc
import HandS.CallSlots
import HandS.ExcIs
import HandS.SetBool
import HandS.Strs
import HandS.More
import HandS.Deep
import KE.GoesEnum
import PySem.Challenge.RW_segmentfs_k61_handles_by_a_list
set_option Elab.async false
set_option maxRecDepth 100000
set_option maxHeartbeats 4000000
/-! what every text of mine begins with: heaps that grow, and a rule for each head that a reading has -/
namespace Sg
open PySem L2
theorem sz : sizeLine = 16777216 := by decide
theorem Same.of_new {H H' : Hp} {p : Addr} {o : HO} (e : upd H p o = H') (h : H p = none) : Same H H' := fun b u q => by
  rw [← e, upd_ne (ne_of_none q h)]; exact q
theorem at_new {H H' : Hp} {p : Addr} {o : HO} (e : upd H p o = H') : H' p = some o := by rw [← e]; exact upd_same
theorem Same.tup {K : PySem.W.Frag} {H H' : Hp} {a : Addr} {xs : List V} (e : Same H H') (h : SqT K H a xs) : SqT K H' a xs := by
  rcases h with (h | ⟨o, h⟩) | h
  · exact .inl (.inl (e _ _ h))
  · exact .inl (.inr ⟨o, e _ _ h⟩)
  · exact .inr h
/-- an object that is younger than H0 is changed -/
theorem Same.old {H0 H H' : Hp} {p : Addr} {o : HO} (s : Same H0 H) (h : H0 p = none) (e : upd H p o = H') : Same H0 H' := fun b u q => by
  rw [← e, upd_ne (ne_of_none q h)]; exact s _ _ q
theorem at_keep {H H' : Hp} {l a : Addr} {o o' ol : HO} (e : upd H l o' = H') (h : H a = some o) (h' : H l = some ol) (d : o ≠ ol) : H' a = some o := by
  rw [← e, upd_ne (ne_of h h' d)]; exact h
theorem lk_eq {f : Str} {v : V} {fs : List (Str × V)} : (putF f v fs).lookup f = some v := by rw [lookup_putF, if_pos rfl]
theorem lk_ne {f g : Str} {v x : V} {fs : List (Str × V)} (h : ¬ g = f) (q : fs.lookup g = some v) : (putF f x fs).lookup g = some v := by rw [lookup_putF, if_neg h]; exact q
theorem lk_no {f g : Str} {x : V} {fs : List (Str × V)} (h : ¬ g = f) (q : fs.lookup g = none) : (putF f x fs).lookup g = none := by rw [lookup_putF, if_neg h]; exact q
theorem putF_len {f : Str} {v : V} : ∀ {fs : List (Str × V)} {n : Nat}, fs.length ≤ n → (putF f v fs).length ≤ n + 1
  | [], n, _ => by simp [putF]
  | (g, x) :: r, n, h => by
    unfold putF
    split
    · simp at h ⊢; omega
    · cases n with
      | zero => simp at h
      | succ n =>
        simp at h ⊢
        exact putF_len h
theorem to_ite {A B : Prop} {b : Bool} (h1 : b = true → A) (h2 : b = false → B) : if b = true then A else B := by
  cases b with
  | true => exact iteT (h1 rfl)
  | false => exact iteF (h2 rfl)
theorem iteT' {A B : Prop} (h : A) : if (true : Bool) = true then A else B := iteT h
theorem iteF' {A B : Prop} (h : B) : if (false : Bool) = true then A else B := iteF h
theorem r_iteb {A B : Prop} {b : Bool} (hb : b = true) (h : A) : if b = true then A else B := to_ite (fun _ => h) fun z => by rw [hb] at z; cases z
theorem r_iteB {A B : Prop} {b : Bool} (hb : b = false) (h : B) : if b = true then A else B := to_ite (fun z => by rw [hb] at z; cases z) fun _ => h
theorem r_ite {A B c : Prop} [Decidable c] (h1 : c → A) (h2 : ¬ c → B) : if decide c = true then A else B :=
  to_ite (fun h => h1 (of_decide_eq_true h)) (fun h => h2 (of_decide_eq_false h))
theorem r_iteN {A B c : Prop} [Decidable c] (h1 : ¬ c → A) (h2 : c → B) : if (!decide c) = true then A else B :=
  to_ite (fun h => h1 (by simpa using h)) (fun h => h2 (by simpa using h))
theorem r_iteD {A B c : Prop} [Decidable c] (hc : c) (h : A) : if decide c = true then A else B := r_ite (fun _ => h) fun z => absurd hc z
theorem r_iteDn {A B c : Prop} [Decidable c] (hc : ¬ c) (h : B) : if decide c = true then A else B := r_ite (fun z => absurd z hc) fun _ => h
theorem r_iteND {A B c : Prop} [Decidable c] (hc : ¬ c) (h : A) : if (!decide c) = true then A else B := r_iteN (fun _ => h) fun z => absurd z hc
theorem r_iteNDn {A B c : Prop} [Decidable c] (hc : c) (h : B) : if (!decide c) = true then A else B := r_iteN (fun z => absurd hc z) fun _ => h
/-- the continuations of a reading, by name -/
def kTest (QB : Bool → Hp → Prop) : V → Hp → Prop := fun x H => ∃ k, x = .bl k ∧ QB k H
def kFld (K : PySem.W.Frag) (f : Str) (Q : V → Hp → Prop) : V → Hp → Prop := fun x H => ∃ a C dx fs v, x = .ref a ∧ H a = some (.ins C dx fs) ∧ Cls K C ∧ NoAttr K C f ∧ fs.lookup f = some v ∧ Q v H
def kSfld (K : PySem.W.Frag) (D : Ends) (σ : L2.St) (f : Str) (y : V) : V → Hp → Prop := fun x H => ∃ a C dx fs, x = .ref a ∧ H a = some (.ins C dx fs) ∧ Cls K C ∧ NoAttr K C f ∧ fs.length < 1000 ∧
  D.nx σ (upd H a (.ins C dx (putF f y fs)))
def kMeth (C : Addr) (m : Str) (sp : Sp) (dvs : List V) (E : XK) (σ : L2.St) (t : TA) (Q : V → Hp → Prop) : V → Hp → Prop := fun x H => ∃ a dx fs, x = .ref a ∧ H a = some (.ins C dx fs) ∧ fs.lookup m = none ∧ t σ H fun vs H2 => sp (x :: (vs ++ dvs)) H2 Q E
def kTup (Q : V → Hp → Prop) : List V → Hp → Prop := fun xs H => xs.length ≤ sizeLine ∧ ∀ p, H p = none → Q (.ref p) (upd H p (.tup xs))
def kLst (Q : V → Hp → Prop) : List V → Hp → Prop := fun xs H => xs.length ≤ sizeLine ∧ ∀ p, H p = none → Q (.ref p) (upd H p (.lst xs))
def rLen (K : PySem.W.Frag) : List V → Hp → (V → Hp → Prop) → Prop := fun xs H Q => ∃ p ys, xs = [.ref p] ∧ (SqL K H p ys ∨ SqT K H p ys) ∧ Q (.int ys.length) H
theorem c_len {X : Cx} : CallR X (.builtin "len") (rLen X.K) := call_len_seq
def rInt : List V → Hp → (V → Hp → Prop) → Prop := fun xs H Q => (∃ i, xs = [.int i] ∧ Q (.int i) H) ∨ ∃ k, xs = [.bl k] ∧ Q (.int (if k then 1 else 0)) H
theorem c_int {X : Cx} : CallR X (.type "int") rInt := call_int1
def rListOf (K : PySem.W.Frag) : List V → Hp → (V → Hp → Prop) → Prop := fun xs H Q => ∃ p ys, xs = [.ref p] ∧ (SqL K H p ys ∨ SqT K H p ys) ∧ ∀ l, H l = none → Q (.ref l) (upd H l (.lst ys))
theorem c_list {X : Cx} : CallR X (.type "list") (rListOf X.K) := call_list_of
def rTupOf (K : PySem.W.Frag) : List V → Hp → (V → Hp → Prop) → Prop := fun xs H Q => ∃ p ys, xs = [.ref p] ∧ ((SqL K H p ys ∧ ∀ l, H l = none → Q (.ref l) (upd H l (.tup ys))) ∨ (SqT K H p ys ∧ Q (.ref p) H))
theorem c_tuple {X : Cx} : CallR X (.type "tuple") (rTupOf X.K) := call_tuple_of
/-! the same rules within a comprehension: the written part by its own name -/
section
variable {X : Cx}
theorem c_listK (K : PySem.W.Frag) (h : X.K = K) : CallR X (.type "list") (rListOf K) := by subst h; exact c_list
theorem c_tupleK (K : PySem.W.Frag) (h : X.K = K) : CallR X (.type "tuple") (rTupOf K) := by subst h; exact c_tuple
theorem c_lenK (K : PySem.W.Frag) (h : X.K = K) : CallR X (.builtin "len") (rLen K) := by subst h; exact c_len
theorem ix_listK (K : PySem.W.Frag) (h : X.K = K) : IxR X (rIxL K) := by subst h; exact ix_list
theorem ix_tupK (K : PySem.W.Frag) (h : X.K = K) : IxR X (rIxT K) := by subst h; exact ix_tup
theorem op_in_seqK (K : PySem.W.Frag) (h : X.K = K) : OpR X (compareOp .In) (rIn K false) := by subst h; exact op_in_seq
theorem op_notIn_seqK (K : PySem.W.Frag) (h : X.K = K) : OpR X (compareOp .NotIn) (rIn K true) := by subst h; exact op_notIn_seq
theorem pe_fldK (K : PySem.W.Frag) (h : X.K = K) {e : Expr} {f : Str} {pos : Pos} {ta : TE} (he : PE X e ta) (hb : attributeBase e f X.env (eval e X.env) = eval e X.env) : PE X (.Attribute e f pos) (tFld K ta f) := by subst h; exact pe_fld he hb
end
section
variable {σ : L2.St} {H : Hp} {D : Ends} {t u : TS} {te ta tb tc : TE} {g : TG} {c ct cu : TT} {Q : VK} {QB : Bool → Hp → Prop} {QS : L2.St → Hp → Prop} {QA : List V → Hp → Prop} {v x y : V} {K : PySem.W.Frag} {a p l : Addr} {xs ys : List V} {i j : Int} {b : Bool}
theorem r_seq (h : t { D with nx := u D } σ H) : tSeq t u D σ H := h
theorem r_cut (Mid : L2.St → Hp → Prop) (h1 : t { D with nx := Mid } σ H) (h2 : ∀ σ' H', Mid σ' H' → u D σ' H') : C8.tCut t u D σ H := ⟨Mid, h1, h2⟩
/-- a test with nothing kept behind it -/
theorem r_cutS (h1 : t { D with nx := fun σ' H' => σ = σ' ∧ H = H' } σ H) (h2 : u D σ H) : C8.tCut t u D σ H := ⟨_, h1, fun _ _ ⟨e1, e2⟩ => by subst e1; subst e2; exact h2⟩
/-- .. but a heap that grew -/
theorem r_cutH (h1 : t { D with nx := fun σ' H' => σ = σ' ∧ L2.Same H H' } σ H) (h2 : ∀ H', L2.Same H H' → u D σ H') : C8.tCut t u D σ H := ⟨_, h1, fun _ _ ⟨e1, e2⟩ => by subst e1; exact h2 _ e2⟩
theorem r_asg (h : te σ H fun x H1 => g x σ H1 D.nx) : tAsg te g D σ H := h
theorem r_drop (h : te σ H fun _ H1 => D.nx σ H1) : tDrop te D σ H := h
theorem r_ret (h : te σ H D.rt) : tRet te D σ H := h
theorem r_ifs (h : c σ H fun b H1 => if b = true then t D σ H1 else u D σ H1) : tIfS c t u D σ H := h
theorem r_next (h : D.nx σ H) : tNext D σ H := h
theorem r_gname {n : Nat} (h : QS (σ.set n (some v)) H) : gName n v σ H QS := h
theorem r_gtup {n : Nat} {t : TGs} (hx : SqT K H a xs) (hl : xs.length = n) (h : t xs σ H QS) : gTup K n t (.ref a) σ H QS := ⟨a, xs, rfl, hx, hl, h⟩
theorem r_gunl {n : Nat} {t : TGs} (hx : SqL K H a xs) (hl : xs.length = n) (h : t xs σ H QS) : gUnl K n t (.ref a) σ H QS := ⟨a, xs, rfl, hx, hl, h⟩
theorem r_chain {r r' : R2} (h : ta σ H fun x H1 => tb σ H1 fun y H2 => r x y H2 fun z H3 => ∃ k, z = .bl k ∧ (if k = true then tc σ H3 fun w' H4 => r' y w' H4 Q else Q (.bl false) H3)) : tChain r r' ta tb tc σ H Q := h
theorem r_sfldL {C dx : Addr} {fs : List (Str × V)} {f : Str} (h : H a = some (.ins C dx fs)) (hc : Cls K C) (hn : NoAttr K C f) (hl : fs.length < 1000) (q : D.nx σ (upd H a (.ins C dx (putF f y fs)))) : kSfld K D σ f y (.ref a) H := ⟨a, C, dx, fs, rfl, h, hc, hn, hl, q⟩
theorem r_gmap {α : Type} {f : α → V} {y : α} {r : List α} {t : TG} {u : TGs} (h : t (f y) σ H fun σ' H' => u (List.map f r) σ' H' QS) : gCons t u (List.map f (y :: r)) σ H QS := ⟨_, _, rfl, h⟩
theorem r_gmapn {α : Type} {f : α → V} (h : QS σ H) : gNil (List.map f []) σ H QS := ⟨rfl, h⟩
theorem r_gnil (h : QS σ H) : gNil [] σ H QS := ⟨rfl, h⟩
theorem r_gcons {t : TG} {u : TGs} {r : List V} (h : t v σ H fun σ' H' => u r σ' H' QS) : gCons t u (v :: r) σ H QS := ⟨v, r, rfl, h⟩
theorem r_gsub {t : TSet} (h : ta σ H fun o H1 => tb σ H1 fun i H2 => t o i v H2 fun H3 => QS σ H3) : gSub ta tb t v σ H QS := h
theorem r_setl {k : Int} {n : Nat} {R : Hp → Prop} (h1 : H p = some (.lst xs)) (h2 : ixN xs.length k = some n) (q : R (upd H p (.lst (xs.set n v)))) : rSetL (.ref p) (.int k) v H R := ⟨p, xs, k, n, rfl, rfl, h1, h2, q⟩
theorem r_var {n : Nat} (h : σ[n]? = some (some v)) (q : Q v H) : tVar n σ H Q := ⟨v, h, q⟩
theorem r_c (q : Q v H) : tC v σ H Q := q
theorem r_op {r : R2} (h : ta σ H fun x H1 => tb σ H1 fun y H2 => r x y H2 Q) : tOp r ta tb σ H Q := h
theorem r_un {r : V → Hp → VK → Prop} (h : ta σ H fun x H1 => r x H1 Q) : tUn r ta σ H Q := h
theorem r_rI {C : Int → Int → Prop} {g : Int → Int → V} (hc : C i j) (q : Q (g i j) H) : rI C g (.int i) (.int j) H Q := ⟨i, j, rfl, rfl, hc, q⟩
theorem r_mod (hc : 0 < j) (q : ∀ z : Int, z = i % j → 0 ≤ z → z < j → Q (.int z) H) : rI (fun _ j => 0 < j) (fun i j => .int (i % j)) (.int i) (.int j) H Q :=
  ⟨i, j, rfl, rfl, hc, q _ rfl (Int.emod_nonneg i (by omega)) (Int.emod_lt_of_pos i hc)⟩
theorem r_rI0 {g : Int → Int → V} (q : Q (g i j) H) : rI0 g (.int i) (.int j) H Q := ⟨i, j, rfl, rfl, q⟩
theorem r_rU {g : Int → V} (q : Q (g i) H) : rU g (.int i) H Q := ⟨i, rfl, q⟩
theorem r_eq (hs : scal x y = true) (q : Q (.bl (decide (x = y))) H) : rEq x y H Q := ⟨hs, q⟩
theorem r_ne (hs : scal x y = true) (q : Q (.bl (!decide (x = y))) H) : rNe x y H Q := ⟨hs, q⟩
theorem r_eqi (q : Q (.bl (decide (i = j))) H) : rEq (.int i) (.int j) H Q := ⟨rfl, by
  rw [show decide (V.int i = V.int j) = decide (i = j) from by by_cases e : i = j <;> simp [e]]; exact q⟩
theorem r_nei (q : Q (.bl (!decide (i = j))) H) : rNe (.int i) (.int j) H Q := ⟨rfl, by
  rw [show decide (V.int i = V.int j) = decide (i = j) from by by_cases e : i = j <;> simp [e]]; exact q⟩
theorem r_eqs {s t : Str} (q : Q (.bl (decide (s = t))) H) : rEq (.str s) (.str t) H Q := ⟨rfl, by
  rw [show decide (V.str s = V.str t) = decide (s = t) from by by_cases e : s = t <;> simp [e]]; exact q⟩
theorem r_nes {s t : Str} (q : Q (.bl (!decide (s = t))) H) : rNe (.str s) (.str t) H Q := ⟨rfl, by
  rw [show decide (V.str s = V.str t) = decide (s = t) from by by_cases e : s = t <;> simp [e]]; exact q⟩
theorem r_adds {s t : Str} (hz : s.length + t.length ≤ 1000000) (q : Q (.str (s ++ t)) H) : (fun (x y : V) (H : Hp) (Q : VK) => ∃ i j, x = .str i ∧ y = .str j ∧ i.length + j.length ≤ sizeLine ∧ Q (.str (i ++ j)) H) (.str s) (.str t) H Q := ⟨s, t, rfl, rfl, by rw [sz]; omega, q⟩
theorem r_nonR {A B : Prop} (h : A) : if (!decide (V.ref a = V.non)) = true then A else B := iteT' h
theorem r_nonN {A B : Prop} (h : B) : if (!decide (V.non = V.non)) = true then A else B := iteF' h
theorem r_isR {A B : Prop} (h : B) : if decide (V.ref a = V.non) = true then A else B := iteF' h
theorem r_isNN {A B : Prop} (h : A) : if decide (V.non = V.non) = true then A else B := iteT' h
theorem r_nonI {A B : Prop} (h : A) : if (!decide (V.int i = V.non)) = true then A else B := iteT' h
theorem r_isI {A B : Prop} (h : B) : if decide (V.int i = V.non) = true then A else B := iteF' h
theorem r_nil (q : QA [] H) : tNil σ H QA := q
theorem r_cons {tr : TA} (h : ta σ H fun x H1 => tr σ H1 fun xs H2 => QA (x :: xs) H2) : tCons ta tr σ H QA := h
theorem r_cb {r : List V → Hp → VK → Prop} {t : TA} (h : t σ H fun vs H1 => r vs H1 Q) : tCB r t σ H Q := h
theorem r_call {sp : Sp} {dvs : List V} {E : XK} {t : TA} (h : t σ H fun vs H1 => sp (vs ++ dvs) H1 Q E) : tCall sp dvs E t σ H Q := h
theorem r_make {C : Addr} {sp : Sp} {dvs : List V} {E : XK} {t : TA} (h : t σ H fun vs H1 => ∀ x dx, H1 x = none → H1 dx = none → dx ≠ x →
  sp (.ref x :: (vs ++ dvs)) (upd (upd H1 dx (.own x)) x (.ins C dx [])) (fun v H2 => v = .non ∧ Q (.ref x) H2) E) : tMake C sp dvs E t σ H Q := h
theorem r_meth {C : Addr} {m : Str} {sp : Sp} {dvs : List V} {E : XK} {t : TA} (h : ta σ H (kMeth C m sp dvs E σ t Q)) : tMeth C m sp dvs E ta t σ H Q := h
theorem r_methL {C : Addr} {dx : Addr} {fs : List (Str × V)} {m : Str} {sp : Sp} {dvs : List V} {E : XK} {t : TA} (h : H a = some (.ins C dx fs)) (hl : fs.lookup m = none) (q : t σ H fun vs H2 => sp (.ref a :: (vs ++ dvs)) H2 Q E) : kMeth C m sp dvs E σ t Q (.ref a) H := ⟨a, dx, fs, rfl, h, hl, q⟩
theorem r_fld {f : Str} (h : ta σ H (kFld K f Q)) : tFld K ta f σ H Q := h
theorem r_fldL {C dx : Addr} {fs : List (Str × V)} {f : Str} (h : H a = some (.ins C dx fs)) (hc : Cls K C) (hn : NoAttr K C f) (hl : fs.lookup f = some v) (q : Q v H) : kFld K f Q (.ref a) H := ⟨a, C, dx, fs, v, rfl, h, hc, hn, hl, q⟩
theorem r_sfld {f : Str} (h : tb σ H fun y H1 => ta σ H1 (kSfld K D σ f y)) : sFld K ta tb f D σ H := h
theorem r_test (h : te σ H (kTest QB)) : tTest te σ H QB := h
theorem r_tB (h : te σ H (kTest QB)) : tB te σ H QB := h
theorem r_exb (q : QB b H) : kTest QB (.bl b) H := ⟨b, rfl, q⟩
theorem r_and (h : ct σ H fun c H1 => if c = true then cu σ H1 QB else QB false H1) : tAnd ct cu σ H QB := h
theorem r_or (h : ct σ H fun c H1 => if c = true then QB true H1 else cu σ H1 QB) : tOr ct cu σ H QB := h
theorem r_not (h : ct σ H fun c H1 => QB (!c) H1) : tNot ct σ H QB := h
theorem r_andV (h : ta σ H fun x H1 => ∃ c, x = .bl c ∧ if c = true then tb σ H1 Q else Q (.bl false) H1) : tAndV ta tb σ H Q := h
theorem r_orV (h : ta σ H fun x H1 => ∃ c, x = .bl c ∧ if c = true then Q (.bl true) H1 else tb σ H1 Q) : tOrV ta tb σ H Q := h
theorem r_exbP {A : Bool → Prop} (q : A b) : ∃ c, V.bl b = .bl c ∧ A c := ⟨b, rfl, q⟩
theorem r_notV (h : ta σ H fun x H1 => ∃ c, x = .bl c ∧ Q (.bl (!c)) H1) : tNotV ta σ H Q := h
theorem r_tif (h : c σ H fun b H1 => if b = true then ta σ H1 Q else tb σ H1 Q) : tIf c ta tb σ H Q := h
theorem r_isN (h : ta σ H fun x H1 => Q (.bl (decide (x = .non))) H1) : tIsN ta σ H Q := h
theorem r_notN (h : ta σ H fun x H1 => Q (.bl (!decide (x = .non))) H1) : tNotN ta σ H Q := h
theorem r_tup {t : TA} (h : t σ H (kTup Q)) : tTup t σ H Q := h
theorem r_lst {t : TA} (h : t σ H (kLst Q)) : tLst t σ H Q := h
theorem r_ktup (hl : xs.length ≤ sizeLine) (h : ∀ p, H p = none → Q (.ref p) (upd H p (.tup xs))) : kTup Q xs H := ⟨hl, h⟩
theorem r_klst (hl : xs.length ≤ sizeLine) (h : ∀ p, H p = none → Q (.ref p) (upd H p (.lst xs))) : kLst Q xs H := ⟨hl, h⟩
theorem r_ixl (h : SqL K H p xs) (e : atI xs i = some v) (q : Q v H) : rIxL K (.ref p) (.int i) H Q := ⟨p, xs, i, v, rfl, rfl, h, e, q⟩
theorem r_ixt (h : SqT K H p xs) (e : atI xs i = some v) (q : Q v H) : rIxT K (.ref p) (.int i) H Q := ⟨p, xs, i, v, rfl, rfl, h, e, q⟩
theorem r_int (q : Q (.int i) H) : rInt [V.int i] H Q := .inl ⟨i, rfl, q⟩
theorem r_lenl (h : SqL K H p xs) (q : Q (.int xs.length) H) : rLen K [V.ref p] H Q := ⟨p, xs, rfl, .inl h, q⟩
theorem r_lent (h : SqT K H p xs) (q : Q (.int xs.length) H) : rLen K [V.ref p] H Q := ⟨p, xs, rfl, .inr h, q⟩
theorem r_listl (h : SqL K H p xs) (q : ∀ l, H l = none → Q (.ref l) (upd H l (.lst xs))) : rListOf K [V.ref p] H Q := ⟨p, xs, rfl, .inl h, q⟩
theorem r_listt (h : SqT K H p xs) (q : ∀ l, H l = none → Q (.ref l) (upd H l (.lst xs))) : rListOf K [V.ref p] H Q := ⟨p, xs, rfl, .inr h, q⟩
theorem r_tupl (h : SqL K H p xs) (q : ∀ l, H l = none → Q (.ref l) (upd H l (.tup xs))) : rTupOf K [V.ref p] H Q := ⟨p, xs, rfl, .inl ⟨h, q⟩⟩
theorem r_tupt (h : SqT K H p xs) (q : Q (.ref p) H) : rTupOf K [V.ref p] H Q := ⟨p, xs, rfl, .inr ⟨h, q⟩⟩
theorem r_in {neg : Bool} (h : SqL K H p xs ∨ SqT K H p xs) (fx : flatV x = true) (fs : xs.all flatV = true) (q : Q (.bl (if neg = true then !inV x xs else inV x xs)) H) : rIn K neg x (.ref p) H Q := ⟨p, xs, rfl, h, fx, fs, q⟩
theorem r_bm {T : String} {r : V → List V → Hp → VK → Prop} {t : TA} (h : ta σ H fun x H1 => tyV K T x H1 ∧ t σ H1 fun xs H2 => r x xs H2 Q) : tBM K T r ta t σ H Q := h
theorem r_bm0 {T : String} {r : V → List V → Hp → VK → Prop} (h : ta σ H fun x H1 => tyV K T x H1 ∧ r x [] H1 Q) : tBM0 K T r ta σ H Q := h
theorem r_tyl {A : Prop} (h : SqL K H l xs) (q : A) : tyV K "list" (.ref l) H ∧ A := ⟨.inl ⟨rfl, _, h⟩, q⟩
theorem r_app (h : H l = some (.lst xs)) (hl : xs.length < sizeLine) (q : Q .non (upd H l (.lst (xs ++ [v])))) : rAppend (.ref l) [v] H Q := ⟨l, xs, v, rfl, rfl, h, hl, q⟩
theorem r_isi {c : V} {t u : Value} (hc : ClsV c u) (ht : TyX K H x t) (hk : PySem.W.kitOne K t u = some b) (q : Q (.bl b) H) : rIsi K [x, c] H Q := ⟨x, c, t, u, b, rfl, hc, ht, hk, q⟩
theorem r_isb {a b : Bool} (q : Q (.bl (decide (a = b))) H) : rIsB (.bl a) (.bl b) H Q := ⟨a, b, rfl, rfl, q⟩
theorem r_notb {a b : Bool} (q : Q (.bl (!decide (a = b))) H) : rNotB (.bl a) (.bl b) H Q := ⟨a, b, rfl, rfl, q⟩
theorem r_eqd {d e : PyData} (h1 : Dp K H x d) (h2 : Dp K H y e) (s1 : SeqAt.shaped d = true) (s2 : SeqAt.shaped e = true) (q : Q (.bl (PyData.eqv d e)) H) : rEqD K x y H Q := ⟨d, e, h1, h2, s1, s2, q⟩
theorem r_ned {d e : PyData} (h1 : Dp K H x d) (h2 : Dp K H y e) (s1 : SeqAt.shaped d = true) (s2 : SeqAt.shaped e = true) (q : Q (.bl (!PyData.eqv d e)) H) : rNeD K x y H Q := ⟨d, e, h1, h2, s1, s2, q⟩
theorem r_rep {k : Int} (h : H l = some (.lst xs)) (h1 : -(2 ^ 63) ≤ k) (h2 : k < 2 ^ 63) (hz : xs.length * k.toNat ≤ sizeLine) (q : ∀ p, H p = none → Q (.ref p) (upd H p (.lst (List.replicate k.toNat xs).flatten))) : rRep (.ref l) (.int k) H Q := ⟨l, k, xs, rfl, rfl, h, h1, h2, hz, q⟩
theorem r_cat (h : H l = some (.lst xs)) (h' : H p = some (.lst ys)) (hz : xs.length + ys.length ≤ sizeLine) (q : ∀ r, H r = none → Q (.ref r) (upd H r (.lst (xs ++ ys)))) : rCat (.ref l) (.ref p) H Q := ⟨l, p, xs, ys, rfl, rfl, h, h', hz, q⟩
theorem r_aug {n : Nat} {ti : TIp} (h : σ[n]? = some (some x)) (q : te σ H fun y H1 => ti x y H1 fun z H2 => D.nx (σ.set n (some z)) H2) : tAug n te ti D σ H := ⟨x, h, q⟩
theorem r_ipI {f : Int → Int → Int} (q : Q (.int (f i j)) H) : ipI f (.int i) (.int j) H Q := ⟨i, j, rfl, rfl, q⟩
theorem r_sorted {ns : List Int} (h : SqL K H a (ns.map V.int)) (h64 : ns.length < 64) (q : ∀ (ns' : List Int) (p : Addr), ns'.Perm ns → ns'.Pairwise (· ≤ ·) → H p = none → Q (.ref p) (upd H p (.lst (ns'.map V.int)))) : rSorted K [.ref a] H Q := ⟨a, ns, rfl, h, h64, q⟩
end
/-! slices, texts -/
def kPart (Q : Option Int → Hp → Prop) : V → Hp → Prop := fun x H => ∃ i, x = .int i ∧ Q (some i) H
section
variable {σ : L2.St} {H : Hp} {te : TE} {tl th : TO} {Q : V → Hp → Prop} {QO : Option Int → Hp → Prop} {K : PySem.W.Frag} {a : Addr} {xs : List V} {lo hi : Option Int} {i : Int} {z : Str}
theorem r_sl {r : V → Option Int → Option Int → Hp → VK → Prop} (h : te σ H fun x H1 => tl σ H1 fun l H2 => th σ H2 fun u H3 => r x l u H3 Q) : tSl r te tl th σ H Q := h
theorem r_noP (q : QO none H) : tNoPart σ H QO := q
theorem r_part (h : te σ H (kPart QO)) : tPart te σ H QO := h
theorem r_kPart (q : QO (some i) H) : kPart QO (.int i) H := ⟨i, rfl, q⟩
theorem r_slS (hl : z.length ≤ 1000000) (q : Q (.str (cutS z lo hi)) H) : rSlS (.str z) lo hi H Q := ⟨z, rfl, by rw [sz]; omega, q⟩
theorem r_slL (h : SqL K H a xs) (q : ∀ p, H p = none → Q (.ref p) (upd H p (.lst (cutV xs lo hi)))) : rSlL K (.ref a) lo hi H Q := ⟨a, xs, rfl, h, q⟩
end
/-! loops and comprehensions -/
def kLc (g : TG) (tt : TT) (te : TE) (vs : List Nat) (σ : L2.St) (Q : V → Hp → Prop) : It → Hp → Prop := fun J H1 => ∀ D, H1 D = none → ∃ W : Nat → Nat → Hp → Prop, (∃ m, W 0 m (upd H1 D (.lst []))) ∧ ∀ i m H, W i m H →
  (J.stop i H ∧ Q (.ref D) H) ∨ (J.go i H ∧ ∃ Nx : Hp → Prop, (∀ H', Nx H' → ∃ m', m' < m ∧ W (i + 1) m' H') ∧ ∀ x H', J.yld i H x H' → g x (wipe σ vs) H' fun σ2 H2 => wipe σ2 vs = wipe σ vs ∧ tt σ2 H2 fun b H3 =>
    if b = true then te σ2 H3 fun y H4 => ∃ acc, H4 D = some (.lst acc) ∧ acc.length < sizeLine ∧ Nx (upd H4 D (.lst (acc ++ [y]))) else Nx H3)
def kR1 (R : It → Hp → Prop) : List V → Hp → Prop := fun vs H1 => ∃ j : Int, vs = [.int j] ∧ -(2 ^ 62) ≤ j ∧ j < 2 ^ 62 ∧ R (Itr 0 j.toNat) H1
def kR2 (R : It → Hp → Prop) : List V → Hp → Prop := fun vs H1 => ∃ i j : Int, vs = [.int i, .int j] ∧ (-(2 ^ 62) ≤ i ∧ i < 2 ^ 62 ∧ -(2 ^ 62) ≤ j ∧ j < 2 ^ 62) ∧ R (Itr i (j - i).toNat) H1
def kIl (K : PySem.W.Frag) (R : It → Hp → Prop) : V → Hp → Prop := fun x H1 => ∃ a, x = .ref a ∧ (∃ xs, SqL K H1 a xs) ∧ R (Itl K a) H1
def kIt (K : PySem.W.Frag) (R : It → Hp → Prop) : V → Hp → Prop := fun x H1 => ∃ a, x = .ref a ∧ (∃ xs, SqT K H1 a xs) ∧ R (Itt K a) H1
def kFor (g : TG) (tb : TS) (D : Ends) (σ : L2.St) : It → Hp → Prop := fun J H1 => ∃ W : Nat → Nat → L2.St → Hp → Prop, (∃ m, W 0 m σ H1) ∧ ∀ i m σ H, W i m σ H →
  (J.stop i H ∧ D.nx σ H) ∨ (J.go i H ∧ ∃ N : L2.St → Hp → Prop, (∀ σ' H', N σ' H' → ∃ m', m' < m ∧ W (i + 1) m' σ' H') ∧ ∀ x H', J.yld i H x H' → g x σ H' fun σ2 H2 => tb { D with nx := N, ct := N, bk := D.nx } σ2 H2)
section
variable {σ : L2.St} {H : Hp} {D : Ends} {te : TE} {ta : TA} {g : TG} {tt : TT} {tb : TS} {wi : TI} {vs : List Nat} {Q : V → Hp → Prop} {R : It → Hp → Prop} {K : PySem.W.Frag} {a : Addr} {xs : List V} {i j : Int}
theorem r_lc (h : wi σ H (kLc g tt te vs σ Q)) : tLc wi g tt te vs σ H Q := h
theorem r_for (h : wi σ H (kFor g tb D σ)) : tFor wi g tb D σ H := h
theorem r_irng1 (h : ta σ H (kR1 R)) : iRng1 ta σ H R := h
theorem r_irng2 (h : ta σ H (kR2 R)) : iRng2 ta σ H R := h
theorem r_ilist (h : te σ H (kIl K R)) : iList K te σ H R := h
theorem r_itup (h : te σ H (kIt K R)) : iTup K te σ H R := h
theorem r_kR1 (h1 : -(2 ^ 62) ≤ j) (h2 : j < 2 ^ 62) (h : R (Itr 0 j.toNat) H) : kR1 R [.int j] H := ⟨j, rfl, h1, h2, h⟩
theorem r_kR2 (h1 : -(2 ^ 62) ≤ i ∧ i < 2 ^ 62 ∧ -(2 ^ 62) ≤ j ∧ j < 2 ^ 62) (h : R (Itr i (j - i).toNat) H) : kR2 R [.int i, .int j] H := ⟨i, j, rfl, h1, h⟩
theorem r_kIl (h1 : SqL K H a xs) (h : R (Itl K a) H) : kIl K R (.ref a) H := ⟨a, rfl, ⟨_, h1⟩, h⟩
theorem r_kIt (h1 : SqT K H a xs) (h : R (Itt K a) H) : kIt K R (.ref a) H := ⟨a, rfl, ⟨_, h1⟩, h⟩
theorem r_forR {lo : Int} {n : Nat} (Pv : Nat → L2.St → Hp → Prop) (h0 : Pv 0 σ H)
    (hs : ∀ i σ H, i < n → Pv i σ H → g (.int (lo + i)) σ H fun σ2 H2 => tb { D with nx := Pv (i + 1), ct := Pv (i + 1), bk := D.nx } σ2 H2) (hd : ∀ σ H, Pv n σ H → D.nx σ H) : kFor g tb D σ (Itr lo n) H := for_range Pv h0 hs hd
theorem r_forL (Pv : Nat → L2.St → Hp → Prop) (h0 : Pv 0 σ H) (hl : ∀ i σ H, i ≤ xs.length → Pv i σ H → SqL K H a xs)
    (hs : ∀ i x σ H, xs[i]? = some x → Pv i σ H → g x σ H fun σ2 H2 => tb { D with nx := Pv (i + 1), ct := Pv (i + 1), bk := D.nx } σ2 H2) (hd : ∀ σ H, Pv xs.length σ H → D.nx σ H) : kFor g tb D σ (Itl K a) H := for_list Pv h0 hl hs hd
theorem r_forT (Pv : Nat → L2.St → Hp → Prop) (h0 : Pv 0 σ H) (hl : ∀ i σ H, i ≤ xs.length → Pv i σ H → SqT K H a xs)
    (hs : ∀ i x σ H, xs[i]? = some x → Pv i σ H → g x σ H fun σ2 H2 => tb { D with nx := Pv (i + 1), ct := Pv (i + 1), bk := D.nx } σ2 H2) (hd : ∀ σ H, Pv xs.length σ H → D.nx σ H) : kFor g tb D σ (Itt K a) H := for_tup Pv h0 hl hs hd
/-- [e for x in range], e an int -/
theorem r_lcI {lo : Int} {n slot : Nat} (P : Nat → Int → Prop) (hn : n ≤ 100000) (hv : vs = [slot])
    (hs : ∀ (i : Nat) (H' : Hp), i < n → L2.Same H H' → ∀ R : V → Hp → Prop, (∀ z : Int, P i z → R (.int z) H') → te ((wipe σ vs).set slot (some (.int (lo + i)))) H' R)
    (q : ∀ (H' : Hp) (l : Addr) (zs : List Int), L2.Same H H' → H l = none → H' l = some (.lst (zs.map V.int)) → zs.length = n → (∀ (i : Nat) (z : Int), zs[i]? = some z → P i z) → Q (.ref l) H') :
    kLc (gName slot) tYes te vs σ Q (Itr lo n) H := by
  intro L hL
  have hw : ∀ (τ : L2.St) (x : V), wipe (τ.set slot (some x)) [slot] = wipe τ [slot] := fun τ x => by simp [wipe, List.set_set]
  have hw2 : wipe (wipe σ vs) vs = wipe σ vs := by subst hv; simp [wipe, List.set_set]
  refine lc_range (fun i H' => ∃ zs : List Int, zs.length = i ∧ H' L = some (.lst (zs.map V.int)) ∧ L2.Same H H' ∧ ∀ (k : Nat) (z : Int), zs[k]? = some z → P k z) ⟨[], rfl, upd_same, fun b o e => by rw [upd_ne (ne_of_none e hL)]; exact e, fun k z e => by simp at e⟩ ?_ ?_
  · rintro i H' hi ⟨zs, el, eL, s, hp⟩
    refine ⟨?_, ?_⟩
    · subst hv
      rw [hw]
      exact hw2
    · show te ((wipe σ vs).set slot (some (.int (lo + i)))) H' _
      refine hs i H' hi s _ fun z hz => ⟨_, eL, ?_, zs ++ [z], ?_, ?_, ?_, ?_⟩
      · rw [List.length_map, el]
        exact Nat.lt_of_lt_of_le (Nat.lt_of_lt_of_le hi hn) (by decide)
      · rw [List.length_append, el]; rfl
      · rw [upd_same, List.map_append]; rfl
      · intro b o e
        rw [upd_ne (ne_of_none e hL)]
        exact s _ _ e
      · intro k y e
        rw [List.getElem?_append] at e
        split at e
        · exact hp k y e
        · rename_i hk
          have ek : k = zs.length := by
            have := (List.getElem?_eq_some_iff.mp e).1
            simp at this
            omega
          subst ek
          simp at e
          rw [el, ← e]
          exact hz
  · rintro H' ⟨zs, el, eL, s, hp⟩
    exact q H' L zs s hL eL el hp
end
end Sg
/-! data behind values, as the heap grows -/
namespace Sg
open PySem L2
mutual
theorem Dp.mono {K : PySem.W.Frag} {H H' : Hp} (s : L2.Same H H') : ∀ (d : PyData) (v : V), Dp K H v d → Dp K H' v d
  | .none, _, h => by cases h; exact .non
  | .bool b, _, h => by cases h; exact .bl b
  | .int i, _, h => by cases h; exact .int i
  | .str x, _, h => by cases h; exact .str x
  | .list ds, _, h => by
    cases h with
    | lst hs ha => exact .lst (L2.Same.seq s hs) (DpAll.mono s ds _ ha)
  | .tuple ds, _, h => by
    cases h with
    | tup hs ha => exact .tup (Sg.Same.tup s hs) (DpAll.mono s ds _ ha)
  | .dict _, _, h => by cases h
theorem DpAll.mono {K : PySem.W.Frag} {H H' : Hp} (s : L2.Same H H') : ∀ (ds : List PyData) (vs : List V), DpAll K H vs ds → DpAll K H' vs ds
  | [], _, h => by cases h; exact .nil
  | d :: ds, _, h => by
    cases h with
    | cons h1 h2 => exact .cons (Dp.mono s d _ h1) (DpAll.mono s ds _ h2)
end
theorem DpAll.ints {K : PySem.W.Frag} {H : Hp} : ∀ ns : List Int, DpAll K H (ns.map V.int) (ns.map PyData.int)
  | [] => .nil
  | n :: ns => .cons (.int n) (DpAll.ints ns)
theorem DpAll.at {K : PySem.W.Frag} {H : Hp} : ∀ {vs : List V} {ds : List PyData}, DpAll K H vs ds → ∀ (i : Nat) (v : V), vs[i]? = some v → ∃ d, ds[i]? = some d ∧ Dp K H v d
  | _, _, .nil, i, v, e => by simp at e
  | _, _, .cons h t, 0, v, e => by simp at e; subst e; exact ⟨_, rfl, h⟩
  | _, _, .cons h t, i + 1, v, e => by
    obtain ⟨d, e1, h1⟩ := DpAll.at t i v (by simpa using e)
    exact ⟨d, by simpa using e1, h1⟩
theorem DpAll.length {K : PySem.W.Frag} {H : Hp} : ∀ {vs : List V} {ds : List PyData}, DpAll K H vs ds → vs.length = ds.length
  | _, _, .nil => rfl
  | _, _, .cons _ t => by simp [DpAll.length t]
/-- data that can be compared, at most n deep -/
def Fl (n : Nat) (d : PyData) : Prop := d.canLay0 = true ∧ d.depth ≤ n
theorem Fl.int (i : Int) (n : Nat) : Fl n (.int i) := ⟨by simp [PyData.canLay0], by simp [PyData.depth]⟩
theorem Fl.non (n : Nat) : Fl n .none := ⟨by simp [PyData.canLay0], by simp [PyData.depth]⟩
theorem Fl.bool (b : Bool) (n : Nat) : Fl n (.bool b) := ⟨by simp [PyData.canLay0], by simp [PyData.depth]⟩
theorem Fl.all {n : Nat} : ∀ {ds : List PyData}, (∀ d ∈ ds, Fl n d) → PyData.canLayAll0 ds = true ∧ PyData.depthAll ds ≤ n
  | [], _ => ⟨by simp [PyData.canLayAll0], by simp [PyData.depthAll]⟩
  | d :: ds, h => by
    obtain ⟨h1, h2⟩ := h d List.mem_cons_self
    obtain ⟨h3, h4⟩ := Fl.all (ds := ds) fun x hx => h x (List.mem_cons_of_mem _ hx)
    refine ⟨by simp [PyData.canLayAll0, h1, h3], ?_⟩
    simp only [PyData.depthAll]
    exact Nat.max_le.mpr ⟨h2, h4⟩
theorem Fl.tup {n : Nat} {ds : List PyData} (h : ∀ d ∈ ds, Fl n d) : Fl (n + 1) (.tuple ds) := by
  obtain ⟨h1, h2⟩ := Fl.all h
  exact ⟨by simp [PyData.canLay0, h1], by simp only [PyData.depth]; omega⟩
theorem Fl.lst {n : Nat} {ds : List PyData} (h : ∀ d ∈ ds, Fl n d) : Fl (n + 1) (.list ds) := by
  obtain ⟨h1, h2⟩ := Fl.all h
  exact ⟨by simp [PyData.canLay0, h1], by simp only [PyData.depth]; omega⟩
theorem Fl.mono {n m : Nat} {d : PyData} (h : Fl n d) (hm : n ≤ m) : Fl m d := ⟨h.1, Nat.le_trans h.2 hm⟩
theorem Fl.ints (ns : List Int) : Fl 1 (.tuple (ns.map PyData.int)) := Fl.tup fun d hd => by
  obtain ⟨i, _, rfl⟩ := List.mem_map.mp hd
  exact Fl.int i 0
theorem Fl.intl (ns : List Int) : Fl 1 (.list (ns.map PyData.int)) := Fl.lst fun d hd => by
  obtain ⟨i, _, rfl⟩ := List.mem_map.mp hd
  exact Fl.int i 0
theorem Fl.nil {n : Nat} : ∀ d ∈ ([] : List PyData), Fl n d := fun d h => by cases h
theorem Fl.cons {n : Nat} {d : PyData} {ds : List PyData} (h : Fl n d) (t : ∀ x ∈ ds, Fl n x) : ∀ x ∈ d :: ds, Fl n x := fun x hx => by
  rcases List.mem_cons.mp hx with rfl | hx
  · exact h
  · exact t x hx
theorem Fl.mapi {n : Nat} {ns : List Int} : ∀ d ∈ ns.map PyData.int, Fl n d := fun d hd => by
  obtain ⟨i, _, rfl⟩ := List.mem_map.mp hd
  exact Fl.int i n
theorem Fl.shaped {n : Nat} {d : PyData} (h : Fl n d) (hn : n ≤ 64 := by decide) : SeqAt.shaped d = true := by
  unfold SeqAt.shaped
  rw [h.1, decide_eq_true (Nat.le_trans h.2 hn)]
  rfl
theorem Fl.self {n : Nat} {d : PyData} (h : Fl n d) : PyData.eqv d d = true := SeqAt.eqv_refl d h.1
/-! lists of ints -/
theorem ixN_ok {n : Nat} {k : Int} (h0 : 0 ≤ k) (h1 : k < n) : ixN n k = some k.toNat := by unfold ixN; rw [if_pos h0, if_pos h1]
theorem at_ints {ts : List Int} {k : Int} (h0 : 0 ≤ k) (h1 : k < ts.length) : atI (ts.map V.int) k = some (.int (ts.getD k.toNat 0)) := by
  obtain ⟨n, rfl⟩ := Int.eq_ofNat_of_zero_le h0
  have hn : n < ts.length := by omega
  refine atI_nat ?_
  rw [List.getElem?_map, List.getElem?_eq_getElem hn, List.getD_eq_getElem?_getD, Int.toNat_natCast, List.getElem?_eq_getElem hn]
  rfl
theorem rep_ints (n : Nat) (z : Int) : (List.replicate n [V.int z]).flatten = (List.replicate n z).map V.int := by
  induction n with
  | zero => rfl
  | succ n ih => rw [List.replicate_succ, List.flatten_cons, ih, List.replicate_succ, List.map_cons]; rfl
theorem set_ints (ts : List Int) (n : Nat) (z : Int) : (ts.map V.int).set n (.int z) = (ts.set n z).map V.int := by rw [List.map_set]
theorem eqv_ints {as bs : List Int} : PyData.eqv (.list (as.map PyData.int)) (.list (bs.map PyData.int)) = decide (as = bs) := by
  rw [PyData.eqv]
  induction as generalizing bs with
  | nil => cases bs <;> simp [PyData.eqvAll]
  | cons a as ih =>
    cases bs with
    | nil => simp [PyData.eqvAll]
    | cons b bs =>
      rw [List.map_cons, List.map_cons, PyData.eqvAll, ih, PyData.eqv]
      by_cases e : a = b
      · subst e; simp
      · simp [e]
theorem Dp.ints {K : PySem.W.Frag} {H : Hp} {a : Addr} {ns : List Int} (h : SqL K H a (ns.map V.int)) : Dp K H (.ref a) (.list (ns.map PyData.int)) := .lst h (DpAll.ints ns)
theorem Fl.intlS (ns : List Int) : SeqAt.shaped (.list (ns.map PyData.int)) = true := (Fl.intl ns).shaped
/-! a comprehension over a list, its items anything -/
/-- the heap without the list that grows -/
def hid (D : Addr) (H : Hp) : Hp := fun b => if b = D then none else H b
theorem hid_ne {D b : Addr} {H : Hp} (h : b ≠ D) : hid D H b = H b := by unfold hid; rw [if_neg h]
theorem hid_at {D : Addr} {H : Hp} : hid D H D = none := by unfold hid; rw [if_pos rfl]
theorem hid_same {D : Addr} {H : Hp} : L2.Same (hid D H) H := fun b o e => by
  by_cases hb : b = D
  · rw [hb, hid_at] at e; cases e
  · rw [hid_ne hb] at e; exact e
theorem of_hid {D b : Addr} {H : Hp} {o : HO} (e : hid D H b = some o) : b ≠ D ∧ H b = some o := by
  by_cases hb : b = D
  · rw [hb, hid_at] at e; cases e
  · rw [hid_ne hb] at e; exact ⟨hb, e⟩
theorem same_hid {D : Addr} {H H' : Hp} (s : L2.Same H H') (n : H D = none) : L2.Same H (hid D H') := fun b o e => by
  rw [hid_ne (ne_of_none e n)]; exact s _ _ e
theorem hid_upd {D : Addr} {H : Hp} {o : HO} : hid D (upd H D o) = hid D H := by
  funext b
  by_cases hb : b = D
  · rw [hb, hid_at, hid_at]
  · rw [hid_ne hb, hid_ne hb, upd_ne hb]
theorem hid_none {D : Addr} {H : Hp} (n : H D = none) : hid D H = H := by
  funext b
  by_cases hb : b = D
  · rw [hb, hid_at, n]
  · rw [hid_ne hb]
theorem r_lcL {K : PySem.W.Frag} {a : Addr} {xs : List V} {slot : Nat} {vs : List Nat} {te : TE} {σ : L2.St} {H : Hp} {Q : V → Hp → Prop} (P : Nat → List V → Hp → Prop) (hx : SqL K H a xs) (hn : xs.length ≤ 100000) (hv : vs = [slot])
    (h0 : P 0 [] H)
    (hs : ∀ (i : Nat) (x : V) (acc : List V) (H0 H' : Hp), xs[i]? = some x → L2.Same H H0 → P i acc H0 → L2.Same H0 H' → ∀ R : V → Hp → Prop,
      (∀ (v : V) (H'' : Hp), L2.Same H' H'' → (∀ D, H0 D = none → H' D ≠ none → P (i + 1) (acc ++ [v]) (hid D H'')) → R v H'') → te ((wipe σ vs).set slot (some x)) H' R)
    (q : ∀ (H' : Hp) (l : Addr) (acc : List V), L2.Same H H' → H l = none → H' l = some (.lst acc) → acc.length = xs.length → P xs.length acc (hid l H') → Q (.ref l) H') :
    kLc (gName slot) tYes te vs σ Q (Itl K a) H := by
  intro L hL
  have hw : ∀ (τ : L2.St) (x : V), wipe (τ.set slot (some x)) [slot] = wipe τ [slot] := fun τ x => by simp [wipe, List.set_set]
  have hw2 : wipe (wipe σ vs) vs = wipe σ vs := by subst hv; simp [wipe, List.set_set]
  refine lc_list (xs := xs) (fun i H' => ∃ acc : List V, acc.length = i ∧ H' L = some (.lst acc) ∧ L2.Same H H' ∧ P i acc (hid L H')) ⟨[], rfl, upd_same, fun b o e => by rw [upd_ne (ne_of_none e hL)]; exact e, by rw [hid_upd, hid_none hL]; exact h0⟩ ?_ ?_ ?_
  · rintro i H' hi ⟨acc, _, _, s, _⟩
    exact s.seq hx
  · rintro i x H' hi ⟨acc, el, eL, s, hp⟩
    refine ⟨?_, ?_⟩
    · subst hv
      rw [hw]
      exact hw2
    · show te ((wipe σ vs).set slot (some x)) H' _
      refine hs i x acc (hid L H') H' hi (same_hid s hL) hp hid_same _ fun v H'' s2 hP => ⟨acc, s2 _ _ eL, ?_, acc ++ [v], ?_, upd_same, ?_, ?_⟩
      · have := (List.getElem?_eq_some_iff.mp hi).1
        rw [el, sz]
        omega
      · rw [List.length_append, el]; rfl
      · intro b o e
        rw [upd_ne (ne_of_none e hL)]
        exact s2 _ _ (s _ _ e)
      · rw [hid_upd]
        exact hP L hid_at (by rw [eL]; intro z; cases z)
  · rintro H' ⟨acc, el, eL, s, hp⟩
    exact q H' L acc s hL eL el hp
end Sg
namespace Sg
open PySem L2
def top (i : Nat) : Stmt := PySem.Challenge.pw_segmentfs_k61_handles_by_a_list.main.body.getD i (.Pass ⟨0, 0, 0, 0⟩)
abbrev s_OpenFile___init : Stmt := inClass (top 6) 0
abbrev s_Handles___init : Stmt := inClass (top 7) 0
abbrev s_Handles_check_free : Stmt := inClass (top 7) 1
abbrev s_Handles_acquire : Stmt := inClass (top 7) 2
abbrev s_Handles_get : Stmt := inClass (top 7) 3
abbrev s_Handles_reading : Stmt := inClass (top 7) 4
abbrev s_Handles_writing : Stmt := inClass (top 7) 5
abbrev s_Handles_free : Stmt := inClass (top 7) 6
abbrev s_Handles_reserve : Stmt := inClass (top 7) 7
abbrev s_Handles_opened_numbers : Stmt := inClass (top 7) 8
abbrev s_Handles_fork : Stmt := inClass (top 7) 9
abbrev s_copy_of_file : Stmt := top 8
abbrev s_law_row : Stmt := top 10
abbrev s_law_is_integer : Stmt := top 11
abbrev s_law_rows : Stmt := top 12
abbrev s_law_numbers : Stmt := top 13
abbrev s_law_fields : Stmt := top 14
abbrev s_law_told : Stmt := top 15
abbrev s_law_due : Stmt := top 16
abbrev s_law_agrees : Stmt := top 17
abbrev s_law_copy : Stmt := top 18
abbrev s_law : Stmt := top 19
abbrev n_OpenFile___init : List Str := ["self", "number", "access", "reserved"]
theorem sc_OpenFile___init : FnScope n_OpenFile___init ["self", "number", "access", "reserved"] (defScope s_OpenFile___init) := ⟨rfl, rfl, rfl, by decide +kernel, rfl, by decide +kernel, by decide +kernel⟩
abbrev n_Handles___init : List Str := ["self"]
theorem sc_Handles___init : FnScope n_Handles___init ["self"] (defScope s_Handles___init) := ⟨rfl, rfl, rfl, by decide +kernel, rfl, by decide +kernel, by decide +kernel⟩
abbrev n_Handles_check_free : List Str := ["self"]
theorem sc_Handles_check_free : FnScope n_Handles_check_free ["self"] (defScope s_Handles_check_free) := ⟨rfl, rfl, rfl, by decide +kernel, rfl, by decide +kernel, by decide +kernel⟩
abbrev n_Handles_acquire : List Str := ["self", "number", "access", "handle"]
theorem sc_Handles_acquire : FnScope n_Handles_acquire ["self", "number", "access"] (defScope s_Handles_acquire) := ⟨rfl, rfl, rfl, by decide +kernel, rfl, by decide +kernel, by decide +kernel⟩
abbrev n_Handles_get : List Str := ["self", "handle"]
theorem sc_Handles_get : FnScope n_Handles_get ["self", "handle"] (defScope s_Handles_get) := ⟨rfl, rfl, rfl, by decide +kernel, rfl, by decide +kernel, by decide +kernel⟩
abbrev n_Handles_reading : List Str := ["self", "handle", "opened"]
theorem sc_Handles_reading : FnScope n_Handles_reading ["self", "handle"] (defScope s_Handles_reading) := ⟨rfl, rfl, rfl, by decide +kernel, rfl, by decide +kernel, by decide +kernel⟩
abbrev n_Handles_writing : List Str := ["self", "handle", "opened"]
theorem sc_Handles_writing : FnScope n_Handles_writing ["self", "handle"] (defScope s_Handles_writing) := ⟨rfl, rfl, rfl, by decide +kernel, rfl, by decide +kernel, by decide +kernel⟩
abbrev n_Handles_free : List Str := ["self", "handle", "opened"]
theorem sc_Handles_free : FnScope n_Handles_free ["self", "handle"] (defScope s_Handles_free) := ⟨rfl, rfl, rfl, by decide +kernel, rfl, by decide +kernel, by decide +kernel⟩
abbrev n_Handles_reserve : List Str := ["self", "handle", "blocks", "opened"]
theorem sc_Handles_reserve : FnScope n_Handles_reserve ["self", "handle", "blocks"] (defScope s_Handles_reserve) := ⟨rfl, rfl, rfl, by decide +kernel, rfl, by decide +kernel, by decide +kernel⟩
abbrev n_Handles_opened_numbers : List Str := ["self", "opened"]
theorem sc_Handles_opened_numbers : FnScope n_Handles_opened_numbers ["self"] (defScope s_Handles_opened_numbers) := ⟨rfl, rfl, rfl, by decide +kernel, rfl, by decide +kernel, by decide +kernel⟩
abbrev n_Handles_fork : List Str := ["self", "twin", "opened"]
theorem sc_Handles_fork : FnScope n_Handles_fork ["self"] (defScope s_Handles_fork) := ⟨rfl, rfl, rfl, by decide +kernel, rfl, by decide +kernel, by decide +kernel⟩
abbrev n_copy_of_file : List Str := ["opened"]
theorem sc_copy_of_file : FnScope n_copy_of_file ["opened"] (defScope s_copy_of_file) := ⟨rfl, rfl, rfl, by decide +kernel, rfl, by decide +kernel, by decide +kernel⟩
abbrev n_law_row : List Str := ["script", "k", "cell", "low", "high"]
theorem sc_law_row : FnScope n_law_row ["script", "k"] (defScope s_law_row) := ⟨rfl, rfl, rfl, by decide +kernel, rfl, by decide +kernel, by decide +kernel⟩
abbrev n_law_is_integer : List Str := ["actual"]
theorem sc_law_is_integer : FnScope n_law_is_integer ["actual"] (defScope s_law_is_integer) := ⟨rfl, rfl, rfl, by decide +kernel, rfl, by decide +kernel, by decide +kernel⟩
abbrev n_law_rows : List Str := ["handles", "rows", "file"]
theorem sc_law_rows : FnScope n_law_rows ["handles"] (defScope s_law_rows) := ⟨rfl, rfl, rfl, by decide +kernel, rfl, by decide +kernel, by decide +kernel⟩
abbrev n_law_numbers : List Str := ["rows", "numbers", "row"]
theorem sc_law_numbers : FnScope n_law_numbers ["rows"] (defScope s_law_numbers) := ⟨rfl, rfl, rfl, by decide +kernel, rfl, by decide +kernel, by decide +kernel⟩
abbrev n_law_fields : List Str := ["file"]
theorem sc_law_fields : FnScope n_law_fields ["file"] (defScope s_law_fields) := ⟨rfl, rfl, rfl, by decide +kernel, rfl, by decide +kernel, by decide +kernel⟩
abbrev n_law_told : List Str := ["handles", "kind", "handle", "more", "access", "e", "names"]
theorem sc_law_told : FnScope n_law_told ["handles", "kind", "handle", "more", "access"] (defScope s_law_told) := ⟨rfl, rfl, rfl, by decide +kernel, rfl, by decide +kernel, by decide +kernel⟩
abbrev n_law_due : List Str := ["rows", "kind", "handle", "more", "access", "least", "row"]
theorem sc_law_due : FnScope n_law_due ["rows", "kind", "handle", "more", "access"] (defScope s_law_due) := ⟨rfl, rfl, rfl, by decide +kernel, rfl, by decide +kernel, by decide +kernel⟩
abbrev n_law_agrees : List Str := ["handles", "rows", "numbers"]
theorem sc_law_agrees : FnScope n_law_agrees ["handles", "rows"] (defScope s_law_agrees) := ⟨rfl, rfl, rfl, by decide +kernel, rfl, by decide +kernel, by decide +kernel⟩
abbrev n_law_copy : List Str := ["rows", "copied", "row"]
theorem sc_law_copy : FnScope n_law_copy ["rows"] (defScope s_law_copy) := ⟨rfl, rfl, rfl, by decide +kernel, rfl, by decide +kernel, by decide +kernel⟩
abbrev n_law : List Str := ["script", "number", "handles", "rows", "bias", "k", "kind", "rest", "handle", "more", "access", "left", "known", "told", "file"]
theorem sc_law : FnScope n_law ["script"] (defScope s_law) := ⟨rfl, rfl, rfl, by decide +kernel, rfl, by decide +kernel, by decide +kernel⟩
structure Txt (K : PySem.W.Frag) (mg : Str → Option Value) where
  a_OpenFile___init : Addr
  fd_OpenFile___init : FuncData
  a_Handles___init : Addr
  fd_Handles___init : FuncData
  a_Handles_check_free : Addr
  fd_Handles_check_free : FuncData
  a_Handles_acquire : Addr
  fd_Handles_acquire : FuncData
  a_Handles_get : Addr
  fd_Handles_get : FuncData
  a_Handles_reading : Addr
  fd_Handles_reading : FuncData
  a_Handles_writing : Addr
  fd_Handles_writing : FuncData
  a_Handles_free : Addr
  fd_Handles_free : FuncData
  a_Handles_reserve : Addr
  fd_Handles_reserve : FuncData
  a_Handles_opened_numbers : Addr
  fd_Handles_opened_numbers : FuncData
  a_Handles_fork : Addr
  fd_Handles_fork : FuncData
  a_copy_of_file : Addr
  fd_copy_of_file : FuncData
  a_law_row : Addr
  fd_law_row : FuncData
  a_law_is_integer : Addr
  fd_law_is_integer : FuncData
  a_law_rows : Addr
  fd_law_rows : FuncData
  a_law_numbers : Addr
  fd_law_numbers : FuncData
  a_law_fields : Addr
  fd_law_fields : FuncData
  a_law_told : Addr
  fd_law_told : FuncData
  a_law_due : Addr
  fd_law_due : FuncData
  a_law_agrees : Addr
  fd_law_agrees : FuncData
  a_law_copy : Addr
  fd_law_copy : FuncData
  a_law : Addr
  fd_law : FuncData
  A_OpenFile : Addr
  A_Handles : Addr
  t_HANDLES : Tok
  F_OpenFile___init : FunD K "__init__" "OpenFile.__init__" (defArgs s_OpenFile___init) (defBody s_OpenFile___init) (defScope s_OpenFile___init) [V.int 0] [] a_OpenFile___init fd_OpenFile___init
  ds_OpenFile___init_3 : List Value
  v_OpenFile___init_3 : Vals [V.int 0] ds_OpenFile___init_3
  b_OpenFile___init_3 : Binds K fd_OpenFile___init ["self", "number", "access", "reserved"] ds_OpenFile___init_3
  b_OpenFile___init : Binds K fd_OpenFile___init ["self", "number", "access", "reserved"] []
  F_Handles___init : Fun K "__init__" "Handles.__init__" s_Handles___init a_Handles___init fd_Handles___init
  b_Handles___init : Binds K fd_Handles___init ["self"] []
  F_Handles_check_free : Fun K "check_free" "Handles.check_free" s_Handles_check_free a_Handles_check_free fd_Handles_check_free
  b_Handles_check_free : Binds K fd_Handles_check_free ["self"] []
  me_Handles_check_free : Meth K A_Handles "check_free" a_Handles_check_free
  F_Handles_acquire : Fun K "acquire" "Handles.acquire" s_Handles_acquire a_Handles_acquire fd_Handles_acquire
  b_Handles_acquire : Binds K fd_Handles_acquire ["self", "number", "access"] []
  me_Handles_acquire : Meth K A_Handles "acquire" a_Handles_acquire
  F_Handles_get : Fun K "get" "Handles.get" s_Handles_get a_Handles_get fd_Handles_get
  b_Handles_get : Binds K fd_Handles_get ["self", "handle"] []
  me_Handles_get : Meth K A_Handles "get" a_Handles_get
  F_Handles_reading : Fun K "reading" "Handles.reading" s_Handles_reading a_Handles_reading fd_Handles_reading
  b_Handles_reading : Binds K fd_Handles_reading ["self", "handle"] []
  me_Handles_reading : Meth K A_Handles "reading" a_Handles_reading
  F_Handles_writing : Fun K "writing" "Handles.writing" s_Handles_writing a_Handles_writing fd_Handles_writing
  b_Handles_writing : Binds K fd_Handles_writing ["self", "handle"] []
  me_Handles_writing : Meth K A_Handles "writing" a_Handles_writing
  F_Handles_free : Fun K "free" "Handles.free" s_Handles_free a_Handles_free fd_Handles_free
  b_Handles_free : Binds K fd_Handles_free ["self", "handle"] []
  me_Handles_free : Meth K A_Handles "free" a_Handles_free
  F_Handles_reserve : Fun K "reserve" "Handles.reserve" s_Handles_reserve a_Handles_reserve fd_Handles_reserve
  b_Handles_reserve : Binds K fd_Handles_reserve ["self", "handle", "blocks"] []
  me_Handles_reserve : Meth K A_Handles "reserve" a_Handles_reserve
  F_Handles_opened_numbers : Fun K "opened_numbers" "Handles.opened_numbers" s_Handles_opened_numbers a_Handles_opened_numbers fd_Handles_opened_numbers
  b_Handles_opened_numbers : Binds K fd_Handles_opened_numbers ["self"] []
  me_Handles_opened_numbers : Meth K A_Handles "opened_numbers" a_Handles_opened_numbers
  F_Handles_fork : Fun K "fork" "Handles.fork" s_Handles_fork a_Handles_fork fd_Handles_fork
  b_Handles_fork : Binds K fd_Handles_fork ["self"] []
  me_Handles_fork : Meth K A_Handles "fork" a_Handles_fork
  F_copy_of_file : Fun K "_copy_of_file" "_copy_of_file" s_copy_of_file a_copy_of_file fd_copy_of_file
  b_copy_of_file : Binds K fd_copy_of_file ["opened"] []
  m_copy_of_file : mg "_copy_of_file" = some (.ref a_copy_of_file)
  F_law_row : Fun K "_law_row" "_law_row" s_law_row a_law_row fd_law_row
  b_law_row : Binds K fd_law_row ["script", "k"] []
  m_law_row : mg "_law_row" = some (.ref a_law_row)
  F_law_is_integer : Fun K "_law_is_integer" "_law_is_integer" s_law_is_integer a_law_is_integer fd_law_is_integer
  b_law_is_integer : Binds K fd_law_is_integer ["actual"] []
  m_law_is_integer : mg "_law_is_integer" = some (.ref a_law_is_integer)
  F_law_rows : Fun K "_law_rows" "_law_rows" s_law_rows a_law_rows fd_law_rows
  b_law_rows : Binds K fd_law_rows ["handles"] []
  m_law_rows : mg "_law_rows" = some (.ref a_law_rows)
  F_law_numbers : Fun K "_law_numbers" "_law_numbers" s_law_numbers a_law_numbers fd_law_numbers
  b_law_numbers : Binds K fd_law_numbers ["rows"] []
  m_law_numbers : mg "_law_numbers" = some (.ref a_law_numbers)
  F_law_fields : Fun K "_law_fields" "_law_fields" s_law_fields a_law_fields fd_law_fields
  b_law_fields : Binds K fd_law_fields ["file"] []
  m_law_fields : mg "_law_fields" = some (.ref a_law_fields)
  F_law_told : Fun K "_law_told" "_law_told" s_law_told a_law_told fd_law_told
  b_law_told : Binds K fd_law_told ["handles", "kind", "handle", "more", "access"] []
  m_law_told : mg "_law_told" = some (.ref a_law_told)
  F_law_due : Fun K "_law_due" "_law_due" s_law_due a_law_due fd_law_due
  b_law_due : Binds K fd_law_due ["rows", "kind", "handle", "more", "access"] []
  m_law_due : mg "_law_due" = some (.ref a_law_due)
  F_law_agrees : Fun K "_law_agrees" "_law_agrees" s_law_agrees a_law_agrees fd_law_agrees
  b_law_agrees : Binds K fd_law_agrees ["handles", "rows"] []
  m_law_agrees : mg "_law_agrees" = some (.ref a_law_agrees)
  F_law_copy : Fun K "_law_copy" "_law_copy" s_law_copy a_law_copy fd_law_copy
  b_law_copy : Binds K fd_law_copy ["rows"] []
  m_law_copy : mg "_law_copy" = some (.ref a_law_copy)
  F_law : Fun K "law" "law" s_law a_law fd_law
  b_law : Binds K fd_law ["script"] []
  m_law : mg "law" = some (.ref a_law)
  m_OpenFile : mg "OpenFile" = some (.ref A_OpenFile)
  cl_OpenFile : Cls K A_OpenFile
  M_OpenFile : Mk K A_OpenFile a_OpenFile___init
  na_OpenFile_number : NoAttr K A_OpenFile "number"
  na_OpenFile_access : NoAttr K A_OpenFile "access"
  na_OpenFile_reserved : NoAttr K A_OpenFile "reserved"
  mo_OpenFile : PySem.W.mroIn K A_OpenFile (.type "object") = some true
  oe_OpenFile : PySem.W.findIn K (.ref A_OpenFile) "__eq__" = some (some (.builtin "object.__eq__"))
  m_Handles : mg "Handles" = some (.ref A_Handles)
  cl_Handles : Cls K A_Handles
  M_Handles : Mk K A_Handles a_Handles___init
  na_Handles_files : NoAttr K A_Handles "files"
  A_BadHandle : Addr
  m_BadHandle : mg "BadHandle" = some (.ref A_BadHandle)
  A_TooManyOpen : Addr
  m_TooManyOpen : mg "TooManyOpen" = some (.ref A_TooManyOpen)
  A_SegmentError : Addr
  m_SegmentError : mg "SegmentError" = some (.ref A_SegmentError)
  x_BadHandle : PySem.W.excIn K A_BadHandle [.type "ValueError", .type "Exception", .type "BaseException", .type "object"] "ValueError.__new__" = true
  k_BadHandle : PySem.W.keepIn K (.ref A_BadHandle) = true
  b_BadHandle : PySem.W.subIn K (.ref A_BadHandle) (.type "BaseException") = some true
  t_BadHandle : PySem.W.typeIn K (.ref A_BadHandle) = some (.type "type")
  e_BadHandle : ExcC K A_BadHandle
  x_TooManyOpen : PySem.W.excIn K A_TooManyOpen [.type "ValueError", .type "Exception", .type "BaseException", .type "object"] "ValueError.__new__" = true
  k_TooManyOpen : PySem.W.keepIn K (.ref A_TooManyOpen) = true
  b_TooManyOpen : PySem.W.subIn K (.ref A_TooManyOpen) (.type "BaseException") = some true
  t_TooManyOpen : PySem.W.typeIn K (.ref A_TooManyOpen) = some (.type "type")
  e_TooManyOpen : ExcC K A_TooManyOpen
  ex_BadHandle_SegmentError : PySem.W.exmOne K (.ref A_BadHandle) (.ref A_SegmentError) = some true
  ex_TooManyOpen_SegmentError : PySem.W.exmOne K (.ref A_TooManyOpen) (.ref A_SegmentError) = some true
  kit_BadHandle_BadHandle : PySem.W.kitOne K (.ref A_BadHandle) (.ref A_BadHandle) = some true
  kit_BadHandle_TooManyOpen : PySem.W.kitOne K (.ref A_BadHandle) (.ref A_TooManyOpen) = some false
  kit_TooManyOpen_BadHandle : PySem.W.kitOne K (.ref A_TooManyOpen) (.ref A_BadHandle) = some false
  kit_TooManyOpen_TooManyOpen : PySem.W.kitOne K (.ref A_TooManyOpen) (.ref A_TooManyOpen) = some true
  c_HANDLES : mg "HANDLES" = some (.int 16 t_HANDLES)
  r_HANDLES : RelV (.int 16) (.int 16 t_HANDLES)
  n_bool : mg "bool" = none
  n_int : mg "int" = none
  n_isinstance : mg "isinstance" = none
  n_len : mg "len" = none
  n_list : mg "list" = none
  n_range : mg "range" = none
  n_sorted : mg "sorted" = none
end Sg
namespace Sg
open PySem L2
local macro_rules | `(tactic| walk_at "size") => `(tactic| first | ((simp only [List.length_append, List.length_cons, List.length_nil, List.length_map, Sg.sz]) <;> omega) | (rw [Sg.sz]; simp <;> omega))
local macro_rules | `(tactic| walk_at "side") => `(tactic| first | with_reducible rfl | with_reducible assumption | (show (_ : Int) < _; omega) | omega | (simp only [List.length_map]; omega) | assumption | rfl | decide | exact Or.inr ⟨by decide, by decide⟩ | exact Or.inl ⟨by decide, by decide⟩ | exact Or.inr ⟨by omega, by omega⟩ | exact Or.inl ⟨by omega, by omega⟩ | exact ⟨by omega, by omega⟩ | exact ⟨by decide, by decide, by decide⟩ | (simp; done))
local macro_rules | `(tactic| walk_at "hp") => `(tactic| first | assumption | (refine' L2.SqT.of ?h1; (case h1 => walk_at "hp")) | (refine' L2.SqL.of ?h1; (case h1 => walk_at "hp")) | (refine' Sg.Same.tup ?h1 ?h2; (case h1 => assumption); (case h2 => walk_at "hp")) | (refine' L2.Same.seq ?h1 ?h2; (case h1 => assumption); (case h2 => walk_at "hp")) | (refine' (show L2.Same _ _ from ?h1) _ _ ?h2; (case h1 => assumption); (case h2 => walk_at "hp")) | (refine' Sg.at_keep ?he ?h1 ?h2 ?h3; (case he => assumption); (case h1 => walk_at "hp"); (case h2 => walk_at "hp"); (case h3 => (intro z; cases z))))
local macro_rules | `(tactic| walk_at "al") => `(tactic| (intro p hn; generalize hH : upd _ _ _ = H'; have hs := Sg.Same.of_new hH hn; have ho := Sg.at_new hH; clear hH))
local macro_rules | `(tactic| walk_at "sm1") => `(tactic| first | (refine' L2.Same.trans ?ha ?hb; (case hb => assumption)) | (refine' Sg.Same.old ?ha ?hb ?hc; (case hc => assumption); (case hb => walk_at "nn")))
local macro_rules | `(tactic| walk_at "sm") => `(tactic| first | exact L2.Same.refl _ | assumption | (walk_at "sm1"; walk_at "sm"))
local macro_rules | `(tactic| walk_at "nn") => `(tactic| first | assumption | ((refine' L2.Same.free ?ha ?hb; (case hb => assumption)); walk_at "sm"))
local macro_rules | `(tactic| walk_at "dp") => `(tactic| first | assumption | exact L2.Dp.int _ | exact L2.Dp.non | exact L2.Dp.bl _ | exact L2.Dp.str _ | (refine' L2.Dp.tup ?ha ?hb; (case ha => walk_at "hp"); (case hb => walk_at "dpa")) | (refine' L2.Dp.lst ?ha ?hb; (case ha => walk_at "hp"); (case hb => walk_at "dpa")))
local macro_rules | `(tactic| walk_at "dpa") => `(tactic| first | assumption | exact L2.DpAll.nil | exact Sg.DpAll.ints _ | (refine' L2.DpAll.cons ?ha ?hb; (case ha => walk_at "dp"); (case hb => walk_at "dpa")))
local macro_rules | `(tactic| walk_at "fl") => `(tactic| first | assumption | exact Sg.Fl.int _ _ | exact Sg.Fl.non _ | exact Sg.Fl.bool _ _ | (refine' Sg.Fl.tup ?ha; (case ha => walk_at "fla")) | (refine' Sg.Fl.lst ?ha; (case ha => walk_at "fla")))
local macro_rules | `(tactic| walk_at "fla") => `(tactic| first | assumption | exact Sg.Fl.nil | exact Sg.Fl.mapi | (refine' Sg.Fl.cons ?ha ?hb; (case ha => walk_at "fl"); (case hb => walk_at "fla")))
local macro_rules | `(tactic| walk_at "tyx") => `(tactic| first | exact L2.TyX.base (L2.TyOf.int _) | exact L2.TyX.base (L2.TyOf.bl _) | exact L2.TyX.base L2.TyOf.non | exact L2.TyX.base (L2.TyOf.str _) | (refine' L2.TyX.base (L2.TyOf.tup ?ha); (case ha => walk_at "hp")) | (refine' L2.TyX.base (L2.TyOf.lst ?ha); (case ha => walk_at "hp")) | (refine' L2.TyX.base (L2.TyOf.frz ?ha); (case ha => walk_at "hp")))
local macro_rules | `(tactic| walk_at "up") => `(tactic| (generalize hH : upd _ _ _ = H'; have ho := Sg.at_new hH))
local macro_rules | `(tactic| walk_at "lk") => `(tactic| first | with_reducible assumption | with_reducible exact Sg.lk_eq | (refine' Sg.lk_ne ?ha ?hb; (case ha => decide +kernel); (case hb => walk_at "lk")) | (refine' Sg.lk_no ?ha ?hb; (case ha => decide +kernel); (case hb => walk_at "lk")) | rfl)
local macro_rules | `(tactic| walk_at "few") => `(tactic| first | assumption | omega | decide | (refine' Nat.lt_of_le_of_lt (Sg.putF_len ?ha) ?hb; (case ha => walk_at "fewi"); (case hb => decide)))
local macro_rules | `(tactic| walk_at "fewi") => `(tactic| first | assumption | (refine' Sg.putF_len ?ha; (case ha => walk_at "fewi")) | exact Nat.le_refl _)
local macro_rules | `(tactic| walk_at "rd1") => `(tactic| with_reducible (first | refine' Sg.r_seq ?_ | refine' Sg.r_asg ?_ | refine' Sg.r_gname ?_ | (refine' Sg.r_var (by with_unfolding_all rfl) ?_) | refine' Sg.r_c ?_ | refine' Sg.r_op ?_ | refine' Sg.r_un ?_ | refine' Sg.r_cb ?_ | refine' Sg.r_cons ?_ | refine' Sg.r_nil ?_ | (refine' Sg.r_mod ?hc ?_; (case hc => (with_unfolding_all walk_at "side")); (intro z hz z0 z1)) | (refine' Sg.r_rI ?hc ?_; (case hc => (with_unfolding_all walk_at "side"))) | refine' Sg.r_rI0 ?_ | refine' Sg.r_rU ?_ | refine' Sg.r_int ?_ | refine' Sg.r_eqi ?_ | refine' Sg.r_nei ?_ | (refine' Sg.r_ixl ?h ?e ?_; (case h => (with_unfolding_all walk_at "hp")); (case e => (with_unfolding_all rfl))) | (refine' Sg.r_ixt ?h ?e ?_; (case h => (with_unfolding_all walk_at "hp")); (case e => (with_unfolding_all rfl))) | (refine' Sg.r_lenl ?h ?_; (case h => (with_unfolding_all walk_at "hp"))) | (refine' Sg.r_lent ?h ?_; (case h => (with_unfolding_all walk_at "hp"))) | refine' Sg.r_test ?_ | refine' Sg.r_exb ?_ | refine' Sg.r_tB ?_ | refine' Sg.r_exbP ?_ | refine' Sg.r_ifs ?_ | refine' Sg.r_and ?_ | refine' Sg.r_or ?_ | refine' Sg.r_not ?_ | refine' Sg.r_andV ?_ | refine' Sg.r_orV ?_ | refine' Sg.r_notV ?_ | refine' Sg.r_tif ?_ | refine' Sg.r_isN ?_ | refine' Sg.r_notN ?_ | refine' Sg.r_ret ?_ | refine' Sg.r_drop ?_ | refine' Sg.r_next ?_ | refine' Sg.r_call ?_ | refine' Sg.r_make ?_ | refine' Sg.r_meth ?_ | refine' Sg.r_fld ?_ | refine' Sg.r_sfld ?_ | refine' Sg.r_chain ?_ | (refine' Sg.r_fldL ?h ?hc ?hn ?hl ?_; (case h => (with_unfolding_all walk_at "hp")); (case hc => assumption); (case hn => assumption); (case hl => (with_unfolding_all walk_at "lk"))) | (refine' Sg.r_sfldL ?h ?hc ?hn ?hl ?_; (case h => (with_unfolding_all walk_at "hp")); (case hc => assumption); (case hn => assumption); (case hl => (with_unfolding_all walk_at "few")); (with_unfolding_all walk_at "up")) | (refine' Sg.r_gunl ?h ?hl ?_; (case h => (with_unfolding_all walk_at "hp")); (case hl => (with_unfolding_all walk_at "side"))) | (refine' Sg.r_gtup ?h ?hl ?_; (case h => (with_unfolding_all walk_at "hp")); (case hl => (with_unfolding_all walk_at "side"))) | (refine' Sg.r_methL ?h ?hl ?_; (case h => (with_unfolding_all walk_at "hp")); (case hl => (with_unfolding_all walk_at "lk"))) | refine' Sg.r_tup ?_ | refine' Sg.r_lst ?_ | (refine' Sg.r_ktup ?hl ?_; (case hl => (with_unfolding_all first | exact Nat.le_of_ble_eq_true rfl | decide)); (with_unfolding_all walk_at "al")) | (refine' Sg.r_klst ?hl ?_; (case hl => (with_unfolding_all first | exact Nat.le_of_ble_eq_true rfl | decide)); (with_unfolding_all walk_at "al")) | (refine' Sg.r_listl ?h ?_; (case h => (with_unfolding_all walk_at "hp")); (with_unfolding_all walk_at "al")) | (refine' Sg.r_listt ?h ?_; (case h => (with_unfolding_all walk_at "hp")); (with_unfolding_all walk_at "al")) | (refine' Sg.r_tupl ?h ?_; (case h => (with_unfolding_all walk_at "hp")); (with_unfolding_all walk_at "al")) | (refine' Sg.r_tupt ?h ?_; (case h => (with_unfolding_all walk_at "hp"))) | (refine' Sg.r_in (.inr ?h) ?fx ?fs ?_; (case h => (with_unfolding_all walk_at "hp")); (case fx => (with_unfolding_all rfl)); (case fs => (with_unfolding_all rfl))) | (refine' Sg.r_in (.inl ?h) ?fx ?fs ?_; (case h => (with_unfolding_all walk_at "hp")); (case fx => (with_unfolding_all rfl)); (case fs => (with_unfolding_all rfl))) | (refine' Sg.r_sorted ?h ?h64 ?_; (case h => (with_unfolding_all walk_at "hp")); (case h64 => (with_unfolding_all walk_at "side")); (intro ns' p perm rising; revert p; (with_unfolding_all walk_at "al"))) | (refine' Sg.r_app ?h ?hl ?_; (case h => (with_unfolding_all walk_at "hp")); (case hl => (with_unfolding_all walk_at "size")); (with_unfolding_all walk_at "up")) | refine' Sg.r_lc ?_ | refine' Sg.r_for ?_ | refine' Sg.r_irng1 ?_ | refine' Sg.r_irng2 ?_ | refine' Sg.r_ilist ?_ | refine' Sg.r_itup ?_ | (refine' Sg.r_kR1 ?h1 ?h2 ?_; (case h1 => (with_unfolding_all walk_at "side")); (case h2 => (with_unfolding_all walk_at "side"))) | (refine' Sg.r_kR2 ?h1 ?_; (case h1 => (with_unfolding_all refine ⟨?_, ?_, ?_, ?_⟩ <;> walk_at "side"))) | (refine' Sg.r_kIl ?h ?_; (case h => (with_unfolding_all walk_at "hp"))) | (refine' Sg.r_kIt ?h ?_; (case h => (with_unfolding_all walk_at "hp"))) | refine' Sg.r_bm ?_ | refine' Sg.r_bm0 ?_ | (refine' Sg.r_tyl ?h ?_; (case h => (with_unfolding_all walk_at "hp"))) | refine' Sg.r_nonR ?_ | refine' Sg.r_nonN ?_ | refine' Sg.r_isR ?_ | refine' Sg.r_isNN ?_ | refine' Sg.r_nonI ?_ | refine' Sg.r_isI ?_ | refine' L2.iteT ?_ | refine' L2.iteF ?_ | refine' Sg.r_gcons ?_ | refine' Sg.r_gnil ?_ | refine' Sg.r_gsub ?_ | refine' Sg.r_isb ?_ | refine' Sg.r_notb ?_ | (refine' Sg.r_aug (by with_unfolding_all rfl) ?_) | refine' Sg.r_ipI ?_ | (refine' Sg.r_isi (b := true) (L2.ClsV.ty _) ?ht ?hk ?_; (case ht => (with_unfolding_all walk_at "tyx")); (case hk => (with_unfolding_all exact L2.kit_ty (by decide +kernel)))) | (refine' Sg.r_isi (b := false) (L2.ClsV.ty _) ?ht ?hk ?_; (case ht => (with_unfolding_all walk_at "tyx")); (case hk => (with_unfolding_all exact L2.kit_ty (by decide +kernel)))) | refine' Sg.r_gmap ?_ | refine' Sg.r_gmapn ?_ | (refine' Sg.r_iteb ?hb ?_; (case hb => (with_unfolding_all rfl))) | (refine' Sg.r_iteB ?hb ?_; (case hb => (with_unfolding_all rfl)))))
local macro_rules | `(tactic| walk_at "rd") => `(tactic| repeat walk_at "rd1")
local macro_rules | `(tactic| walk_at "rdo") => `(tactic| repeat (first | walk_at "rd1" | (with_reducible refine' Sg.r_iteD ?hc ?_; (case hc => first | assumption | omega)) | (with_reducible refine' Sg.r_iteDn ?hc ?_; (case hc => first | assumption | omega)) | (with_reducible refine' Sg.r_iteND ?hc ?_; (case hc => first | assumption | omega)) | (with_reducible refine' Sg.r_iteNDn ?hc ?_; (case hc => first | assumption | omega))))
local macro_rules | `(tactic| walk_at "rd1") => `(tactic| with_reducible (first | refine' Sg.r_eqs ?_ | refine' Sg.r_nes ?_ | refine' Sg.r_sl ?_ | refine' Sg.r_noP ?_ | refine' Sg.r_part ?_ | refine' Sg.r_kPart ?_ | (refine' Sg.r_slL ?h ?_; (case h => (with_unfolding_all walk_at "hp")); (with_unfolding_all walk_at "al"))))
local macro_rules | `(tactic| walk_at "ca1") => `(tactic| fail)
local macro_rules | `(tactic| walk_at "pr") => `(tactic| first | assumption | omega | walk_at "hp" | exact L2.upd_same | rfl | trivial)
local macro_rules | `(tactic| walk_at "it1") => `(tactic| with_reducible (first | (refine' Sg.r_iteD ?hc ?_; (case hc => first | assumption | omega)) | (refine' Sg.r_iteDn ?hc ?_; (case hc => first | assumption | omega)) | (refine' Sg.r_iteND ?hc ?_; (case hc => first | assumption | omega)) | (refine' Sg.r_iteNDn ?hc ?_; (case hc => first | assumption | omega))))
local macro_rules | `(tactic| walk_at "go1") => `(tactic| first | walk_at "rd1" | walk_at "rx1" | walk_at "ca1" | walk_at "it1")
local macro_rules | `(tactic| walk_at "go") => `(tactic| repeat walk_at "go1")
local macro_rules | `(tactic| walk_at "gs") => `(tactic| repeat' (first | walk_at "go1" | with_reducible refine' Sg.r_ite (fun _ => ?_) (fun _ => ?_) | with_reducible refine' Sg.r_iteN (fun _ => ?_) (fun _ => ?_)))
-- imports: HandS.NoneIn HandS.Defaults HandS.TupMul HandS.Zip HandS.SetFor HandS.SetKeys HandS.Walk HandS.Codes HandS.ForExc HandS.CallSlots HandS.ExcIs HandS.SetBool HandS.Strs HandS.More HandS.Deep KE.GoesEnum
section
variable {P : Program} {w : World} {K : PySem.W.Frag} {mg : Str → Option Value} {base : Heap}
theorem made_same {H H1 : Hp} {x dx : Addr} {o : HO} (nx : H x = none) (nd : H dx = none) (k : ∀ q, q ≠ x → H1 q = upd (upd H dx (.own x)) x o q) : Same H H1 := fun b u e => by
  rw [k b (ne_of_none e nx), upd_ne (ne_of_none e nx), upd_ne (ne_of_none e nd)]
  exact e

/-! ### enumerate of a list -/
def kIe (K : PySem.W.Frag) (R : It → Hp → Prop) : List V → Hp → Prop := fun vs H1 => ∃ a xs, vs = [.ref a] ∧ SqL K H1 a xs ∧ R (Ite K a) H1
theorem r_ienum {K : PySem.W.Frag} {ta : TA} {σ : L2.St} {H : Hp} {R : It → Hp → Prop} (h : ta σ H (kIe K R)) : iEnum K ta σ H R := h
theorem r_kIe {K : PySem.W.Frag} {a : Addr} {xs : List V} {H : Hp} {R : It → Hp → Prop} (h1 : SqL K H a xs) (h : R (Ite K a) H) : kIe K R [.ref a] H := ⟨a, xs, rfl, h1, h⟩
theorem r_forE {K : PySem.W.Frag} {a : Addr} {xs : List V} {σ : L2.St} {H : Hp} {D : Ends} {g : TG} {tb : TS} (Pv : Nat → L2.St → Hp → Prop) (h0 : Pv 0 σ H) (hl : ∀ i σ H, i ≤ xs.length → Pv i σ H → SqL K H a xs)
    (hs : ∀ (i : Nat) (x : V) (σ : L2.St) (H H' : Hp) (T : Addr), xs[i]? = some x → Pv i σ H → H T = none → upd H T (.tup [.int (i : Nat), x]) = H' → g (.ref T) σ H' fun σ2 H2 => tb { D with nx := Pv (i + 1), ct := Pv (i + 1), bk := D.nx } σ2 H2)
    (hd : ∀ σ H, Pv xs.length σ H → D.nx σ H) : kFor g tb D σ (Ite K a) H :=
  for_it walk_enum Pv h0 hl (fun i x σ H H' hlt p y => by
    obtain ⟨T, z, w, e1, e2, e3, e4, e5⟩ := y
    cases e4
    rw [e1]
    exact hs i w σ H H' T e5 p e2 e3.symm) hd
def SqI (K : PySem.W.Frag) (H : Hp) (l : Addr) (ns : List Int) : Prop := SqL K H l (ns.map V.int) ∨ SqT K H l (ns.map V.int)
theorem SqI.mono {K : PySem.W.Frag} {H H' : Hp} {l : Addr} {ns : List Int} (s : Same H H') (h : SqI K H l ns) : SqI K H' l ns := h.imp (fun h => s.seq h) (fun h => Same.tup s h)
theorem inV_ints (k : Int) : ∀ ns : List Int, inV (.int k) (ns.map V.int) = decide (k ∈ ns)
  | [] => rfl
  | n :: ns => by
    have ih := inV_ints k ns
    unfold inV at ih ⊢
    rw [List.map_cons, List.any_cons, ih]
    by_cases e : k = n
    · subst e
      simp [eqV]
    · have e' : ¬ n = k := fun z => e z.symm
      simp [eqV, e, e']
theorem flat_ints : ∀ ns : List Int, (ns.map V.int).all flatV = true
  | [] => rfl
  | n :: ns => by rw [List.map_cons, List.all_cons, flat_ints ns]; rfl

theorem r_neI {K : PySem.W.Frag} {H : Hp} {a b : Addr} {ns : List Int} {Q : V → Hp → Prop} (ha : SqL K H a (ns.map V.int)) (hb : SqL K H b (ns.map V.int)) (q : Q (.bl false) H) : rNeD K (.ref a) (.ref b) H Q := by
  refine r_ned (Dp.ints ha) (Dp.ints hb) (Fl.intlS ns) (Fl.intlS ns) ?_
  rw [(Fl.intl ns).self]
  exact q
theorem r_eqI {K : PySem.W.Frag} {H : Hp} {a b : Addr} {ns : List Int} {Q : V → Hp → Prop} (ha : SqL K H a (ns.map V.int)) (hb : SqL K H b (ns.map V.int)) (q : Q (.bl true) H) : rEqD K (.ref a) (.ref b) H Q := by
  refine r_eqd (Dp.ints ha) (Dp.ints hb) (Fl.intlS ns) (Fl.intlS ns) ?_
  rw [(Fl.intl ns).self]
  exact q

/-! ### exceptions: calls of classes and methods within a try, by the caller's slots; named readings -/
def tMakeSD (C : Addr) (sp : Sp) (dvs : List V) (E : L2.St → XK) (t : TA) : TE := fun σ H Q => t σ H fun vs H1 => ∀ x dx, H1 x = none → H1 dx = none → dx ≠ x → sp (.ref x :: (vs ++ dvs)) (upd (upd H1 dx (.own x)) x (.ins C dx [])) (fun v H2 => v = .non ∧ Q (.ref x) H2) (E σ)
theorem pe_makeSD {X : Cx} {CX : CXT} {k : Nat} {f C : Addr} {fd : FuncData} {ps : List Str} {sp : Sp} {dvs : List V} {ds : List Value} {E : L2.St → XK} {x : Str} {p pos : Pos} {e : Expr} {es : List Expr} {t : TA}
    (M : Mk X.K C f) (F : FnOk X.prog X.w X.K X.mg X.base CX k f fd ps sp) (hr : Room (k + 1) X.A) (hg : Gl X x) (hm : X.mg x = some (.ref C)) (hb : Binds X.K fd ps ds) (hd : Vals dvs ds) (hx : ∀ σ, PassesAt CX X σ (E σ)) (ha : PA X (e :: es) t)
    (hdb : (x == ("__debug__" : Str)) = false := by decide) (he : starEach (e :: es) X.env = (false, eval e X.env) :: starEach es X.env := by rfl) (hpl : (backTo pos (starEach es X.env)).any (·.1) = false := by rfl) :
    PE X (.Call (.Name x p) (e :: es) [] pos) (tMakeSD C sp dvs E t) := by
  refine ⟨fun pins s0 σ H Q I0 h => wpAny_Call_Name_kw (ld_glob I0 hg hm (PySem.W.callWith_K (h₀ := X.base) I0.ok.mod.kin M.kp (thn (ha.run pos pins s0 σ H _ I0 h) fun us s ⟨vs, H1, I, r, q⟩ => ⟨I.kIn, ?_⟩) he hpl) hdb)⟩
  have q0 := q (s.heap.objs.size + 1) s.heap.objs.size (I.hok.fresh (Nat.le_succ _)) (I.hok.fresh (Nat.le_refl _)) (Nat.ne_of_lt (Nat.lt_succ_self _))
  have J := Inv.made (C := C) I
  have rr : Vals (V.ref (s.heap.objs.size + 1) :: (vs ++ dvs)) (Value.ref (s.heap.objs.size + 1) :: (us ++ ds)) := .cons rfl (r.append hd)
  have ll : (Value.ref (s.heap.objs.size + 1) :: us ++ ds).length = ps.length := rr.length.symm.trans (F.len _ _ _ _ q0)
  refine wpAny_call (make_map (f := f) I.kIn M.makes M.init (beq_iff_eq.mp M.fn) (codeAny_mono (F.run _ X.stack _ _ ⟨Value.ref (s.heap.objs.size + 1) :: us, []⟩ (Value.ref (s.heap.objs.size + 1) :: (us ++ ds)) _ _ (E σ) (hr.make C us [])
    (J.env0.make C us []) (hb _ (Value.ref (s.heap.objs.size + 1) :: us) J.kIn ll) rr q0) fun res s' hq => ?_))
  rcases res with er | fl
  · exact hx σ pins _ _ er s' J hq
  · cases fl with
    | ret u =>
      obtain ⟨v, H', J', rv, ev, q3⟩ := J.after hq
      subst ev
      exact ⟨rv, ⟨V.ref (s.heap.objs.size + 1), H', J', rfl, q3⟩⟩
    | next => exact hq.elim
    | brk => exact hq.elim
    | cont => exact hq.elim
theorem r_makeSD {C : Addr} {sp : Sp} {dvs : List V} {E : L2.St → XK} {t : TA} {σ : L2.St} {H : Hp} {Q : V → Hp → Prop} (h : t σ H fun vs H1 => ∀ x dx, H1 x = none → H1 dx = none → dx ≠ x → sp (.ref x :: (vs ++ dvs)) (upd (upd H1 dx (.own x)) x (.ins C dx [])) (fun v H2 => v = .non ∧ Q (.ref x) H2) (E σ)) : tMakeSD C sp dvs E t σ H Q := h
theorem r_callSD {sp : Sp} {dvs : List V} {E : L2.St → XK} {t : TA} {σ : L2.St} {H : Hp} {Q : V → Hp → Prop} (h : t σ H fun vs H1 => sp (vs ++ dvs) H1 Q (E σ)) : tCallSD sp dvs E t σ H Q := h
def tMethSD (C : Addr) (m : Str) (sp : Sp) (dvs : List V) (E : L2.St → XK) (ta : TE) (t : TA) : TE := fun σ H Q => ta σ H fun x H1 => ∃ a dx fs, x = .ref a ∧ H1 a = some (.ins C dx fs) ∧ fs.lookup m = none ∧ t σ H1 fun vs H2 => sp (x :: (vs ++ dvs)) H2 Q (E σ)
theorem pe_methSD {X : Cx} {CX : CXT} {k : Nat} {f C : Addr} {fd : FuncData} {ps : List Str} {sp : Sp} {dvs : List V} {ds : List Value} {E : L2.St → XK} {o e : Expr} {m : Str} {apos pos : Pos} {es : List Expr} {ta : TE} {t : TA} {pl : Sem Bool}
    (he : PE X o ta) (c : Cls X.K C) (hm : Meth X.K C m f) (F : FnOk X.prog X.w X.K X.mg X.base CX k f fd ps sp) (hr : Room k X.A) (hb : Binds X.K fd ps ds) (hd : Vals dvs ds) (hx : ∀ σ, PassesAt CX X σ (E σ)) (ha : PA X (e :: es) t)
    (hst : starEach (e :: es) X.env = (false, eval e X.env) :: starEach es X.env := by rfl) (hpl : (backTo pos (starEach es X.env)).any (·.1) = false := by rfl)
    (ht : eval (.Call (.Attribute o m apos) (e :: es) [] pos) X.env = (do
      let ov ← eval o X.env
      standAt apos.atName
      let (f, first) ← holding [ov] (getMethod ov m pl)
      callWith pos f first (backTo pos (starEach (e :: es) X.env)) (backToKw pos (keywordEach [] X.env))) := by rfl) :
    PE X (.Call (.Attribute o m apos) (e :: es) [] pos) (tMethSD C m sp dvs E ta t) := by
  refine ⟨fun pins s σ H Q I h => PySem.W.methodCall_KW (pl := pl) (thn (he.run pins s σ H _ I h) fun u s1 ⟨x, H1, I1, rx, a, dx, fs, ex, ea, l, q⟩ => ?_) ht⟩
  subst ex
  obtain rfl : u = Value.ref a := rx
  exact getmeth_ok I1 ea c hm l (PySem.W.callWith_K (first := [.ref a]) (h₀ := X.base) I1.ok.mod.kin hm.kp (thn (ha.run pos pins s1 σ H1 _ I1 q) fun us s2 ⟨vs, H2, I2, r, q2⟩ => ⟨I2.kIn, run_fnSD (us := .ref a :: us) (vs := .ref a :: vs) F hr hb hd (hx σ) I2 (.cons rfl r) q2⟩) hst hpl)
def kMethSD (C : Addr) (m : Str) (sp : Sp) (dvs : List V) (E : L2.St → XK) (σ : L2.St) (t : TA) (Q : V → Hp → Prop) : V → Hp → Prop := fun x H1 => ∃ a dx fs, x = .ref a ∧ H1 a = some (.ins C dx fs) ∧ fs.lookup m = none ∧ t σ H1 fun vs H2 => sp (x :: (vs ++ dvs)) H2 Q (E σ)
theorem r_methSD {C : Addr} {m : Str} {sp : Sp} {dvs : List V} {E : L2.St → XK} {ta : TE} {t : TA} {σ : L2.St} {H : Hp} {Q : V → Hp → Prop} (h : ta σ H (kMethSD C m sp dvs E σ t Q)) : tMethSD C m sp dvs E ta t σ H Q := h
theorem r_kmethSD {C a dx : Addr} {fs : List (Str × V)} {m : Str} {sp : Sp} {dvs : List V} {E : L2.St → XK} {t : TA} {σ : L2.St} {H : Hp} {Q : V → Hp → Prop} (h : H a = some (.ins C dx fs)) (hl : fs.lookup m = none) (q : t σ H fun vs H2 => sp (.ref a :: (vs ++ dvs)) H2 Q (E σ)) : kMethSD C m sp dvs E σ t Q (.ref a) H := ⟨a, dx, fs, rfl, h, hl, q⟩
/-- raise X('..') -/
def tRz (C : Addr) (E : XK) : TS := fun _ _ H => E (.ref C) none H
theorem ps_rz {X : Cx} {C : Addr} {E : XK} {bmB : List Value} {B newId initId : String} {x m : Str} {j : Nat} {p p2 pos pos2 : Pos} (hc : X.calm = true) (tk : Takes X (fun cls d _ H => E cls d H)) (F : ExcBaseFacts B newId initId bmB) (q : PySem.W.excIn X.K C bmB newId = true)
    (gC : X.mg x = some (.ref C)) (kC : PySem.W.keepIn X.K (.ref C) = true) (r : Raises X (.ref C)) (hg : Gl X x) (hdb : (x == ("__debug__" : Str)) = false := by decide) :
    PS X (.Raise (some (.Call (.Name x p) [.Constant (.str m) j p2] [] pos)) none pos2) (tRz C E) := ps_raise hc tk (pmk_own F q gC kC r hg hdb)
theorem r_rz {C : Addr} {E : XK} {D : Ends} {σ : L2.St} {H : Hp} (h : E (.ref C) none H) : tRz C E D σ H := h
/-- try: .. except S as n: .. -/
def tTryA (K : PySem.W.Frag) (c : Value) (i : Nat) (tb : WX → TS) (ts : Addr → Value → Option Addr → TS) (Wout : WX) : TS := fun D σ H => tb (wAs K c i ts Wout D) D σ H
theorem ps_tryA {X : Cx} {x n : Str} {c : Value} {i : Nat} {body suite : List Stmt} {b₀ : Stmt} {np pos pos' : Pos} {tb : WX → TS} {ts : Addr → Value → Option Addr → TS} {Wout : WX} (hs : X.stack = X.env :: X.outer) (hf : X.env.frame = some X.env.locals) (hN : X.N.Nodup) (hi : X.N[i]? = some n)
    (hln : X.env.kindOf n = some .local) (hc : Names X x c) (tk : Takes X Wout)
    (hb : ∀ (W : WX) (pn : List (Addr × Obj)) (xe : Value → Shared → Prop), Takes (X.tr pn xe) W → PassesOwn (model X.prog X.w) X.A X.env xe → PSs (X.tr pn xe) body (tb W))
    (hsu : ∀ (a : Addr) (oe : Obj) (cls : Value) (d : Option Addr) (pn : List (Addr × Obj)), Zc cls d oe → (∃ vs, oe.data = .fields vs) → PSs (X.suite a ((a, oe) :: pn)) (b₀ :: suite) (ts a cls d)) :
    PS X (.Try body [.ExceptHandler (some (.Name x np)) (some n) (b₀ :: suite) pos'] [] [] pos) (tTryA X.K c i tb ts Wout) := ps_try_as hs hf hN hi hln hc tk hb hsu
theorem r_tryA {K : PySem.W.Frag} {c : Value} {i : Nat} {tb : WX → TS} {ts : Addr → Value → Option Addr → TS} {Wout : WX} {D : Ends} {σ : L2.St} {H : Hp} (h : tb (wAs K c i ts Wout D) D σ H) : tTryA K c i tb ts Wout D σ H := h
/-- what the suite is asked of an own exception without fields -/
theorem wAs_own {K : PySem.W.Frag} {c : Value} {i : Nat} {ts : Addr → Value → Option Addr → TS} {Wout : WX} {D : Ends} {C : Addr} {σ : L2.St} {H : Hp} (e : PySem.W.exmOne K (.ref C) c = some true)
    (h : ∀ a, H a = none → ts a (.ref C) none { nx := fun σ' H' => D.nx (σ'.set i none) H', rt := D.rt, bk := fun σ' H' => D.bk (σ'.set i none) H', ct := fun σ' H' => D.ct (σ'.set i none) H' } (σ.set i (some (.ref a))) H) : wAs K c i ts Wout D (.ref C) none σ H :=
  ⟨true, e, fun _ => h, fun z => nomatch z⟩
/-- isinstance(e, c) within the suite, its class told by the reading -/
def rIsX (K : PySem.W.Frag) (a : Addr) (cls : Value) (d : Option Addr) : List V → Hp → VK → Prop := fun xs H Q => ∃ (D : Addr) (c : V) (cv : Value) (b : Bool), cls = .ref D ∧ d = none ∧ ExcC K D ∧ xs = [.ref a, c] ∧ (∀ u, RelV c u → u = cv) ∧ PySem.W.kitOne K (.ref D) cv = some b ∧ Q (.bl b) H
theorem call_isX {X : Cx} {a : Addr} {cls : Value} {d : Option Addr} {oe : Obj} {pn : List (Addr × Obj)} (hz : Zc cls d oe) (hf : ∃ vs, oe.data = .fields vs) : CallR (X.suite a ((a, oe) :: pn)) (.builtin "isinstance") (rIsX X.K a cls d) := by
  intro pins s σ H xs us Q I r h
  obtain ⟨D, c, cv, b, rfl, rfl, hE, e1, e2, e3, q⟩ := h
  exact call_isE hE hz hf pins s σ H xs us Q I r ⟨c, cv, b, e1, e2, e3, q⟩
theorem r_isXc {K : PySem.W.Frag} {a D C : Addr} {b : Bool} {H : Hp} {Q : V → Hp → Prop} (hE : ExcC K D) (hk : PySem.W.kitOne K (.ref D) (.ref C) = some b) (q : Q (.bl b) H) : rIsX K a (.ref D) none [.ref a, .ref C] H Q := ⟨D, _, _, b, rfl, rfl, hE, rfl, fun _ r => r, hk, q⟩
theorem r_isXt {K : PySem.W.Frag} {a D : Addr} {t : String} {b : Bool} {H : Hp} {Q : V → Hp → Prop} (hE : ExcC K D) (hk : PySem.W.kitOne K (.ref D) (.type t) = some b) (q : Q (.bl b) H) : rIsX K a (.ref D) none [.ref a, .ty t] H Q := ⟨D, _, _, b, rfl, rfl, hE, rfl, fun _ r => r, hk, q⟩
/-- isinstance against an own class, and a built-in one -/
theorem kit_own {K : PySem.W.Frag} {t : Value} {C : Addr} {b : Bool} (hd : PySem.W.hasDictIn K C = true) (ht : PySem.W.typeIn K (.ref C) = some (.type "type")) (hs : PySem.W.subIn K t (.ref C) = some b) (hn : b = true ∨ (t == .ref C) = false) : PySem.W.kitOne K t (.ref C) = some b := by
  obtain ⟨cd, hc, _⟩ := PySem.W.any_some hd
  unfold PySem.W.kitOne PySem.W.kitCls
  cases e : (t == Value.ref C) with
  | true =>
    rcases hn with rfl | h
    · rfl
    · rw [e] at h; cases h
  | false =>
    rw [if_neg Bool.false_ne_true]
    dsimp only
    rw [hc, ht]
    exact hs
theorem kit_blt {K : PySem.W.Frag} {C : Addr} {T : String} {b : Bool} (hk : PySem.W.kitMeta T = true) (hs : PySem.W.subIn K (.ref C) (.type T) = some b) : PySem.W.kitOne K (.ref C) (.type T) = some b := by
  unfold PySem.W.kitOne PySem.W.kitCls
  rw [if_neg (by intro z; cases z)]
  dsimp only
  rw [if_pos hk]
  exact hs

/-! ### pieces of a heap that are changed apart from each other -/
def Dj (a b : Hp) : Prop := ∀ x, a x = none ∨ b x = none
def emp : Hp := fun _ => none
def one (l : Addr) (o : HO) : Hp := fun b => if b = l then some o else none
def uni (a b : Hp) : Hp := fun x => (a x).or (b x)
/-- all but a piece -/
def rest (u H : Hp) : Hp := fun b => if u b = none then H b else none
/-- what is new -/
def fr (H H' : Hp) : Hp := fun b => if H b = none then H' b else none
/-- a piece is changed, all else stands -/
structure Act (f H f' H' : Hp) : Prop where
  inn : Same f' H'
  frm : ∀ b o, H b = some o → f b = none → H' b = some o
  new : ∀ b, f' b ≠ none → f b ≠ none ∨ H b = none
  liv : ∀ b, H' b = none → H b = none
theorem Dj.symm {a b : Hp} (d : Dj a b) : Dj b a := fun x => (d x).elim .inr .inl
theorem Dj.left {a b : Hp} {x : Addr} {o : HO} (d : Dj a b) (h : a x = some o) : b x = none := by
  rcases d x with e | e
  · rw [e] at h; cases h
  · exact e
theorem Dj.right {a b : Hp} {x : Addr} {o : HO} (d : Dj a b) (h : b x = some o) : a x = none := d.symm.left h
theorem Same.out {k H : Hp} {x : Addr} (s : Same k H) (h : H x = none) : k x = none := by
  cases e : k x with
  | none => rfl
  | some o => rw [s _ _ e] at h; cases h
theorem Act.refl {f H : Hp} (s : Same f H) : Act f H f H := ⟨s, fun _ _ h _ => h, fun _ h => .inl h, fun _ h => h⟩
theorem Act.of {f H H' : Hp} (s : Same f H) (g : Same H H') : Act f H f H' := ⟨s.trans g, fun _ _ h _ => g _ _ h, fun _ h => .inl h, fun _ h => g.free h⟩
theorem Act.keep {f H f' H' k : Hp} (A : Act f H f' H') (s : Same k H) (d : Dj k f) : Same k H' := fun b o h => A.frm b o (s b o h) (d.left h)
theorem Act.dj {f H f' H' k : Hp} (A : Act f H f' H') (s : Same k H) (d : Dj k f) : Dj k f' := fun x => by
  cases e : k x with
  | none => exact .inl rfl
  | some o =>
    refine .inr ?_
    cases e' : f' x with
    | none => rfl
    | some o' =>
      rcases A.new x (by rw [e']; intro z; cases z) with z | z
      · exact absurd (d.left e) z
      · rw [s _ _ e] at z; cases z
theorem Act.trans {f H f' H' f2 H2 : Hp} (A : Act f H f' H') (B : Act f' H' f2 H2) (s : Same f H) : Act f H f2 H2 := by
  refine ⟨B.inn, fun b o h hf => B.frm b o (A.frm b o h hf) ?_, fun b hb => ?_, fun b h => A.liv b (B.liv b h)⟩
  · cases e : f' b with
    | none => rfl
    | some o' =>
      rcases A.new b (by rw [e]; intro z; cases z) with z | z
      · exact absurd hf z
      · rw [h] at z; cases z
  · rcases B.new b hb with z | z
    · exact A.new b z
    · cases e : H b with
      | none => exact .inr rfl
      | some o =>
        cases e' : f b with
        | some o' => exact .inl (by intro y; cases y)
        | none => rw [A.frm b o e e'] at z; cases z
theorem Act.after {f H f' H' H2 : Hp} (A : Act f H f' H') (s : Same H' H2) : Act f H f' H2 := ⟨A.inn.trans s, fun b o h hf => s _ _ (A.frm b o h hf), A.new, fun b h => A.liv b (s.free h)⟩
theorem Act.ahead {f H0 H f' H' : Hp} (s : Same H0 H) (sf : Same f H0) (A : Act f H f' H') : Act f H0 f' H' := (Act.of sf s).trans A sf
/-- one object of a piece is changed -/
theorem Act.put {f H : Hp} {l : Addr} {o ol : HO} (s : Same f H) (h : f l = some ol) : Act f H (upd f l o) (upd H l o) := by
  refine ⟨fun b u e => ?_, fun b u e hb => ?_, fun b hb => .inl ?_, fun b e => ?_⟩
  · by_cases c : b = l
    · rw [c, upd_same] at e ⊢; exact e
    · rw [upd_ne c] at e ⊢; exact s _ _ e
  · rw [upd_ne (fun z => by rw [z, h] at hb; cases hb)]; exact e
  · by_cases c : b = l
    · rw [c, h]; intro z; cases z
    · rw [upd_ne c] at hb; exact hb
  · by_cases c : b = l
    · rw [c, upd_same] at e; cases e
    · rw [upd_ne c] at e; exact e
/-- a new object joins a piece -/
theorem Act.add {f H : Hp} {l : Addr} {o : HO} (s : Same f H) (h : H l = none) : Act f H (upd f l o) (upd H l o) := by
  refine ⟨fun b u e => ?_, fun b u e hb => ?_, fun b hb => ?_, fun b e => ?_⟩
  · by_cases c : b = l
    · rw [c, upd_same] at e ⊢; exact e
    · rw [upd_ne c] at e ⊢; exact s _ _ e
  · rw [upd_ne (fun z => by rw [z, h] at e; cases e)]; exact e
  · by_cases c : b = l
    · exact .inr (by rw [c]; exact h)
    · rw [upd_ne c] at hb; exact .inl hb
  · by_cases c : b = l
    · rw [c, upd_same] at e; cases e
    · rw [upd_ne c] at e; exact e
/-- objects of H that stood ahead and are new join a piece -/
theorem Act.join {f H H' k : Hp} (s : Same f H) (g : Same H H') (hk : Same k H') (n : ∀ b, k b ≠ none → H b = none) : Act f H (uni f k) H' := by
  refine ⟨fun b u e => ?_, fun b u e _ => g _ _ e, fun b hb => ?_, fun b h => g.free h⟩
  · unfold uni at e
    cases e' : f b with
    | some o => rw [e'] at e; exact g _ _ (s _ _ (by rw [e', ← e]; rfl))
    | none => rw [e'] at e; exact hk _ _ e
  · unfold uni at hb
    cases e' : f b with
    | some o => exact .inl (by intro z; cases z)
    | none => rw [e'] at hb; exact .inr (n b hb)
theorem rest_same {u H : Hp} : Same (rest u H) H := fun b o e => by
  unfold rest at e
  split at e
  · exact e
  · cases e
theorem rest_at {u H : Hp} {b : Addr} {o : HO} (h : H b = some o) (hu : u b = none) : rest u H b = some o := by unfold rest; rw [if_pos hu]; exact h
theorem rest_dj {u H : Hp} : Dj (rest u H) u := fun x => by
  unfold rest
  by_cases e : u x = none
  · exact .inr e
  · exact .inl (if_neg e)
theorem rest_in {k u H : Hp} (s : Same k H) (d : Dj k u) : Same k (rest u H) := fun b o e => rest_at (s _ _ e) (d.left e)
theorem rest_mono {u H H' : Hp} (s : Same H H') : Same (rest u H) (rest u H') := rest_in (rest_same.trans s) rest_dj
theorem fr_same {H H' : Hp} : Same (fr H H') H' := fun b o e => by
  unfold fr at e
  split at e
  · exact e
  · cases e
theorem fr_new {H H' : Hp} : ∀ b, fr H H' b ≠ none → H b = none := fun b e => by
  unfold fr at e
  split at e
  · assumption
  · exact absurd rfl e
theorem fr_at {H H' : Hp} {b : Addr} {o : HO} (n : H b = none) (h : H' b = some o) : fr H H' b = some o := by unfold fr; rw [if_pos n]; exact h
theorem new_dj {N H k : Hp} (n : ∀ b, N b ≠ none → H b = none) (s : Same k H) : Dj N k := fun x => by
  cases e : N x with
  | none => exact .inl rfl
  | some o => exact .inr (Same.out s (n x (by rw [e]; intro z; cases z)))
theorem fr_rest {u H H' : Hp} (s : Same u H) : Same (fr H H') (rest u H') := rest_in fr_same (new_dj fr_new s)
theorem Act.rest {f H f' H' : Hp} (A : Act f H f' H') : Same (rest f H) (rest f' H') := rest_in (A.keep rest_same rest_dj) (A.dj rest_same rest_dj)
theorem uni_same {a b H : Hp} (s : Same a H) (t : Same b H) : Same (uni a b) H := fun x o e => by
  unfold uni at e
  cases e' : a x with
  | some u => rw [e'] at e; exact s _ _ (by rw [e', ← e]; rfl)
  | none => rw [e'] at e; exact t _ _ e
theorem uni_left {a b : Hp} : Same a (uni a b) := fun x o e => by unfold uni; rw [e]; rfl
theorem uni_right {a b : Hp} (d : Dj a b) : Same b (uni a b) := fun x o e => by unfold uni; rw [d.right e]; exact e
theorem uni_dj {a b k : Hp} (s : Dj k a) (t : Dj k b) : Dj k (uni a b) := fun x => by
  rcases s x with e | e
  · exact .inl e
  · rcases t x with e' | e'
    · exact .inl e'
    · exact .inr (by unfold uni; rw [e, e']; rfl)
/-- a piece beside another one -/
theorem Act.beside {f H f' H' r : Hp} (A : Act f H f' H') (s : Same r H) (d : Dj r f) : Act (uni f r) H (uni f' r) H' := by
  refine ⟨uni_same A.inn (A.keep s d), fun b o h hb => A.frm b o h ?_, fun b hb => ?_, A.liv⟩
  · cases e : f b with
    | none => rfl
    | some u => unfold uni at hb; rw [e] at hb; cases hb
  · unfold uni at hb ⊢
    cases e : f' b with
    | none =>
      rw [e] at hb
      cases e2 : f b with
      | none => exact .inl hb
      | some o => exact .inl (by intro z; cases z)
    | some u =>
      rcases A.new b (by rw [e]; intro z; cases z) with z | z
      · refine .inl ?_
        cases e2 : f b with
        | none => exact absurd e2 z
        | some o => intro y; cases y
      · exact .inr z
theorem one_at {l : Addr} {o : HO} : one l o l = some o := by unfold one; rw [if_pos rfl]
theorem one_same {l : Addr} {o : HO} {H : Hp} (h : H l = some o) : Same (one l o) H := fun b u e => by
  unfold one at e
  split at e
  · rename_i c; rw [c, h]; exact e
  · cases e
theorem upd_one {l : Addr} {o o' : HO} : upd (one l o) l o' = one l o' := by
  funext b
  by_cases c : b = l
  · rw [c, upd_same, one_at]
  · rw [upd_ne c]; unfold one; rw [if_neg c, if_neg c]
theorem dj_one {k : Hp} {l : Addr} {o : HO} (h : k l = none) : Dj k (one l o) := fun x => by
  by_cases c : x = l
  · rw [c]; exact .inl h
  · exact .inr (by unfold one; rw [if_neg c])
/-- a list that is changed by its owner alone -/
theorem Act.lst {l : Addr} {o o' : HO} {H : Hp} (h : H l = some o) : Act (one l o) H (one l o') (upd H l o') := by
  have := Act.put (o := o') (one_same h) one_at
  rw [upd_one] at this
  exact this
theorem hid_mono {D : Addr} {H H' : Hp} (s : L2.Same H H') : L2.Same (hid D H) (hid D H') := fun b o e => by
  obtain ⟨hb, e⟩ := of_hid e
  rw [hid_ne hb]
  exact s _ _ e
/-- what is younger than f alone -/
theorem Act.free {f H f' H' : Hp} {b : Addr} (A : Act f H f' H') (s : Same f' H') (h : H' b = none) : H b = none ∧ f' b = none := ⟨A.liv b h, Same.out s h⟩
theorem DpAll.snoc {K : PySem.W.Frag} {H : Hp} : ∀ {vs : List V} {ds : List PyData} {v : V} {d : PyData}, DpAll K H vs ds → Dp K H v d → DpAll K H (vs ++ [v]) (ds ++ [d])
  | _, _, _, _, .nil, h => .cons h .nil
  | _, _, _, _, .cons h t, q => .cons h (DpAll.snoc t q)
theorem DpAll.set {K : PySem.W.Frag} {H : Hp} : ∀ {vs : List V} {ds : List PyData} {v : V} {d : PyData} (i : Nat), DpAll K H vs ds → Dp K H v d → DpAll K H (vs.set i v) (ds.set i d)
  | _, _, _, _, _, .nil, _ => .nil
  | _, _, _, _, 0, .cons _ t, q => .cons q t
  | _, _, _, _, i + 1, .cons h t, q => .cons h (DpAll.set i t q)
theorem Fl.str {s : Str} (h : PyData.canLay0 (.str s) = true) (n : Nat) : Fl n (.str s) := ⟨h, by simp [PyData.depth]⟩

section
open PySem.Spec PyProof.Rows
/-! ### {e for x in xs if t}, e an int -/
/-- what the block asks once its walk stands at J -/
def kSI (w : World) (g : TG) (tt : TT) (te : TE) (vs : List Nat) (σ : L2.St) (Q : V → Hp → Prop) : It → Hp → Prop := fun J H1 => ∀ D, H1 D = none → ∃ W : Nat → Nat → Hp → Prop, (∃ m, W 0 m (upd H1 D (SetO w D (fun _ => false) 0))) ∧ ∀ i m H, W i m H →
  (J.stop i H ∧ Q (.ref D) H) ∨ (J.go i H ∧ ∃ Nx : Hp → Prop, (∀ H', Nx H' → ∃ m', m' < m ∧ W (i + 1) m' H') ∧ ∀ x H', J.yld i H x H' → g x (wipe σ vs) H' fun σ2 H2 => wipe σ2 vs = wipe σ vs ∧ tt σ2 H2 fun b H3 =>
    if b = true then te σ2 H3 fun y H4 => ∃ k : Int, y = .int k ∧ ∃ (S : Int → Bool) (n : Nat), H4 D = some (SetO w D S n) ∧ n + 1 < PySem.scanBound ∧ Nx (upd H4 D (SetO w D (fun j => S j || decide (j = k)) (if S k = true then n else n + 1))) else Nx H3)
def tSI (w : World) (wi : TI) (g : TG) (tt : TT) (te : TE) (vs : List Nat) : TE := fun σ H Q => wi σ H (kSI w g tt te vs σ Q)
theorem pe_si {X : Cx} {elt tg iter : Expr} {ifs : List Expr} {scope : Scope} {own : List (Str × Nat)} {pos : Pos} {wi : TI} {g : TG} {tt : TT} {te : TE} (hc : X.calm = true) (hN : X.N.Nodup) (hi : PI X tg iter wi) (ok : BlkOk X.N X.env.scope scope own)
    (hg : ∀ (z : Shared) (M : Hp) (c : Addr) (cl : List (Str × Addr)) (fp : List Addr), PG (X.blk z M scope (compEnvC scope cl c X.env) fp) tg g) (ht : ∀ (z : Shared) (M : Hp) (c : Addr) (cl : List (Str × Addr)) (fp : List Addr), PTs (X.blk z M scope (compEnvC scope cl c X.env) fp) ifs tt)
    (he : ∀ (z : Shared) (M : Hp) (c : Addr) (cl : List (Str × Addr)) (fp : List Addr), PE (X.blk z M scope (compEnvC scope cl c X.env) fp) elt te) (hs : ∀ x, foldedSetIterable iter X.env x = pure x := by intro _; rfl) :
    PE X (.SetComp elt [⟨tg, iter, ifs, 0⟩] scope pos) (tSI X.w wi g tt te (own.map (·.2))) := by
  refine ⟨fun pins z0 σ H Q I h => ?_⟩
  rw [PpSet.eval_SetComp]
  have caps : ∀ y ∈ scope.names, y.2 = .free → ∃ c, X.env.cells.lookup y.1 = some c := fun y hy e => (ok.free y hy e).elim (fun k => I.ok.has _ (.inl k)) fun k => I.ok.has _ (.inr k)
  refine wpAny_comprehension_free rfl hs (closure_ok caps) ok.kind (fun y hy e => (ok.uniq y hy).trans (congrArg some e)) (thn (hi.run pins z0 σ H _ I h) fun _ z1 hx => thn hx fun _ z2 ⟨it, fp, tn, J, Ha, e, Ia, T, at0, fps, q⟩ => ?_)
  subst e
  refine PpSet.newSet_ok (newEnv_comp ?_)
  generalize hD : z2.heap.objs.size = D
  obtain ⟨W, ⟨m0, w0⟩, turn⟩ := q D (Ia.hok.fresh (Nat.le_of_eq hD))
  generalize eS : Heap.push z2.heap { cls := .type "set", dict := none, data := .set #[] 0 (.fresh 0 0 (!X.w.params.followText "set-order")) } = hp1
  generalize eZ : ({ z2 with heap := hp1 } : Shared) = z3
  have eh : z3.heap = hp1 := by rw [← eZ]
  generalize eH : upd Ha D (SetO X.w D (fun _ => false) 0) = Hb at w0
  have Ib : Inv X pins σ Hb z3 := by
    subst eZ eS eH
    refine Ia.laid (t' := z2.toks) (fun b o k => Heap.get?_push_of_some _ k) (Nat.le_of_eq hD) ?_
    subst hD
    exact setO_new (setR_fresh X.w)
  have small : ∀ b ∈ fp, b < z2.heap.objs.size := fun b hb => by
    obtain ⟨o, k, _⟩ := T.obj _ _ at0 b hb
    exact Heap.lt_size k
  have fpb : ∀ b ∈ fp, FpOk X pins Hb b ∧ b < z3.heap.objs.size := fun b hb => by
    have lt := small b hb
    refine ⟨⟨?_, (fps b hb).2⟩, ?_⟩
    · subst eH
      rw [upd_ne (by subst hD; exact Nat.ne_of_lt lt)]
      exact (fps b hb).1
    · rw [eh, ← eS, Heap.size_push]
      exact Nat.lt_succ_of_lt lt
  have at3 : tn 0 z3.heap := T.keep _ _ _ at0 fun b _ o k => by
    rw [eh, ← eS]
    exact Heap.get?_push_of_some _ k
  have Ic := block_start Ib ok hN fpb
  have pg := hg z3 Hb z3.heap.objs.size (cellsFrom (z3.heap.objs.size + 1) scope.names (cloFrom X.env.cells scope.names [])) fp
  have pt := ht z3 Hb z3.heap.objs.size (cellsFrom (z3.heap.objs.size + 1) scope.names (cloFrom X.env.cells scope.names [])) fp
  have pe := he z3 Hb z3.heap.objs.size (cellsFrom (z3.heap.objs.size + 1) scope.names (cloFrom X.env.cells scope.names [])) fp
  show codeAny _ _ (.compStart _ 0 (.ref it) (.ref D) (compEnvC scope (cellsFrom (z3.heap.objs.size + 1) scope.names (cloFrom X.env.cells scope.names [])) z3.heap.objs.size X.env)) _ { z3 with heap := pushCells (z3.heap.push { cls := .type "dict", data := .dict #[] }) scope.names }
  generalize eC : compEnvC scope (cellsFrom (z3.heap.objs.size + 1) scope.names (cloFrom X.env.cells scope.names [])) z3.heap.objs.size X.env = ce at Ic pg pt pe ⊢
  have eL : ce.locals = z3.heap.objs.size := by subst eC; rfl
  generalize e4 : ({ z3 with heap := pushCells (z3.heap.push { cls := .type "dict", data := .dict #[] }) scope.names } : Shared) = z4 at Ic ⊢
  have at4 : tn 0 z4.heap := T.keep _ _ _ at3 fun b _ o k => by
    rw [← e4]
    exact pushCells_keeps _ _ _ _ (Heap.get?_push_of_some _ k)
  have kp : ∀ {σ' : L2.St} {M : Hp} {z : Shared}, Inv (X.blk z3 Hb scope ce fp) [] σ' M z → (∀ b ∈ fp, M b = none) → ∀ b ∈ fp, FpOk (X.blk z3 Hb scope ce fp) [] M b := fun J hn b hb =>
    ⟨hn b hb, (J.ok.exf b hb).1, J.ok.exfs b hb, .inl hb, fun x c k => (J.ok.exf b hb).2 x c k, fun p hp => by cases (show p ∈ ([] : List (Addr × Obj)) from hp)⟩
  refine PpSet.codeAny_compStart_set ?loop (T.self X.A 0 _ _ _ at4 ?loop)
  case loop =>
    refine PpSet.compLoopS_any (fun n z => ∃ i M, Inv (X.blk z3 Hb scope ce fp) [] (wipe σ (own.map (·.2))) M z ∧ tn i z.heap ∧ (∀ b ∈ fp, M b = none) ∧ W i n M) ?_ m0 ⟨0, Hb, Ic, at4, fun b hb => (fpb b hb).1.1, w0⟩
    rintro n z5 ⟨i, M5, I5, at5, nf, w5⟩
    rcases turn i n M5 w5 with ⟨stop, qe⟩ | ⟨go, Nx, hNx, step⟩
    · refine thnF (T.done (X.blk z3 Hb scope ce fp) rfl rfl rfl hc i [] z5 _ M5 (fun _ _ => False) I5 (kp I5 nf) at5 stop) fun r z6 ⟨hr, I6⟩ => ?_
      subst hr
      have I7 : Inv X pins σ M5 z6 := Ib.call' (ch := fp) I6.os I6.base I6.hok I6.bare fun b hb =>
        let f := (fpb b hb).1.2
        ⟨f.2.2.1, f.1, f.2.2.2.1, f.2.2.2.2⟩
      have nC : M5 z3.heap.objs.size = none := by
        rw [← eL]
        exact I6.free
      obtain ⟨m, hm, _⟩ := I6.loc
      have hm : z6.heap.Ns z3.heap.objs.size m := by
        rw [← eL]
        exact hm
      have F := Ib.fpOk (Nat.le_refl _) nC
      refine ⟨m, hm, fun hq sb => ⟨.ref D, M5, I7.turned (t' := z6.toks) (fun b o hb k => (sb.2 b hb).trans k) F.1 F.2.1 F.2.2.2.1 F.2.2.2.2.1 F.2.2.2.2.2, rfl, qe⟩⟩
    · refine thnF (T.item (X.blk z3 Hb scope ce fp) rfl rfl rfl hc i [] z5 _ M5 (fun _ _ => False) I5 (kp I5 nf) at5 go) fun r z6 ⟨u, hr, h6⟩ => ?_
      subst hr
      refine thnF h6 fun _ z7 ⟨x, M7, I7, r7, y7, at7, n7⟩ => ?_
      refine thnF (pg.run _ z7 _ M7 x u _ (I7.pinned (kp I7 n7) (T.obj _ _ at7)) r7 (step x M7 y7)) fun _ z8 ⟨σ8, M8, I8, hw, q8⟩ => ?_
      refine thnF (pt.run _ z8 σ8 M8 _ I8 q8) fun b z9 ⟨M9, I9, q9⟩ => ?_
      have fin : ∀ {z : Shared} {M : Hp}, Inv (X.blk z3 Hb scope ce fp) ([] ++ pinsAt fp z7.heap) σ8 M z → Nx M → ∃ m, m < n ∧ ∃ i M, Inv (X.blk z3 Hb scope ce fp) [] (wipe σ (own.map (·.2))) M z ∧ tn i z.heap ∧ (∀ b ∈ fp, M b = none) ∧ W i m M := fun {z M} J nx => by
        obtain ⟨m', lt, w'⟩ := hNx M nx
        have pin : ∀ b ∈ fp, ∀ o, z7.heap.get? b = some o → z.heap.get? b = some o ∧ M b = none := fun b hb o k =>
          have y := J.pin (b, o) (List.mem_append_right _ (List.mem_append_right _ (mem_pinsAt hb k)))
          ⟨y.1, y.2.1⟩
        refine ⟨m', lt, i + 1, M, (J.unpinned (pins := [])).weak (by rw [← hw, wipe_length]) (fun j v k => ?_), T.keep _ _ _ at7 fun b hb o k => (pin b hb o k).1, fun b hb => ?_, w'⟩
        · rw [← hw] at k
          exact (wipe_some k).1
        · obtain ⟨o, k, _⟩ := T.obj _ _ at7 b hb
          exact (pin b hb o k).2
      cases b with
      | false =>
        simp only [Bool.false_eq_true, if_false] at q9 ⊢
        exact fin I9 q9
      | true =>
        simp only [if_true] at q9 ⊢
        refine thnF (pe.run _ z9 σ8 M9 _ I9 q9) fun y z10 ⟨v, M10, I10, r10, k, ev, S, c, hS, lt, nx⟩ => ?_
        subst ev
        obtain ⟨tk, rfl⟩ := r10
        refine setR_add (setO_get (X := X.blk z3 Hb scope ce fp) I10 hS) lt fun hq sb new => ?_
        refine fin (I10.write (e := D) (t' := z10.toks + 1) (by rw [hS]; trivial) (.inl rfl) (fun b u hb hu => (sb.2 b hb).trans hu) ?_ (setO_new new)) nx
        obtain ⟨o, _, _, _, ho, _⟩ := new
        exact ⟨o, ho⟩
theorem r_si {w : World} {wi : TI} {g : TG} {tt : TT} {te : TE} {vs : List Nat} {σ : L2.St} {H : Hp} {Q : V → Hp → Prop} (h : wi σ H (kSI w g tt te vs σ Q)) : tSI w wi g tt te vs σ H Q := h
/-- over a list, its turns by what they give -/
theorem r_siL {w : World} {K : PySem.W.Frag} {a : Addr} {xs : List V} {slot : Nat} {vs : List Nat} {tt : TT} {te : TE} {σ : L2.St} {H : Hp} {Q : V → Hp → Prop} (f : Nat → Option Int) (hx : SqL K H a xs) (hl : xs.length ≤ 4000) (hv : vs = [slot])
    (hs : ∀ (i : Nat) (x : V) (H' : Hp), xs[i]? = some x → L2.Same H H' → ∀ G : Option Int → Hp → Prop, (∀ H2, L2.Same H' H2 → G (f i) H2) →
      tt ((wipe σ vs).set slot (some x)) H' fun b H3 => if b = true then te ((wipe σ vs).set slot (some x)) H3 fun y H4 => ∃ k : Int, y = .int k ∧ G (some k) H4 else G none H3)
    (q : ∀ (H' : Hp) (D : Addr) (S : Int → Bool) (n : Nat), L2.Same H H' → H D = none → H' D = some (SetO w D S n) → n ≤ xs.length → (∀ k, S k = true ↔ ∃ i, i < xs.length ∧ f i = some k) → Q (.ref D) H') :
    kSI w (gName slot) tt te vs σ Q (Itl K a) H := by
  intro D hD
  refine ⟨fun i m H' => m = xs.length - i ∧ i ≤ xs.length ∧ L2.Same H H' ∧ ∃ S n, H' D = some (SetO w D S n) ∧ n ≤ i ∧ ∀ k, S k = true ↔ ∃ j, j < i ∧ f j = some k,
    ⟨xs.length, rfl, Nat.zero_le _, fun b o e => by rw [upd_ne (ne_of_none e hD)]; exact e, _, 0, upd_same, Nat.le_refl 0, fun k => ⟨fun z => by simp at z, fun ⟨j, z, _⟩ => absurd z (by omega)⟩⟩, ?_⟩
  rintro i m H' ⟨rfl, hi, s, S, n, hS, hn, hk⟩
  have hx' := s.seq hx
  by_cases hlt : i < xs.length
  · refine .inr ⟨⟨xs, xs[i], hx', by simp [hlt]⟩, fun H2 => L2.Same H H2 ∧ ∃ S n, H2 D = some (SetO w D S n) ∧ n ≤ i + 1 ∧ ∀ k, S k = true ↔ ∃ j, j < i + 1 ∧ f j = some k, fun H2 ⟨s2, S2, n2, h2, l2, k2⟩ => ⟨xs.length - (i + 1), by omega, rfl, hlt, s2, S2, n2, h2, l2, k2⟩, fun x H2 y => ?_⟩
    obtain ⟨rfl, y⟩ := y
    have ex := y xs hx'
    refine r_gname ⟨?_, ?_⟩
    · subst hv
      simp [wipe, List.set_set]
    · refine hs i x _ ex s (fun o H4 => match o with
        | some k => ∃ (S : Int → Bool) (n : Nat), H4 D = some (SetO w D S n) ∧ n + 1 < PySem.scanBound ∧ (L2.Same H (upd H4 D (SetO w D (fun j => S j || decide (j = k)) (if S k = true then n else n + 1))) ∧ ∃ S' n', upd H4 D (SetO w D (fun j => S j || decide (j = k)) (if S k = true then n else n + 1)) D = some (SetO w D S' n') ∧ n' ≤ i + 1 ∧ ∀ k, S' k = true ↔ ∃ j, j < i + 1 ∧ f j = some k)
        | none => L2.Same H H4 ∧ ∃ S n, H4 D = some (SetO w D S n) ∧ n ≤ i + 1 ∧ ∀ k, S k = true ↔ ∃ j, j < i + 1 ∧ f j = some k) fun H4 s4 => ?_
      have hS4 := s4 _ _ hS
      cases ef : f i with
      | none =>
        refine ⟨s.trans s4, S, n, hS4, by omega, fun k => (hk k).trans ⟨fun ⟨j, z, e⟩ => ⟨j, by omega, e⟩, fun ⟨j, z, e⟩ => ⟨j, ?_, e⟩⟩⟩
        rcases Nat.lt_or_ge j i with c | c
        · exact c
        · rw [show j = i by omega, ef] at e
          cases e
      | some k =>
        refine ⟨S, n, hS4, Nat.lt_of_le_of_lt (Nat.succ_le_succ (Nat.le_trans hn (Nat.le_trans hi hl))) (by decide), fun b o e => ?_, _, _, upd_same, by split <;> omega, fun k' => ?_⟩
        · rw [upd_ne (ne_of_none e hD)]
          exact s4 _ _ (s _ _ e)
        · rw [Bool.or_eq_true, hk, decide_eq_true_iff]
          constructor
          · rintro (⟨j, z, e⟩ | rfl)
            · exact ⟨j, by omega, e⟩
            · exact ⟨i, by omega, ef⟩
          · rintro ⟨j, z, e⟩
            rcases Nat.lt_or_ge j i with c | c
            · exact .inl ⟨j, c, e⟩
            · rw [show j = i by omega, ef] at e
              cases e
              exact .inr rfl
  · have e : i = xs.length := by omega
    subst e
    exact .inl ⟨⟨xs, hx', Nat.le_refl _⟩, q H' D S n s hD hS hn hk⟩
theorem r_sset {w : World} {H : Hp} {D : Addr} {S : Int → Bool} {n : Nat} {Q : V → Hp → Prop} (h : H D = some (SetO w D S n)) (h64 : n < 64)
    (q : ∀ (ns : List Int) (p : Addr), ns.Pairwise (· < ·) → (∀ k : Int, k ∈ ns ↔ S k = true) → ns.length = n → H p = none → Q (.ref p) (upd H p (.lst (ns.map V.int)))) : rSortedSet w [.ref D] H Q := ⟨D, S, n, rfl, h, h64, q⟩

def rIndexN (K : PySem.W.Frag) : V → List V → Hp → VK → Prop := fun x xs H Q => ∃ (a : Addr) (ys : List V) (j : Nat), x = .ref a ∧ xs = [.non] ∧ SqL K H a ys ∧ (∀ z ∈ ys, NoneOr K H z) ∧ ys[j]? = some .non ∧ (∀ (m : Nat) (z : V), m < j → ys[m]? = some z → isNon z = false) ∧ Q (.int (j : Nat)) H
theorem mt_indexN {X : Cx} (hu : X.A.units + 64 < cLine) : MtR X "list.index" (rIndexN X.K) := by
  intro pins z0 σ H x xs v us Q I rx rxs h
  obtain ⟨a, ys, j, rfl, rfl, hs, hn, hz, hno, q⟩ := h
  cases rx
  cases rxs with
  | cons ry rt =>
    cases rt
    cases ry
    obtain ⟨its, rv, ⟨⟨cls, dd, data, sl⟩, n, ho, hc, hdn, hd⟩, hlen⟩ := I.list hs
    simp only at hc hd
    subst hc hd
    obtain ⟨u, hu', ru⟩ := rv.get hz
    cases ru
    obtain ⟨hjl, hje⟩ := List.getElem?_eq_some_iff.mp hu'
    have hu1 : X.A.in1.units < cLine := by show X.A.units + 1 < cLine; omega
    have hj : j < its.toArray.size := by simpa using hjl
    have hvl := rv.length
    have hsl := sizeLine_eq
    refine call_meets PySem.F.slot_list_index ⟨_, ho, rfl⟩ PySem.F.entry_list_index (PySem.F.args_list_index_2 _ _)
      (SeqAt.list_indexAt a its.toArray n dd sl Value.none PySem.Numpy.isNone j hj (by omega) ?_ ?_) ⟨ho, fun u2 h2 => mem_non I hu1 rv hn u2 (by simpa using h2), ⟨.int (j : Nat), H, I.tok _, ⟨_, rfl⟩, q⟩⟩
    · rw [show its.toArray[j] = Value.none from by simpa using hje]
      rfl
    · intro m hm hmj
      have hml : m < its.length := by simpa using hm
      have hmy : m < ys.length := by omega
      obtain ⟨u2, hu2, ru2⟩ := rv.get (List.getElem?_eq_getElem hmy)
      obtain ⟨_, hme⟩ := List.getElem?_eq_some_iff.mp hu2
      rw [show its.toArray[m] = u2 from by simpa using hme, isNone_of ru2 (hn _ (List.getElem_mem hmy))]
      exact hno m _ hmj (List.getElem?_eq_getElem hmy)
theorem r_indexN {K : PySem.W.Frag} {a : Addr} {ys : List V} {j : Nat} {H : Hp} {Q : V → Hp → Prop} (hs : SqL K H a ys) (hn : ∀ z ∈ ys, NoneOr K H z) (hz : ys[j]? = some .non) (hno : ∀ (m : Nat) (z : V), m < j → ys[m]? = some z → isNon z = false) (q : Q (.int (j : Nat)) H) : rIndexN K (.ref a) [.non] H Q := ⟨a, ys, j, rfl, rfl, hs, hn, hz, hno, q⟩
theorem r_noneIn {K : PySem.W.Frag} {a : Addr} {ys : List V} {neg : Bool} {H : Hp} {Q : V → Hp → Prop} (hs : SqL K H a ys) (hn : ∀ z ∈ ys, NoneOr K H z) (q : Q (.bl (if neg = true then !ys.any isNon else ys.any isNon)) H) : rNoneIn K neg .non (.ref a) H Q := ⟨a, ys, rfl, rfl, hs, hn, q⟩
end
theorem hu64 {k : Nat} {A : Around} (r : Room k A) : A.units + 64 < cLine := by have := r.un; omega
theorem hu65 {k : Nat} {A : Around} (r : Room k A) : A.units + 65 < cLine := by have := r.un; omega
/-! ### numbers drawn from the script (the cell of an empty script is its number) -/
def sp_row (K : PySem.W.Frag) : Sp := fun vs H Q _ => ∃ (a : Addr) (ns : List Int) (k : Int), vs = [.ref a, .int k] ∧ SqL K H a (ns.map V.int) ∧ ns.length ≤ 63 ∧ 0 ≤ k ∧ k ≤ 1000 ∧ ∀ z : Int, 0 ≤ z → Q (.int z) H
theorem ok_law_row (T : Txt K mg) : FnOk P w K mg base CX0 1 T.a_law_row T.fd_law_row ["script", "k"] (sp_row K) := by
  refine T.F_law_row.ok sc_law_row (fun vs H Q E h => ?_) (fun cdv A outer s H vs Q E hr h => ?_)
  · obtain ⟨a, ns, k, rfl, _⟩ := h
    rfl
  · refine ⟨_, (pss_cons (ps_set (i := 2) sc_law_row.nd rfl (Or.inl rfl) (pv 1))
       (C8.pss_cut (ps_if (pt_cmpR op_gt (pe_callB (c_len) (by rfl) T.n_len (by decide +kernel) (pa_cons (pv 0) pa_nil)) pe_int (nomark _))
       (pss_one (ps_set (i := 2) sc_law_row.nd rfl (Or.inl rfl) (pe_callTy c_int (by rfl) T.n_int (by decide +kernel) (pa_cons (pe_ix ix_list (pv 0) (pe_op op_mod (pv 1) (pe_callB (c_len) (by rfl) T.n_len (by decide +kernel) (pa_cons (pv 0) pa_nil))) (fun _ _ => rfl)) pa_nil))))
       pss_nil)
       (C8.pss_cut (ps_if (pt_cmpR op_lt (pv 2) pe_int (nomark _))
       (pss_one (ps_set (i := 2) sc_law_row.nd rfl (Or.inl rfl) (pe_op op_sub (pe_op op_mul (pe_un un_neg pe_int) (pv 2)) pe_int)))
       pss_nil)
       (C8.pss_cut (ps_if (PW.pt (pw_and (pt_cmpR op_lt (pv 1) (pe_callB (c_len) (by rfl) T.n_len (by decide +kernel) (pa_cons (pv 0) pa_nil)) (nomark _)) (pw_and1 (pt_cmpR op_ge (pv 2) (pe_op op_pow pe_int pe_int) (nomark _)))))
       (pss_one (ps_ret (pv 2)))
       pss_nil)
       (pss_cons (ps_set (i := 3) sc_law_row.nd rfl (Or.inl rfl) (pe_op op_mod (pe_callTy c_int (by rfl) T.n_int (by decide +kernel) (pa_cons (pe_op op_add (pe_op op_add (pe_op op_mul (pv 2) pe_int) (pe_op op_mul (pv 1) pe_int)) pe_int) pa_nil)) pe_int))
       (pss_cons (ps_set (i := 4) sc_law_row.nd rfl (Or.inl rfl) (pe_op op_mod (pe_callTy c_int (by rfl) T.n_int (by decide +kernel) (pa_cons (pe_op op_add (pe_op op_add (pe_op op_add (pe_op op_mul (pv 3) pe_int) (pv 2)) (pe_op op_mul (pv 1) pe_int)) pe_int) pa_nil)) pe_int))
       (pss_cons (ps_set (i := 3) sc_law_row.nd rfl (Or.inl rfl) (pe_op op_mod (pe_callTy c_int (by rfl) T.n_int (by decide +kernel) (pa_cons (pe_op op_add (pe_op op_add (pe_op op_mul (pv 3) pe_int) (pe_op op_mul (pv 4) pe_int)) (pv 1)) pa_nil)) pe_int))
       (pss_one (ps_ret (pe_op op_add (pe_op op_mul (pv 4) pe_int) (pv 3))))))))))), ?_⟩
    try dsimp only [cxOf, Cx.nox, Cx.wish]
    obtain ⟨a, ns, k, rfl, hS, h63, k0, k1, q⟩ := h
    walk_at "rd"
    refine r_cut (fun σ' H' => ∃ z : Int, σ' = [some (.ref a), some (.int k), some (.int z), none, none] ∧ H = H') ?_ ?_
    · walk_at "rd"
      refine r_ite (fun hlen => ?_) (fun _ => ?_)
      · rw [List.length_map] at hlen
        walk_at "rd"
        rename_i z hz z0 z1
        rw [List.length_map] at z1
        refine r_ixl hS (v := .int (ns.getD z.toNat 0)) ?_ ?_
        · obtain ⟨n, rfl⟩ := Int.eq_ofNat_of_zero_le z0
          refine atI_nat ?_
          have hn : n < ns.length := by omega
          rw [List.getElem?_map, List.getElem?_eq_getElem hn, List.getD_eq_getElem?_getD, Int.toNat_natCast, List.getElem?_eq_getElem hn]
          rfl
        · walk_at "rd"
          exact ⟨_, rfl, rfl⟩
      · exact ⟨_, rfl, rfl⟩
    · rintro _ _ ⟨z, rfl, rfl⟩
      walk_at "rd"
      refine r_cut (fun σ' H' => ∃ z : Int, 0 ≤ z ∧ σ' = [some (.ref a), some (.int k), some (.int z), none, none] ∧ H = H') ?_ ?_
      · walk_at "rd"
        refine r_ite (fun _ => ?_) (fun _ => ?_)
        · walk_at "rd"
          exact ⟨_, by omega, rfl, rfl⟩
        · exact ⟨_, by omega, rfl, rfl⟩
      · rintro _ _ ⟨y, y0, rfl, rfl⟩
        walk_at "rd"
        refine r_cutS ?_ ?_
        · walk_at "rd"
          refine r_ite (fun _ => ?_) (fun _ => ?_)
          · walk_at "rd"
            refine r_ite (fun _ => ?_) (fun _ => ?_)
            · walk_at "rd"
              exact q _ y0
            · exact ⟨rfl, rfl⟩
          · walk_at "rd"
            exact ⟨rfl, rfl⟩
        · walk_at "rd"
          exact q _ (by omega)

local macro_rules | `(tactic| walk_at "rx1") => `(tactic| with_reducible (first | refine' Sg.r_prop ?_ | (refine' Sg.r_kprop ?h ?_; (case h => (with_unfolding_all walk_at "hp"))) | refine' Sg.r_irev ?_ | (refine' Sg.r_kIv ?h ?_; (case h => (with_unfolding_all walk_at "hp"))) | refine' Sg.r_makeN ?_ | refine' Sg.r_callN ?_ | refine' Sg.r_makeSD ?_ | refine' Sg.r_callSD ?_ | refine' Sg.r_methSD ?_ | (refine' Sg.r_kmethSD ?h ?hl ?_; (case h => (with_unfolding_all walk_at "hp")); (case hl => (with_unfolding_all walk_at "lk"))) | refine' Sg.r_tryA ?_ | refine' Sg.r_din ?_ | refine' Sg.r_kdi ?_ | (refine' Sg.r_kdi2 ?h ?_; (case h => (with_unfolding_all walk_at "hp"))) | (refine' Sg.r_kdi2f ?h ?_; (case h => assumption)) | refine' Sg.r_dnotin ?_ | refine' Sg.r_kdn ?_ | (refine' Sg.r_kdn2 ?h ?_; (case h => (with_unfolding_all walk_at "hp"))) | refine' Sg.r_dget ?_ | refine' Sg.r_kdg ?_ | refine' Sg.r_dget1 ?_ | (refine' Sg.r_kdt ?h ?_; (case h => (with_unfolding_all walk_at "hp"))) | (refine' Sg.r_kdt2 ?h ?_; (case h => (with_unfolding_all walk_at "hp"))) | refine' Sg.r_dput ?_ | refine' Sg.r_kdp ?_ | refine' Sg.r_kdp2 ?_ | (refine' Sg.r_kdp3 ?h ?hl ?_; (case h => (with_unfolding_all walk_at "hp")); (case hl => (with_unfolding_all walk_at "side")); (with_unfolding_all walk_at "up")) | refine' Sg.r_ddel ?_ | refine' Sg.r_kdd ?_ | refine' Sg.r_dpop1 ?_ | (refine' Sg.r_kdo ?h ?_; (case h => (with_unfolding_all walk_at "hp"))) | refine' Sg.r_ikeys ?_ | (refine' Sg.r_kIk ?h ?_; (case h => assumption)) | (refine' Sg.r_dnew ?_; (with_unfolding_all walk_at "al")) | (refine' Sg.r_lenD ?h ?_; (case h => (with_unfolding_all walk_at "hp"))) | (refine' Sg.r_dictD ?h ?_; (case h => (with_unfolding_all walk_at "hp")); (with_unfolding_all walk_at "al"))))
local macro_rules | `(tactic| walk_at "rx") => `(tactic| repeat (first | walk_at "rd1" | walk_at "rx1"))
/-! ### the model -/
structure OF where
  num : Int
  acc : Str
  res : Int
inductive Rs where
  | handle (n : Int)
  | file (r : OF)
  | done
  | fault (s : Str)
def firstN : List (Option OF) → Option Nat
  | [] => none
  | none :: _ => some 0
  | some _ :: t => (firstN t).map (· + 1)
def getM (m : List (Option OF)) (h : Int) : Option OF := if 0 ≤ h ∧ h < 16 then m.getD h.toNat none else none
def opF (m : List (Option OF)) (kind hd more : Int) (acc : Str) : Rs × List (Option OF) :=
  if kind = 0 then match firstN m with
    | none => (.fault "TooManyOpen", m)
    | some i => (.handle i, m.set i (some ⟨more, acc, 0⟩))
  else match getM m hd with
    | none => (.fault "BadHandle", m)
    | some r => if (kind = 3 ∧ r.acc = "write") ∨ (3 < kind ∧ r.acc = "read") then (.fault "BadHandle", m)
      else if kind = 1 then (.file r, m.set hd.toNat none)
      else if kind = 5 then (.done, m.set hd.toNat (some { r with res := more }))
      else (.file r, m)
theorem opF_len (m : List (Option OF)) (kind hd more : Int) (acc : Str) : (opF m kind hd more acc).2.length = m.length := by
  unfold opF
  split
  · split
    · rfl
    · exact List.length_set ..
  · split
    · rfl
    · split
      · rfl
      · split
        · exact List.length_set ..
        · split
          · exact List.length_set ..
          · rfl
theorem first_none : ∀ {m : List (Option OF)}, firstN m = none → ∀ x ∈ m, x ≠ none
  | none :: t, h, _, _ => by simp [firstN] at h
  | some r :: t, h, x, hx => by
    rcases List.mem_cons.mp hx with rfl | hx
    · intro z; cases z
    · exact first_none (by simpa [firstN] using h) x hx
theorem first_some : ∀ {m : List (Option OF)} {i : Nat}, firstN m = some i → m[i]? = some none ∧ ∀ j x, j < i → m[j]? = some x → x ≠ none
  | none :: t, i, h => by
    simp [firstN] at h
    subst h
    exact ⟨rfl, fun j x hj => absurd hj (Nat.not_lt_zero _)⟩
  | some r :: t, i, h => by
    simp only [firstN, Option.map_eq_some_iff] at h
    obtain ⟨k, hk, rfl⟩ := h
    obtain ⟨h1, h2⟩ := first_some hk
    refine ⟨by simpa using h1, fun j x hj hx => ?_⟩
    cases j with
    | zero => simp at hx; rw [← hx]; intro z; cases z
    | succ j => exact h2 j x (by omega) (by simpa using hx)
/-! ### open files and handles in the heap -/
structure OfFs (fs : List (Str × V)) (r : OF) : Prop where
  few : fs.length ≤ 20
  num : fs.lookup ("number" : Str) = some (.int r.num)
  acc : fs.lookup ("access" : Str) = some (.str r.acc)
  res : fs.lookup ("reserved" : Str) = some (.int r.res)
def OfAt (C : Addr) (H : Hp) (o : Addr) (r : OF) : Prop := ∃ dx fs, H o = some (.ins C dx fs) ∧ OfFs fs r
theorem OfAt.mono {C o : Addr} {r : OF} {H H' : Hp} (s : Same H H') (h : OfAt C H o r) : OfAt C H' o r := by
  obtain ⟨dx, fs, h1, h2⟩ := h
  exact ⟨dx, fs, s _ _ h1, h2⟩
theorem OfFs.res' {fs : List (Str × V)} {r : OF} (h : OfFs fs r) (n : Int) (hl : (putF "reserved" (.int n) fs).length ≤ 20) : OfFs (putF "reserved" (.int n) fs) { r with res := n } := by
  obtain ⟨h1, h2, h3, h4⟩ := h
  exact ⟨hl, by walk_at "lk", by walk_at "lk", by walk_at "lk"⟩
theorem putF_lenS {f : Str} {x v : V} : ∀ {fs : List (Str × V)}, fs.lookup f = some v → (putF f x fs).length = fs.length
  | [], h => by simp at h
  | (g, y) :: r, h => by
    unfold putF
    by_cases e : g = f
    · rw [if_pos e]
      rfl
    · rw [if_neg e]
      rw [List.lookup_cons] at h
      have hb : (f == g) = false := by
        cases hb : f == g with
        | false => rfl
        | true => exact absurd (eq_of_beq hb).symm e
      rw [hb] at h
      rw [List.length_cons, List.length_cons, putF_lenS h]
def En (C : Addr) (f : Hp) (v : V) (x : Option OF) : Prop := match x with
  | none => v = .non
  | some r => ∃ o, v = .ref o ∧ OfAt C f o r
theorem En.mono {C : Addr} {v : V} {x : Option OF} {H H' : Hp} (s : Same H H') (h : En C H v x) : En C H' v x := by
  cases x with
  | none => exact h
  | some r =>
    obtain ⟨o, e, h⟩ := h
    exact ⟨o, e, h.mono s⟩
structure HdFs (fs : List (Str × V)) (l : Addr) : Prop where
  few : fs.length ≤ 20
  files : fs.lookup ("files" : Str) = some (.ref l)
  n1 : fs.lookup ("check_free" : Str) = none
  n2 : fs.lookup ("acquire" : Str) = none
  n3 : fs.lookup ("get" : Str) = none
  n4 : fs.lookup ("reading" : Str) = none
  n5 : fs.lookup ("writing" : Str) = none
  n6 : fs.lookup ("free" : Str) = none
  n7 : fs.lookup ("reserve" : Str) = none
  n8 : fs.lookup ("opened_numbers" : Str) = none
  n9 : fs.lookup ("fork" : Str) = none
/-- handles: the piece f of the heap -/
structure HdR (CH CO : Addr) (f : Hp) (h : Addr) (m : List (Option OF)) (dx : Addr) (fs : List (Str × V)) (l : Addr) (vs : List V) : Prop where
  ins : f h = some (.ins CH dx fs)
  flds : HdFs fs l
  lst : f l = some (.lst vs)
  ens : ∀ i : Nat, i < 16 → En CO f (vs.getD i .non) (m.getD i none)
  lm : m.length = 16
  lv : vs.length = 16
  apart : ∀ (i j : Nat) (o : Addr), vs[i]? = some (.ref o) → vs[j]? = some (.ref o) → i = j
  off : ∀ (i : Nat) (o : Addr), vs[i]? = some (.ref o) → o ≠ h
def HdP (CH CO : Addr) (f : Hp) (h : Addr) (m : List (Option OF)) : Prop := ∃ dx fs l vs, HdR CH CO f h m dx fs l vs
theorem getM_at {CH CO : Addr} {f : Hp} {h : Addr} {m : List (Option OF)} {dx : Addr} {fs : List (Str × V)} {l : Addr} {vs : List V} (R : HdR CH CO f h m dx fs l vs) {hd : Int} {r : OF} (e : getM m hd = some r) : 0 ≤ hd ∧ hd < 16 ∧ m[hd.toNat]? = some (some r) ∧ ∃ o, vs[hd.toNat]? = some (.ref o) ∧ OfAt CO f o r := by
  unfold getM at e
  split at e
  · rename_i hb
    have hl := R.lm
    have hv := R.lv
    have := R.ens hd.toNat (by omega)
    rw [e] at this
    obtain ⟨o, e1, h1⟩ := this
    rw [List.getD_eq_getElem?_getD, List.getElem?_eq_getElem (by omega), Option.getD_some] at e e1
    exact ⟨hb.1, hb.2, by rw [List.getElem?_eq_getElem (by omega), e], o, by rw [List.getElem?_eq_getElem (by omega), e1], h1⟩
  · cases e
theorem getM_no {CH CO : Addr} {f : Hp} {h : Addr} {m : List (Option OF)} {dx : Addr} {fs : List (Str × V)} {l : Addr} {vs : List V} (R : HdR CH CO f h m dx fs l vs) {hd : Int} (e : getM m hd = none) (h0 : 0 ≤ hd) (h1 : hd < 16) : vs[hd.toNat]? = some .non ∧ m[hd.toNat]? = some none := by
  unfold getM at e
  rw [if_pos ⟨h0, h1⟩] at e
  have hl := R.lm
  have hv := R.lv
  have := R.ens hd.toNat (by omega)
  rw [e] at this
  rw [List.getD_eq_getElem?_getD, List.getElem?_eq_getElem (by omega), Option.getD_some] at e
  exact ⟨by rw [List.getElem?_eq_getElem (by omega)]; rw [List.getD_eq_getElem?_getD, List.getElem?_eq_getElem (by omega), Option.getD_some] at this; rw [this], by rw [List.getElem?_eq_getElem (by omega), e]⟩
theorem HdR.nones {CH CO : Addr} {f H : Hp} {h : Addr} {m : List (Option OF)} {dx : Addr} {fs : List (Str × V)} {l : Addr} {vs : List V} (R : HdR CH CO f h m dx fs l vs) (s : Same f H) (mo : PySem.W.mroIn K CO (.type "object") = some true) (oe : PySem.W.findIn K (.ref CO) "__eq__" = some (some (.builtin "object.__eq__"))) : ∀ z ∈ vs, NoneOr K H z := by
  intro z hz
  obtain ⟨i, hi, e⟩ := List.getElem_of_mem hz
  have hv := R.lv
  have h := R.ens i (by omega)
  rw [List.getD_eq_getElem?_getD, List.getElem?_eq_getElem hi, Option.getD_some, e] at h
  cases hm : m.getD i none with
  | none => rw [hm] at h; exact .inl h
  | some r =>
    rw [hm] at h
    obtain ⟨o, rfl, dx, fs, h1, h2⟩ := h
    exact .inr ⟨o, CO, dx, fs, rfl, s _ _ h1, mo, oe⟩
theorem HdR.isNon {CH CO : Addr} {f : Hp} {h : Addr} {m : List (Option OF)} {dx : Addr} {fs : List (Str × V)} {l : Addr} {vs : List V} (R : HdR CH CO f h m dx fs l vs) {i : Nat} (hi : i < 16) : isNon (vs.getD i .non) = (m.getD i none).isNone := by
  have h := R.ens i hi
  cases hm : m.getD i none with
  | none => rw [hm] at h; rw [show vs.getD i .non = .non from h]; rfl
  | some r =>
    rw [hm] at h
    obtain ⟨o, e, _⟩ := h
    rw [e]; rfl
theorem HdR.first {CH CO : Addr} {f : Hp} {h : Addr} {m : List (Option OF)} {dx : Addr} {fs : List (Str × V)} {l : Addr} {vs : List V} (R : HdR CH CO f h m dx fs l vs) {i : Nat} (e : firstN m = some i) : i < 16 ∧ vs[i]? = some .non ∧ m[i]? = some none ∧ ∀ (j : Nat) (z : V), j < i → vs[j]? = some z → L2.isNon z = false := by
  obtain ⟨h1, h2⟩ := first_some e
  have hl := R.lm
  have hv := R.lv
  have hi : i < 16 := by
    rcases Nat.lt_or_ge i 16 with z | z
    · exact z
    · rw [List.getElem?_eq_none (by omega)] at h1; cases h1
  have key : ∀ j, j < 16 → ∀ z, vs[j]? = some z → L2.isNon z = (m.getD j none).isNone := fun j hj z hz => by
    have := R.isNon hj
    rw [List.getD_eq_getElem?_getD, hz, Option.getD_some] at this
    exact this
  refine ⟨hi, ?_, h1, fun j z hj hz => ?_⟩
  · have := R.ens i hi
    rw [List.getD_eq_getElem?_getD (l := m), h1, Option.getD_some] at this
    rw [List.getElem?_eq_getElem (by omega)]
    rw [List.getD_eq_getElem?_getD, List.getElem?_eq_getElem (by omega), Option.getD_some] at this
    rw [show vs[i] = .non from this]
  · rw [key j (by omega) z hz]
    have hj' : j < m.length := by omega
    have := h2 j m[j] hj (List.getElem?_eq_getElem hj')
    rw [List.getD_eq_getElem?_getD, List.getElem?_eq_getElem hj', Option.getD_some]
    cases hm : m[j] with
    | none => exact absurd hm this
    | some r => rfl
theorem HdR.full {CH CO : Addr} {f : Hp} {h : Addr} {m : List (Option OF)} {dx : Addr} {fs : List (Str × V)} {l : Addr} {vs : List V} (R : HdR CH CO f h m dx fs l vs) (e : firstN m = none) : vs.any L2.isNon = false := by
  rw [List.any_eq_false]
  intro z hz
  obtain ⟨i, hi, ez⟩ := List.getElem_of_mem hz
  have hv := R.lv
  have hl := R.lm
  have := R.isNon (i := i) (by omega)
  rw [List.getD_eq_getElem?_getD, List.getElem?_eq_getElem hi, Option.getD_some, ez] at this
  rw [this]
  have hm := first_none e m[i] (List.getElem_mem (by omega))
  rw [List.getD_eq_getElem?_getD, List.getElem?_eq_getElem (by omega), Option.getD_some]
  cases hm' : m[i] with
  | none => exact absurd hm' hm
  | some r => intro z; cases z
/-- one entry is set -/
theorem HdR.put {CH CO : Addr} {f : Hp} {h : Addr} {m : List (Option OF)} {dx : Addr} {fs : List (Str × V)} {l : Addr} {vs : List V} (R : HdR CH CO f h m dx fs l vs) {i : Nat} {f' : Hp} {v : V} {x : Option OF} (e : upd f l (.lst (vs.set i v)) = f') (hx : En CO f' v x)
    (hn : ∀ o, v = .ref o → o ≠ h ∧ ∀ j : Nat, vs[j]? ≠ some (.ref o)) : HdP CH CO f' h (m.set i x) := by
  obtain ⟨h1, h2, h3, h4, h5, h6, h7, h8⟩ := R
  have ne : h ≠ l := ne_of h1 h3 (by intro z; cases z)
  refine ⟨dx, fs, l, vs.set i v, ?_, h2, by rw [← e, upd_same], fun j hj => ?_, by rw [List.length_set]; exact h5, by rw [List.length_set]; exact h6, fun a b o ha hb => ?_, fun a o ha => ?_⟩
  · rw [← e, upd_ne ne]; exact h1
  · rw [List.getD_eq_getElem?_getD, List.getD_eq_getElem?_getD]
    by_cases c : i = j
    · subst c
      rw [List.getElem?_set_self (by omega), List.getElem?_set_self (by omega)]
      exact hx
    · rw [List.getElem?_set_ne c, List.getElem?_set_ne c, ← List.getD_eq_getElem?_getD, ← List.getD_eq_getElem?_getD]
      have := h4 j hj
      cases hm : m.getD j none with
      | none => rw [hm] at this; exact this
      | some r =>
        rw [hm] at this
        obtain ⟨o, e1, dx', fs', h9, h10⟩ := this
        exact ⟨o, e1, dx', fs', by rw [← e, upd_ne (ne_of h9 h3 (by intro z; cases z))]; exact h9, h10⟩
  · by_cases ca : i = a
    · by_cases cb : i = b
      · rw [← ca, ← cb]
      · subst ca
        rw [List.getElem?_set_ne cb] at hb
        rcases Nat.lt_or_ge i vs.length with z | z
        · rw [List.getElem?_set_self z] at ha
          exact absurd hb ((hn o (Option.some.inj ha)).2 b)
        · rw [List.getElem?_eq_none (by rw [List.length_set]; exact z)] at ha; cases ha
    · rw [List.getElem?_set_ne ca] at ha
      by_cases cb : i = b
      · subst cb
        rcases Nat.lt_or_ge i vs.length with z | z
        · rw [List.getElem?_set_self z] at hb
          exact absurd ha ((hn o (Option.some.inj hb)).2 a)
        · rw [List.getElem?_eq_none (by rw [List.length_set]; exact z)] at hb; cases hb
      · rw [List.getElem?_set_ne cb] at hb
        exact h7 a b o ha hb
  · by_cases ca : i = a
    · subst ca
      rcases Nat.lt_or_ge i vs.length with z | z
      · rw [List.getElem?_set_self z] at ha
        exact (hn o (Option.some.inj ha)).1
      · rw [List.getElem?_eq_none (by rw [List.length_set]; exact z)] at ha; cases ha
    · rw [List.getElem?_set_ne ca] at ha
      exact h8 a o ha
def sp_OpenFile___init (C : Addr) : Sp := fun args_ H Q _ => ∃ (o dx : Addr) (n : Int) (x : Str) (b : Int), args_ = [.ref o, .int n, .str x, .int b] ∧ H o = some (.ins C dx []) ∧ ∀ H', (∀ c, c ≠ o → H' c = H c) → OfAt C H' o ⟨n, x, b⟩ → Q .non H'
theorem i_OpenFile___init {C : Addr} {args_ : List V} {H : Hp} {Q : V → Hp → Prop} {E : XK} {o dx : Addr} {n : Int} {x : Str} {b : Int} (ev : args_ = [.ref o, .int n, .str x, .int b]) (h1 : H o = some (.ins C dx [])) (q : ∀ H', (∀ c, c ≠ o → H' c = H c) → OfAt C H' o ⟨n, x, b⟩ → Q .non H') : sp_OpenFile___init C args_ H Q E := ⟨o, dx, n, x, b, ev, h1, q⟩
local macro_rules | `(tactic| walk_at "ca1") => `(tactic| with_reducible (refine' Sg.i_OpenFile___init ?ev ?h1 ?_; (case ev => (with_unfolding_all rfl)); (case h1 => (with_unfolding_all walk_at "pr"))))

theorem ok_OpenFile___init (T : Txt K mg) : FnOk P w K mg base CX0 1 T.a_OpenFile___init T.fd_OpenFile___init ["self", "number", "access", "reserved"] (sp_OpenFile___init T.A_OpenFile) := by
  refine T.F_OpenFile___init.ok (CX := CX0) sc_OpenFile___init (fun vs H Q E h => ?_) (fun cdv A outer s H vs Q E hr h => ?_)
  · obtain ⟨o, dx, n, x, b, rfl, _⟩ := h
    rfl
  · refine ⟨_, (pss_cons (ps_fld (pv 0) (pv 1) rfl)
       (pss_cons (ps_fld (pv 0) (pv 2) rfl)
       (pss_one (ps_fld (pv 0) (pv 3) rfl)))), ?_⟩
    try dsimp only [cxOf, Cx.nox, Cx.wish]
    obtain ⟨o, dx, n, x, b, rfl, h1, q⟩ := h
    have cl_OpenFile := T.cl_OpenFile
    have na_OpenFile_access := T.na_OpenFile_access
    have na_OpenFile_number := T.na_OpenFile_number
    have na_OpenFile_reserved := T.na_OpenFile_reserved
    walk_at "go"
    rename_i H1 e1 _ H2 e2 _ H3 e3 h3
    refine q _ (fun c hc => by rw [← e3, upd_ne hc, ← e2, upd_ne hc, ← e1, upd_ne hc]) ⟨dx, _, h3, Sg.putF_len (Sg.putF_len (Sg.putF_len (Nat.zero_le _))), by walk_at "lk", by walk_at "lk", by walk_at "lk"⟩
theorem made_of {C x dx o : Addr} {H H' : Hp} (nx : H x = none) (nd : H dx = none) (k : ∀ c, c ≠ x → H' c = upd (upd H dx (.own x)) x (.ins C dx []) c) : Same H H' := made_same nx nd k
def sp_Handles___init (C : Addr) : Sp := fun args_ H Q _ => ∃ (h dx : Addr), args_ = [.ref h] ∧ H h = some (.ins C dx []) ∧ ∀ H' fs l, (∀ c o, c ≠ h → H c = some o → H' c = some o) → H l = none → H' l = some (.lst (List.replicate 16 .non)) → H' h = some (.ins C dx fs) → HdFs fs l → Q .non H'
theorem i_Handles___init {C : Addr} {args_ : List V} {H : Hp} {Q : V → Hp → Prop} {E : XK} {h dx : Addr} (ev : args_ = [.ref h]) (h1 : H h = some (.ins C dx [])) (q : ∀ H' fs l, (∀ c o, c ≠ h → H c = some o → H' c = some o) → H l = none → H' l = some (.lst (List.replicate 16 .non)) → H' h = some (.ins C dx fs) → HdFs fs l → Q .non H') : sp_Handles___init C args_ H Q E := ⟨h, dx, ev, h1, q⟩
local macro_rules | `(tactic| walk_at "ca1") => `(tactic| with_reducible (refine' Sg.i_Handles___init ?ev ?h1 ?_; (case ev => (with_unfolding_all rfl)); (case h1 => (with_unfolding_all walk_at "pr"))))

theorem ok_Handles___init (T : Txt K mg) : FnOk P w K mg base CX0 1 T.a_Handles___init T.fd_Handles___init ["self"] (sp_Handles___init T.A_Handles) := by
  refine T.F_Handles___init.ok sc_Handles___init (fun vs H Q E h => ?_) (fun cdv A outer s H vs Q E hr h => ?_)
  · obtain ⟨h, dx, rfl, _⟩ := h
    rfl
  · refine ⟨_, (pss_one (ps_fld (pv 0) (pe_op op_rep (pe_lst (pa_cons pe_non pa_nil)) (pe_glob rfl T.c_HANDLES T.r_HANDLES)) rfl)), ?_⟩
    try dsimp only [cxOf, Cx.nox, Cx.wish]
    obtain ⟨h, dx, rfl, h1, q⟩ := h
    have cl_Handles := T.cl_Handles
    have na_Handles_files := T.na_Handles_files
    walk_at "go"
    rename_i p np H1 s1 hp
    refine r_rep hp (by decide) (by decide) (by rw [sz]; decide) ?_
    walk_at "al"
    rename_i l nl H2 s2 hl
    walk_at "go"
    rename_i H3 e3 h3
    have h2 := s2 _ _ (s1 _ _ h1)
    have nl' := s1.free nl
    have ne : l ≠ h := fun z => by rw [z, h1] at nl'; cases nl'
    refine q _ _ l (fun c o hc ho => by rw [← e3, upd_ne hc]; exact s2 _ _ (s1 _ _ ho)) nl' (by rw [← e3, upd_ne ne]; exact hl) h3 ⟨Sg.putF_len (Nat.zero_le _), by walk_at "lk", by walk_at "lk", by walk_at "lk", by walk_at "lk", by walk_at "lk", by walk_at "lk", by walk_at "lk", by walk_at "lk", by walk_at "lk", by walk_at "lk"⟩
def sp_Handles_check_free (CH CO CB : Addr) : Sp := fun args_ H Q E => ∃ (h : Addr) (f : Hp) (m : List (Option OF)) (dx : Addr) (fs : List (Str × V)) (l : Addr) (vs : List V), args_ = [.ref h] ∧ HdR CH CO f h m dx fs l vs ∧ Same f H ∧ ((∀ i, firstN m = some i → Q .non H)) ∧ (firstN m = none → E (.ref CB) none H)
theorem i_Handles_check_free {CH CO CB : Addr} {args_ : List V} {H : Hp} {Q : V → Hp → Prop} {E : XK} {h : Addr} {f : Hp} {m : List (Option OF)} {dx : Addr} {fs : List (Str × V)} {l : Addr} {vs : List V} (ev : args_ = [.ref h]) (R : HdR CH CO f h m dx fs l vs) (s : Same f H) (q1 : (∀ i, firstN m = some i → Q .non H)) (q2 : (firstN m = none → E (.ref CB) none H)) : sp_Handles_check_free CH CO CB args_ H Q E := ⟨h, f, m, dx, fs, l, vs, ev, R, s, q1, q2⟩
local macro_rules | `(tactic| walk_at "ca1") => `(tactic| with_reducible (refine' Sg.i_Handles_check_free ?ev ?R ?s ?q1 ?q2; (case ev => (with_unfolding_all rfl)); (case R => (with_unfolding_all walk_at "pr")); (case s => (with_unfolding_all walk_at "pr"))))

theorem ok_Handles_check_free (T : Txt K mg) : FnOk P w K mg base (L2.CX P w) 1 T.a_Handles_check_free T.fd_Handles_check_free ["self"] (sp_Handles_check_free T.A_Handles T.A_OpenFile T.A_TooManyOpen) := by
  refine T.F_Handles_check_free.okX sc_Handles_check_free (fun vs H Q E h => ?_) (fun cdv A outer s H vs Q E hr h => ?_)
  · obtain ⟨h, f, m, dx, fs, l, vs, rfl, _⟩ := h
    rfl
  · refine ⟨_, (pss_one (ps_if (pt_cmpR (op_noneNotIn (hu64 hr)) pe_non (pe_fld (pv 0) rfl) (by with_unfolding_all rfl))
       (pss_one (ps_rz rfl (takes_of rfl rfl rfl rfl) PySem.F.excBase_ValueError T.x_TooManyOpen T.m_TooManyOpen T.k_TooManyOpen (raises_own T.b_TooManyOpen T.t_TooManyOpen) (by rfl)))
       pss_nil)), ?_⟩
    try dsimp only [cxOf, Cx.nox, Cx.wish]
    obtain ⟨h, f, m, dx, fs, l, vs, rfl, R, s, q1, q2⟩ := h
    have cl_Handles := T.cl_Handles
    have na_Handles_files := T.na_Handles_files
    have mo := T.mo_OpenFile
    have oe := T.oe_OpenFile
    have hi := s _ _ R.ins
    have hl := s _ _ R.lst
    have f1 := R.flds.files
    walk_at "go"
    refine r_noneIn (by walk_at "hp") (R.nones s mo oe) ?_
    cases e : firstN m with
    | none =>
      rw [show (if true = true then !vs.any isNon else vs.any isNon) = true from by rw [R.full e]; rfl]
      walk_at "go"
      exact r_rz (q2 e)
    | some i =>
      rw [show (if true = true then !vs.any isNon else vs.any isNon) = false from by
        obtain ⟨h1, h2, _⟩ := R.first e
        rw [if_pos rfl, show vs.any isNon = true from List.any_eq_true.mpr ⟨_, List.mem_of_getElem? h2, rfl⟩]
        rfl]
      walk_at "go"
      exact q1 i e
def sp_Handles_acquire (CH CO CB : Addr) : Sp := fun args_ H Q E => ∃ (h : Addr) (f : Hp) (m : List (Option OF)) (n : Int) (x : Str), args_ = [.ref h, .int n, .str x] ∧ HdP CH CO f h m ∧ Same f H ∧ ((∀ i H' f', firstN m = some i → Act f H f' H' → HdP CH CO f' h (m.set i (some ⟨n, x, 0⟩)) → Q (.int (i : Nat)) H')) ∧ (firstN m = none → E (.ref CB) none H)
theorem i_Handles_acquire {CH CO CB : Addr} {args_ : List V} {H : Hp} {Q : V → Hp → Prop} {E : XK} {h : Addr} {f : Hp} {m : List (Option OF)} {n : Int} {x : Str} (ev : args_ = [.ref h, .int n, .str x]) (R : HdP CH CO f h m) (s : Same f H) (q1 : (∀ i H' f', firstN m = some i → Act f H f' H' → HdP CH CO f' h (m.set i (some ⟨n, x, 0⟩)) → Q (.int (i : Nat)) H')) (q2 : (firstN m = none → E (.ref CB) none H)) : sp_Handles_acquire CH CO CB args_ H Q E := ⟨h, f, m, n, x, ev, R, s, q1, q2⟩
local macro_rules | `(tactic| walk_at "ca1") => `(tactic| with_reducible (refine' Sg.i_Handles_acquire ?ev ?R ?s ?q1 ?q2; (case ev => (with_unfolding_all rfl)); (case R => (with_unfolding_all walk_at "pr")); (case s => (with_unfolding_all walk_at "pr"))))

theorem ok_Handles_acquire (T : Txt K mg) : FnOk P w K mg base (L2.CX P w) 3 T.a_Handles_acquire T.fd_Handles_acquire ["self", "number", "access"] (sp_Handles_acquire T.A_Handles T.A_OpenFile T.A_TooManyOpen) := by
  refine T.F_Handles_acquire.okX sc_Handles_acquire (fun vs H Q E h => ?_) (fun cdv A outer s H vs Q E hr h => ?_)
  · obtain ⟨h, f, m, n, x, rfl, _⟩ := h
    rfl
  · refine ⟨_, (pss_cons (ps_expr (pe_meth0 (pv 0) T.cl_Handles T.me_Handles_check_free (ok_Handles_check_free T) (hr.mono (by decide)) T.b_Handles_check_free .nil (passes_call (takes_of rfl rfl rfl rfl) (fun _ _ _ _ h => h))))
       (pss_cons (ps_set (i := 3) sc_Handles_acquire.nd rfl (Or.inl rfl) (pe_bm PySem.F.plainAttrs_list PySem.F.slot_list_index PySem.F.type_list_index (mt_indexN (hu64 hr)) (pe_fld (pv 0) rfl) (pa_cons pe_non pa_nil)))
       (pss_cons (ps_asg (pe_make T.M_OpenFile (ok_OpenFile___init T) (hr.mono (by decide)) rfl T.m_OpenFile T.b_OpenFile___init_3 T.v_OpenFile___init_3 pass0 (pa_cons (pv 1) (pa_cons (pv 2) pa_nil))) (pg_sub (pe_fld (pv 0) rfl) (pv 3) set_list))
       (pss_one (ps_ret (pv 3)))))), ?_⟩
    try dsimp only [cxOf, Cx.nox, Cx.wish]
    obtain ⟨h, f, m, n, x, rfl, R, s, q1, q2⟩ := h
    have cl_Handles := T.cl_Handles
    have cl_OpenFile := T.cl_OpenFile
    have na_Handles_files := T.na_Handles_files
    obtain ⟨dx, fs, l, us, R⟩ := R
    have hi := s _ _ R.ins
    have hl := s _ _ R.lst
    have f1 := R.flds.files
    have f2 := R.flds.n1
    have mo := T.mo_OpenFile
    have oe := T.oe_OpenFile
    walk_at "go"
    case q1 =>
      intro i ei
      obtain ⟨i16, hz, hz', hno⟩ := R.first ei
      walk_at "go"
      refine r_indexN (by walk_at "hp") (R.nones s mo oe) hz hno ?_
      walk_at "go"
      intro o dx' no nd ne
      refine i_OpenFile___init rfl upd_same fun H' k ho => ⟨rfl, ?_⟩
      have s1 := made_same no nd k
      have hi1 := s1 _ _ hi
      have hl1 := s1 _ _ hl
      walk_at "go"
      have hv := R.lv
      refine r_setl hl1 (ixN_ok (by omega) (by omega)) ?_
      walk_at "go"
      obtain ⟨dxo, fso, ho1, ho2⟩ := ho
      have A1 : Act f H (upd f o (.ins T.A_OpenFile dxo fso)) H' := by
        refine ⟨fun b u e => ?_, fun b u e _ => s1 _ _ e, fun b hb => ?_, fun b h => s1.free h⟩
        · by_cases c : b = o
          · rw [c, upd_same] at e; rw [c, ho1]; exact e
          · rw [upd_ne c] at e; exact s1 _ _ (s _ _ e)
        · by_cases c : b = o
          · exact .inr (by rw [c]; exact no)
          · rw [upd_ne c] at hb; exact .inl hb
      have nf := Same.out s no
      have hlo : l ≠ o := fun z => by rw [← z, hl] at no; cases no
      have hho : h ≠ o := fun z => by rw [← z, hi] at no; cases no
      have hlf : upd f o (.ins T.A_OpenFile dxo fso) l = some (.lst us) := by rw [upd_ne hlo]; exact R.lst
      have A2 := A1.trans (Act.put (o := .lst (us.set i (.ref o))) A1.inn hlf) s
      have R1 : HdR T.A_Handles T.A_OpenFile (upd f o (.ins T.A_OpenFile dxo fso)) h m dx fs l us := by
        obtain ⟨g1, g2, g3, g4, g5, g6, g7, g8⟩ := R
        exact ⟨by rw [upd_ne hho]; exact g1, g2, hlf, fun j hj => (g4 j hj).mono fun b u e => by rw [upd_ne (ne_of_none e nf)]; exact e, g5, g6, g7, g8⟩
      rw [show ((i : Int)).toNat = i by omega]
      refine q1 i _ _ ei A2 (R1.put rfl ⟨o, rfl, dxo, fso, ?_, ho2⟩ fun o' eo => ?_)
      · rw [upd_ne hlo.symm, upd_same]
      · cases eo
        refine ⟨hho.symm, fun j hj => ?_⟩
        have hj' : j < us.length := by
          rcases Nat.lt_or_ge j us.length with z | z
          · exact z
          · rw [List.getElem?_eq_none z] at hj; cases hj
        have := R.ens j (by omega)
        rw [List.getD_eq_getElem?_getD, hj, Option.getD_some] at this
        cases hm : m.getD j none with
        | none => rw [hm] at this; cases this
        | some r =>
          rw [hm] at this
          obtain ⟨o2, e2, dx2, fs2, h2, _⟩ := this
          cases e2
          rw [nf] at h2
          cases h2
    case q2 =>
      intro e
      exact q2 e
def sp_Handles_get (CH CO CB : Addr) : Sp := fun args_ H Q E => ∃ (h : Addr) (f : Hp) (m : List (Option OF)) (hd : Int) (dx : Addr) (fs : List (Str × V)) (l : Addr) (us : List V), args_ = [.ref h, .int hd] ∧ HdR CH CO f h m dx fs l us ∧ Same f H ∧ ((∀ o r, getM m hd = some r → us[hd.toNat]? = some (.ref o) → OfAt CO f o r → 0 ≤ hd → hd < 16 → Q (.ref o) H)) ∧ (getM m hd = none → E (.ref CB) none H)
theorem i_Handles_get {CH CO CB : Addr} {args_ : List V} {H : Hp} {Q : V → Hp → Prop} {E : XK} {h : Addr} {f : Hp} {m : List (Option OF)} {hd : Int} {dx : Addr} {fs : List (Str × V)} {l : Addr} {us : List V} (ev : args_ = [.ref h, .int hd]) (R : HdR CH CO f h m dx fs l us) (s : Same f H) (q1 : (∀ o r, getM m hd = some r → us[hd.toNat]? = some (.ref o) → OfAt CO f o r → 0 ≤ hd → hd < 16 → Q (.ref o) H)) (q2 : (getM m hd = none → E (.ref CB) none H)) : sp_Handles_get CH CO CB args_ H Q E := ⟨h, f, m, hd, dx, fs, l, us, ev, R, s, q1, q2⟩
local macro_rules | `(tactic| walk_at "ca1") => `(tactic| with_reducible (refine' Sg.i_Handles_get ?ev ?R ?s ?q1 ?q2; (case ev => (with_unfolding_all rfl)); (case R => (with_unfolding_all walk_at "pr")); (case s => (with_unfolding_all walk_at "pr"))))

theorem ok_Handles_get (T : Txt K mg) : FnOk P w K mg base (L2.CX P w) 1 T.a_Handles_get T.fd_Handles_get ["self", "handle"] (sp_Handles_get T.A_Handles T.A_OpenFile T.A_BadHandle) := by
  refine T.F_Handles_get.okX sc_Handles_get (fun vs H Q E h => ?_) (fun cdv A outer s H vs Q E hr h => ?_)
  · obtain ⟨h, f, m, hd, dx, fs, l, us, rfl, _⟩ := h
    rfl
  · refine ⟨_, (C8.pss_cut (ps_if (PW.pt (pw_or (pt_not (pt_chain op_le op_lt pe_int (pv 1) (pe_glob rfl T.c_HANDLES T.r_HANDLES))) (pw_or1 (pt_cmp (pc_isN (pe_ix ix_list (pe_fld (pv 0) rfl) (pv 1) (fun _ _ => rfl))) rfl))))
       (pss_one (ps_rz rfl (takes_of rfl rfl rfl rfl) PySem.F.excBase_ValueError T.x_BadHandle T.m_BadHandle T.k_BadHandle (raises_own T.b_BadHandle T.t_BadHandle) (by rfl)))
       pss_nil)
       (pss_one (ps_ret (pe_ix ix_list (pe_fld (pv 0) rfl) (pv 1) (fun _ _ => rfl))))), ?_⟩
    try dsimp only [cxOf, Cx.nox, Cx.wish]
    obtain ⟨h, f, m, hd, dx, fs, l, us, rfl, R, s, q1, q2⟩ := h
    have cl_Handles := T.cl_Handles
    have na_Handles_files := T.na_Handles_files
    have hi := s _ _ R.ins
    have hl := s _ _ R.lst
    have f1 := R.flds.files
    have hv := R.lv
    cases e : getM m hd with
    | some r =>
      obtain ⟨h0, h1, hm, o, ho, hO⟩ := getM_at R e
      have ha : atI us hd = some (.ref o) := by
        obtain ⟨k, rfl⟩ := Int.eq_ofNat_of_zero_le h0
        exact atI_nat ho
      walk_at "go"
      refine r_cutS ?_ ?_
      · walk_at "go"
        refine r_ixl (by walk_at "hp") ha ?_
        walk_at "go"
        exact ⟨rfl, rfl⟩
      · walk_at "go"
        refine r_ixl (by walk_at "hp") ha ?_
        exact q1 o r e ho hO h0 h1
    | none =>
      have bad := q2 e
      by_cases h0 : 0 ≤ hd
      · by_cases h1 : hd < 16
        · obtain ⟨hn, hm⟩ := getM_no R e h0 h1
          have ha : atI us hd = some .non := by
            obtain ⟨k, rfl⟩ := Int.eq_ofNat_of_zero_le h0
            exact atI_nat hn
          walk_at "go"
          refine r_cut (fun _ _ => False) ?_ (fun _ _ z => z.elim)
          walk_at "go"
          refine r_ixl (by walk_at "hp") ha ?_
          walk_at "go"
          exact r_rz bad
        · walk_at "go"
          refine r_cut (fun _ _ => False) ?_ (fun _ _ z => z.elim)
          walk_at "go"
          exact r_rz bad
      · walk_at "go"
        refine r_cut (fun _ _ => False) ?_ (fun _ _ z => z.elim)
        walk_at "go"
        exact r_rz bad
def sp_Handles_reading (CH CO CB : Addr) : Sp := fun args_ H Q E => ∃ (h : Addr) (f : Hp) (m : List (Option OF)) (hd : Int) (dx : Addr) (fs : List (Str × V)) (l : Addr) (us : List V), args_ = [.ref h, .int hd] ∧ HdR CH CO f h m dx fs l us ∧ Same f H ∧ ((∀ o r, getM m hd = some r → r.acc ≠ "write" → OfAt CO f o r → Q (.ref o) H)) ∧ ((∀ r, getM m hd = some r → r.acc = "write") → E (.ref CB) none H)
theorem i_Handles_reading {CH CO CB : Addr} {args_ : List V} {H : Hp} {Q : V → Hp → Prop} {E : XK} {h : Addr} {f : Hp} {m : List (Option OF)} {hd : Int} {dx : Addr} {fs : List (Str × V)} {l : Addr} {us : List V} (ev : args_ = [.ref h, .int hd]) (R : HdR CH CO f h m dx fs l us) (s : Same f H) (q1 : (∀ o r, getM m hd = some r → r.acc ≠ "write" → OfAt CO f o r → Q (.ref o) H)) (q2 : ((∀ r, getM m hd = some r → r.acc = "write") → E (.ref CB) none H)) : sp_Handles_reading CH CO CB args_ H Q E := ⟨h, f, m, hd, dx, fs, l, us, ev, R, s, q1, q2⟩
local macro_rules | `(tactic| walk_at "ca1") => `(tactic| with_reducible (refine' Sg.i_Handles_reading ?ev ?R ?s ?q1 ?q2; (case ev => (with_unfolding_all rfl)); (case R => (with_unfolding_all walk_at "pr")); (case s => (with_unfolding_all walk_at "pr"))))

theorem ok_Handles_reading (T : Txt K mg) : FnOk P w K mg base (L2.CX P w) 2 T.a_Handles_reading T.fd_Handles_reading ["self", "handle"] (sp_Handles_reading T.A_Handles T.A_OpenFile T.A_BadHandle) := by
  refine T.F_Handles_reading.okX sc_Handles_reading (fun vs H Q E h => ?_) (fun cdv A outer s H vs Q E hr h => ?_)
  · obtain ⟨h, f, m, hd, dx, fs, l, us, rfl, _⟩ := h
    rfl
  · refine ⟨_, (pss_cons (ps_set (i := 2) sc_Handles_reading.nd rfl (Or.inl rfl) (pe_meth (pv 0) T.cl_Handles T.me_Handles_get (ok_Handles_get T) (hr.mono (by decide)) T.b_Handles_get .nil (passes_call (takes_of rfl rfl rfl rfl) (fun _ _ _ _ h => h)) (pa_cons (pv 1) pa_nil)))
       (pss_cons (ps_if (pt_cmpR op_eq (pe_fld (pv 2) rfl) pe_str (nomark _))
       (pss_one (ps_rz rfl (takes_of rfl rfl rfl rfl) PySem.F.excBase_ValueError T.x_BadHandle T.m_BadHandle T.k_BadHandle (raises_own T.b_BadHandle T.t_BadHandle) (by rfl)))
       pss_nil)
       (pss_one (ps_ret (pv 2))))), ?_⟩
    try dsimp only [cxOf, Cx.nox, Cx.wish]
    obtain ⟨h, f, m, hd, dx, fs, l, us, rfl, R, s, q1, q2⟩ := h
    have cl_Handles := T.cl_Handles
    have cl_OpenFile := T.cl_OpenFile
    have na_OpenFile_access := T.na_OpenFile_access
    have hi := s _ _ R.ins
    have f2 := R.flds.n3
    walk_at "go"
    case q1 =>
      intro o r e ho hO h0 h1
      obtain ⟨dxo, fso, ho1, ho2⟩ := id hO
      have ho1' := s _ _ ho1
      have f3 := ho2.acc
      walk_at "go"
      refine r_ite (fun c => ?_) (fun c => ?_)
      · exact r_rz (q2 fun r' e' => by rw [e] at e'; cases e'; exact c)
      · walk_at "go"
        exact q1 o r e c hO
    case q2 =>
      intro e
      exact q2 fun r' e' => by rw [e] at e'; cases e'
def sp_Handles_writing (CH CO CB : Addr) : Sp := fun args_ H Q E => ∃ (h : Addr) (f : Hp) (m : List (Option OF)) (hd : Int) (dx : Addr) (fs : List (Str × V)) (l : Addr) (us : List V), args_ = [.ref h, .int hd] ∧ HdR CH CO f h m dx fs l us ∧ Same f H ∧ ((∀ o r, getM m hd = some r → us[hd.toNat]? = some (.ref o) → r.acc ≠ "read" → OfAt CO f o r → Q (.ref o) H)) ∧ ((∀ r, getM m hd = some r → r.acc = "read") → E (.ref CB) none H)
theorem i_Handles_writing {CH CO CB : Addr} {args_ : List V} {H : Hp} {Q : V → Hp → Prop} {E : XK} {h : Addr} {f : Hp} {m : List (Option OF)} {hd : Int} {dx : Addr} {fs : List (Str × V)} {l : Addr} {us : List V} (ev : args_ = [.ref h, .int hd]) (R : HdR CH CO f h m dx fs l us) (s : Same f H) (q1 : (∀ o r, getM m hd = some r → us[hd.toNat]? = some (.ref o) → r.acc ≠ "read" → OfAt CO f o r → Q (.ref o) H)) (q2 : ((∀ r, getM m hd = some r → r.acc = "read") → E (.ref CB) none H)) : sp_Handles_writing CH CO CB args_ H Q E := ⟨h, f, m, hd, dx, fs, l, us, ev, R, s, q1, q2⟩
local macro_rules | `(tactic| walk_at "ca1") => `(tactic| with_reducible (refine' Sg.i_Handles_writing ?ev ?R ?s ?q1 ?q2; (case ev => (with_unfolding_all rfl)); (case R => (with_unfolding_all walk_at "pr")); (case s => (with_unfolding_all walk_at "pr"))))

theorem ok_Handles_writing (T : Txt K mg) : FnOk P w K mg base (L2.CX P w) 2 T.a_Handles_writing T.fd_Handles_writing ["self", "handle"] (sp_Handles_writing T.A_Handles T.A_OpenFile T.A_BadHandle) := by
  refine T.F_Handles_writing.okX sc_Handles_writing (fun vs H Q E h => ?_) (fun cdv A outer s H vs Q E hr h => ?_)
  · obtain ⟨h, f, m, hd, dx, fs, l, us, rfl, _⟩ := h
    rfl
  · refine ⟨_, (pss_cons (ps_set (i := 2) sc_Handles_writing.nd rfl (Or.inl rfl) (pe_meth (pv 0) T.cl_Handles T.me_Handles_get (ok_Handles_get T) (hr.mono (by decide)) T.b_Handles_get .nil (passes_call (takes_of rfl rfl rfl rfl) (fun _ _ _ _ h => h)) (pa_cons (pv 1) pa_nil)))
       (pss_cons (ps_if (pt_cmpR op_eq (pe_fld (pv 2) rfl) pe_str (nomark _))
       (pss_one (ps_rz rfl (takes_of rfl rfl rfl rfl) PySem.F.excBase_ValueError T.x_BadHandle T.m_BadHandle T.k_BadHandle (raises_own T.b_BadHandle T.t_BadHandle) (by rfl)))
       pss_nil)
       (pss_one (ps_ret (pv 2))))), ?_⟩
    try dsimp only [cxOf, Cx.nox, Cx.wish]
    obtain ⟨h, f, m, hd, dx, fs, l, us, rfl, R, s, q1, q2⟩ := h
    have cl_Handles := T.cl_Handles
    have cl_OpenFile := T.cl_OpenFile
    have na_OpenFile_access := T.na_OpenFile_access
    have hi := s _ _ R.ins
    have f2 := R.flds.n3
    walk_at "go"
    case q1 =>
      intro o r e ho hO h0 h1
      obtain ⟨dxo, fso, ho1, ho2⟩ := id hO
      have ho1' := s _ _ ho1
      have f3 := ho2.acc
      walk_at "go"
      refine r_ite (fun c => ?_) (fun c => ?_)
      · exact r_rz (q2 fun r' e' => by rw [e] at e'; cases e'; exact c)
      · walk_at "go"
        exact q1 o r e ho c hO
    case q2 =>
      intro e
      exact q2 fun r' e' => by rw [e] at e'; cases e'
def sp_Handles_free (CH CO CB : Addr) : Sp := fun args_ H Q E => ∃ (h : Addr) (f : Hp) (m : List (Option OF)) (hd : Int), args_ = [.ref h, .int hd] ∧ HdP CH CO f h m ∧ Same f H ∧ ((∀ o r H' f', getM m hd = some r → OfAt CO f' o r → Act f H f' H' → HdP CH CO f' h (m.set hd.toNat none) → Q (.ref o) H')) ∧ (getM m hd = none → E (.ref CB) none H)
theorem i_Handles_free {CH CO CB : Addr} {args_ : List V} {H : Hp} {Q : V → Hp → Prop} {E : XK} {h : Addr} {f : Hp} {m : List (Option OF)} {hd : Int} (ev : args_ = [.ref h, .int hd]) (R : HdP CH CO f h m) (s : Same f H) (q1 : (∀ o r H' f', getM m hd = some r → OfAt CO f' o r → Act f H f' H' → HdP CH CO f' h (m.set hd.toNat none) → Q (.ref o) H')) (q2 : (getM m hd = none → E (.ref CB) none H)) : sp_Handles_free CH CO CB args_ H Q E := ⟨h, f, m, hd, ev, R, s, q1, q2⟩
local macro_rules | `(tactic| walk_at "ca1") => `(tactic| with_reducible (refine' Sg.i_Handles_free ?ev ?R ?s ?q1 ?q2; (case ev => (with_unfolding_all rfl)); (case R => (with_unfolding_all walk_at "pr")); (case s => (with_unfolding_all walk_at "pr"))))

theorem ok_Handles_free (T : Txt K mg) : FnOk P w K mg base (L2.CX P w) 2 T.a_Handles_free T.fd_Handles_free ["self", "handle"] (sp_Handles_free T.A_Handles T.A_OpenFile T.A_BadHandle) := by
  refine T.F_Handles_free.okX sc_Handles_free (fun vs H Q E h => ?_) (fun cdv A outer s H vs Q E hr h => ?_)
  · obtain ⟨h, f, m, hd, rfl, _⟩ := h
    rfl
  · refine ⟨_, (pss_cons (ps_set (i := 2) sc_Handles_free.nd rfl (Or.inl rfl) (pe_meth (pv 0) T.cl_Handles T.me_Handles_get (ok_Handles_get T) (hr.mono (by decide)) T.b_Handles_get .nil (passes_call (takes_of rfl rfl rfl rfl) (fun _ _ _ _ h => h)) (pa_cons (pv 1) pa_nil)))
       (pss_cons (ps_asg pe_non (pg_sub (pe_fld (pv 0) rfl) (pv 1) set_list))
       (pss_one (ps_ret (pv 2))))), ?_⟩
    try dsimp only [cxOf, Cx.nox, Cx.wish]
    obtain ⟨h, f, m, hd, rfl, R, s, q1, q2⟩ := h
    have cl_Handles := T.cl_Handles
    have na_Handles_files := T.na_Handles_files
    obtain ⟨dx, fs, l, us, R⟩ := R
    have hi := s _ _ R.ins
    have hl := s _ _ R.lst
    have f1 := R.flds.files
    have f2 := R.flds.n3
    have hv := R.lv
    walk_at "go"
    case q1 =>
      intro o r e ho hO h0 h1
      walk_at "go"
      refine r_setl hl (ixN_ok (by omega) (by omega)) ?_
      walk_at "go"
      obtain ⟨dxo, fso, ho1, ho2⟩ := hO
      exact q1 o r _ _ e ⟨dxo, fso, by rw [upd_ne (ne_of ho1 R.lst (by intro z; cases z))]; exact ho1, ho2⟩ (Act.put s R.lst) (R.put rfl rfl fun o' eo => by cases eo)
    case q2 =>
      intro e
      exact q2 e
def sp_Handles_reserve (CH CO CB : Addr) : Sp := fun args_ H Q E => ∃ (h : Addr) (f : Hp) (m : List (Option OF)) (hd n : Int), args_ = [.ref h, .int hd, .int n] ∧ HdP CH CO f h m ∧ Same f H ∧ ((∀ r H' f', getM m hd = some r → r.acc ≠ "read" → Act f H f' H' → HdP CH CO f' h (m.set hd.toNat (some { r with res := n })) → Q .non H')) ∧ ((∀ r, getM m hd = some r → r.acc = "read") → E (.ref CB) none H)
theorem i_Handles_reserve {CH CO CB : Addr} {args_ : List V} {H : Hp} {Q : V → Hp → Prop} {E : XK} {h : Addr} {f : Hp} {m : List (Option OF)} {hd n : Int} (ev : args_ = [.ref h, .int hd, .int n]) (R : HdP CH CO f h m) (s : Same f H) (q1 : (∀ r H' f', getM m hd = some r → r.acc ≠ "read" → Act f H f' H' → HdP CH CO f' h (m.set hd.toNat (some { r with res := n })) → Q .non H')) (q2 : ((∀ r, getM m hd = some r → r.acc = "read") → E (.ref CB) none H)) : sp_Handles_reserve CH CO CB args_ H Q E := ⟨h, f, m, hd, n, ev, R, s, q1, q2⟩
local macro_rules | `(tactic| walk_at "ca1") => `(tactic| with_reducible (refine' Sg.i_Handles_reserve ?ev ?R ?s ?q1 ?q2; (case ev => (with_unfolding_all rfl)); (case R => (with_unfolding_all walk_at "pr")); (case s => (with_unfolding_all walk_at "pr"))))

theorem ok_Handles_reserve (T : Txt K mg) : FnOk P w K mg base (L2.CX P w) 3 T.a_Handles_reserve T.fd_Handles_reserve ["self", "handle", "blocks"] (sp_Handles_reserve T.A_Handles T.A_OpenFile T.A_BadHandle) := by
  refine T.F_Handles_reserve.okX sc_Handles_reserve (fun vs H Q E h => ?_) (fun cdv A outer s H vs Q E hr h => ?_)
  · obtain ⟨h, f, m, hd, n, rfl, _⟩ := h
    rfl
  · refine ⟨_, (pss_cons (ps_set (i := 3) sc_Handles_reserve.nd rfl (Or.inl rfl) (pe_meth (pv 0) T.cl_Handles T.me_Handles_writing (ok_Handles_writing T) (hr.mono (by decide)) T.b_Handles_writing .nil (passes_call (takes_of rfl rfl rfl rfl) (fun _ _ _ _ h => h)) (pa_cons (pv 1) pa_nil)))
       (pss_one (ps_fld (pv 3) (pv 2) rfl))), ?_⟩
    try dsimp only [cxOf, Cx.nox, Cx.wish]
    obtain ⟨h, f, m, hd, n, rfl, R, s, q1, q2⟩ := h
    have cl_Handles := T.cl_Handles
    have cl_OpenFile := T.cl_OpenFile
    have na_OpenFile_reserved := T.na_OpenFile_reserved
    obtain ⟨dx, fs, l, us, R⟩ := R
    have hi := s _ _ R.ins
    have f2 := R.flds.n5
    have hv := R.lv
    have hlm := R.lm
    walk_at "go"
    case q1 =>
      intro o r e ho ne hO
      obtain ⟨h0, h1, hm, _⟩ := getM_at R e
      obtain ⟨dxo, fso, ho1, ho2⟩ := id hO
      have ho1' := s _ _ ho1
      have few := ho2.few
      walk_at "go"
      rename_i H' e' h'
      obtain ⟨g1, g2, g3, g4, g5, g6, g7, g8⟩ := R
      have hne := g8 _ _ ho
      have hlo : l ≠ o := ne_of g3 ho1 (by intro z; cases z)
      have hO' : OfAt T.A_OpenFile (upd f o (.ins T.A_OpenFile dxo (putF "reserved" (.int n) fso))) o { r with res := n } := ⟨dxo, _, upd_same, ho2.res' n (by rw [putF_lenS ho2.res]; exact few)⟩
      refine q1 r _ (upd f o (.ins T.A_OpenFile dxo (putF "reserved" (.int n) fso))) e ne (by rw [← e']; exact Act.put s ho1) ⟨dx, fs, l, us, by rw [upd_ne hne.symm]; exact g1, g2, by rw [upd_ne hlo]; exact g3, fun j hj => ?_, by rw [List.length_set]; exact g5, g6, g7, g8⟩
      rw [List.getD_eq_getElem?_getD (l := m.set _ _)]
      by_cases c : hd.toNat = j
      · subst c
        rw [List.getElem?_set_self (by omega), Option.getD_some, List.getD_eq_getElem?_getD, ho, Option.getD_some]
        exact ⟨o, rfl, hO'⟩
      · rw [List.getElem?_set_ne c, ← List.getD_eq_getElem?_getD]
        have := g4 j hj
        cases hm : m.getD j none with
        | none => rw [hm] at this; exact this
        | some r2 =>
          rw [hm] at this
          obtain ⟨o2, e2, dx2, fs2, h2, h3⟩ := this
          have hj' : us[j]? = some (.ref o2) := by
            rw [List.getElem?_eq_getElem (by omega)]
            rw [List.getD_eq_getElem?_getD, List.getElem?_eq_getElem (by omega), Option.getD_some] at e2
            rw [e2]
          exact ⟨o2, e2, dx2, fs2, by rw [upd_ne (fun z => c (g7 _ _ o ho (by rw [← z]; exact hj')))]; exact h2, h3⟩
    case q2 =>
      intro e
      exact q2 e
def NumOf (m : List (Option OF)) (ns : List Int) : Prop := ns.Pairwise (· < ·) ∧ (∀ k, k ∈ ns ↔ ∃ r, some r ∈ m ∧ r.num = k) ∧ ns.length ≤ 16
theorem rising_eq : ∀ {as bs : List Int}, as.Pairwise (· < ·) → bs.Pairwise (· < ·) → (∀ k, k ∈ as ↔ k ∈ bs) → as = bs
  | [], [], _, _, _ => rfl
  | [], b :: bs, _, _, h => by have := (h b).mpr List.mem_cons_self; cases this
  | a :: as, [], _, _, h => by have := (h a).mp List.mem_cons_self; cases this
  | a :: as, b :: bs, ha, hb, h => by
    rw [List.pairwise_cons] at ha hb
    have e : a = b := by
      rcases List.mem_cons.mp ((h a).mp List.mem_cons_self) with e | e
      · exact e
      · have h1 := hb.1 a e
        rcases List.mem_cons.mp ((h b).mpr List.mem_cons_self) with e' | e'
        · exact e'.symm
        · have := ha.1 b e'; omega
    subst e
    refine congrArg _ (rising_eq ha.2 hb.2 fun k => ⟨fun hk => ?_, fun hk => ?_⟩)
    · rcases List.mem_cons.mp ((h k).mp (List.mem_cons_of_mem _ hk)) with e | e
      · have := ha.1 k hk; omega
      · exact e
    · rcases List.mem_cons.mp ((h k).mpr (List.mem_cons_of_mem _ hk)) with e | e
      · have := hb.1 k hk; omega
      · exact e
theorem NumOf.uniq {m : List (Option OF)} {as bs : List Int} (h : NumOf m as) (h' : NumOf m bs) : as = bs := rising_eq h.1 h'.1 fun k => (h.2.1 k).trans (h'.2.1 k).symm
def sp_Handles_opened_numbers (CH CO : Addr) : Sp := fun args_ H Q _ => ∃ (h : Addr) (f : Hp) (m : List (Option OF)), args_ = [.ref h] ∧ HdP CH CO f h m ∧ Same f H ∧ ∀ H' l ns, Same H H' → H l = none → H' l = some (.lst (ns.map V.int)) → NumOf m ns → Q (.ref l) H'
theorem i_Handles_opened_numbers {CH CO : Addr} {args_ : List V} {H : Hp} {Q : V → Hp → Prop} {E : XK} {h : Addr} {f : Hp} {m : List (Option OF)} (ev : args_ = [.ref h]) (R : HdP CH CO f h m) (s : Same f H) (q : ∀ H' l ns, Same H H' → H l = none → H' l = some (.lst (ns.map V.int)) → NumOf m ns → Q (.ref l) H') : sp_Handles_opened_numbers CH CO args_ H Q E := ⟨h, f, m, ev, R, s, q⟩
local macro_rules | `(tactic| walk_at "ca1") => `(tactic| with_reducible (refine' Sg.i_Handles_opened_numbers ?ev ?R ?s ?_; (case ev => (with_unfolding_all rfl)); (case R => (with_unfolding_all walk_at "pr")); (case s => (with_unfolding_all walk_at "pr"))))

theorem ok_Handles_opened_numbers (T : Txt K mg) : FnOk P w K mg base CX0 1 T.a_Handles_opened_numbers T.fd_Handles_opened_numbers ["self"] (sp_Handles_opened_numbers T.A_Handles T.A_OpenFile) := by
  refine T.F_Handles_opened_numbers.ok sc_Handles_opened_numbers (fun vs H Q E h => ?_) (fun cdv A outer s H vs Q E hr h => ?_)
  · obtain ⟨h, f, m, rfl, _⟩ := h
    rfl
  · refine ⟨_, (pss_one (ps_ret (pe_callB (cr_sortedSet rfl) (by rfl) T.n_sorted (by decide +kernel) (pa_cons (pe_si (own := [("opened", 1)]) (g := gName 1)  rfl sc_Handles_opened_numbers.nd (pi_list (pe_fld (pv 0) rfl)) (blkOk_by (own := [("opened", 1)]) (N := n_Handles_opened_numbers) (sc := defScope s_Handles_opened_numbers) (by decide +kernel)) (fun _ _ _ _ _ => pg_name (i := 1) sc_Handles_opened_numbers.nd rfl (Or.inl rfl)) (fun _ _ _ _ _ => pts_one (pt_cmp (pc_notN (pv 1)) rfl)) (fun _ _ _ _ _ => (pe_fldK K rfl (pv 1) rfl))) pa_nil)))), ?_⟩
    try dsimp only [cxOf, Cx.nox, Cx.wish]
    obtain ⟨h, f, m, rfl, R, s, q⟩ := h
    have cl_Handles := T.cl_Handles
    have cl_OpenFile := T.cl_OpenFile
    have na_Handles_files := T.na_Handles_files
    have na_OpenFile_number := T.na_OpenFile_number
    obtain ⟨dx, fs, l, us, R⟩ := R
    have hi := s _ _ R.ins
    have hl := s _ _ R.lst
    have f1 := R.flds.files
    have hv := R.lv
    have hlm := R.lm
    walk_at "go"
    refine r_si ?_
    walk_at "go"
    refine r_siL (fun i => (m.getD i none).map (·.num)) (by walk_at "hp") (by omega) rfl ?_ ?_
    · intro i v H' hi' s1 G hG
      have hi2 : i < 16 := by rw [← hv]; exact (List.getElem?_eq_some_iff.mp hi').1
      have he := R.ens i hi2
      rw [List.getD_eq_getElem?_getD, hi', Option.getD_some] at he
      cases hm : m.getD i none with
      | none =>
        rw [hm] at he hG
        cases he
        walk_at "go"
        exact hG _ (Same.refl _)
      | some r =>
        rw [hm] at he hG
        obtain ⟨o, rfl, dxo, fso, ho1, ho2⟩ := he
        have ho3 := s1 _ _ (s _ _ ho1)
        have f3 := ho2.num
        walk_at "go"
        exact ⟨_, rfl, hG _ (Same.refl _)⟩
    · intro H' D S n s1 nD hD hn hk
      walk_at "go"
      refine r_sset hD (by omega) fun ns p h1 h2 h3 np => ?_
      generalize hH : upd _ _ _ = H2
      have s2 := Sg.Same.of_new hH np
      have h4 := Sg.at_new hH
      refine q _ p ns (s1.trans s2) (s1.free np) h4 ⟨h1, fun k => (h2 k).trans ((hk k).trans ⟨fun ⟨i, hi, e⟩ => ?_, fun ⟨r, hr, e⟩ => ?_⟩), by omega⟩
      · obtain ⟨r, e1, e2⟩ := Option.map_eq_some_iff.mp e
        refine ⟨r, ?_, e2⟩
        rw [List.getD_eq_getElem?_getD, List.getElem?_eq_getElem (by omega), Option.getD_some] at e1
        rw [← e1]
        exact List.getElem_mem _
      · obtain ⟨i, hi, e1⟩ := List.getElem_of_mem hr
        refine ⟨i, by omega, ?_⟩
        rw [List.getD_eq_getElem?_getD, List.getElem?_eq_getElem hi, Option.getD_some, e1, Option.map_some, e]
def sp_copy_of_file (C : Addr) : Sp := fun args_ H Q _ => ∃ (v : V) (x : Option OF), args_ = [v] ∧ En C H v x ∧ ∀ H' v', Same H H' → En C (fr H H') v' x → (∀ o, v' = .ref o → H o = none ∧ H' o ≠ none) → Q v' H'
theorem i_copy_of_file {C : Addr} {args_ : List V} {H : Hp} {Q : V → Hp → Prop} {E : XK} {v : V} {x : Option OF} (ev : args_ = [v]) (h : En C H v x) (q : ∀ H' v', Same H H' → En C (fr H H') v' x → (∀ o, v' = .ref o → H o = none ∧ H' o ≠ none) → Q v' H') : sp_copy_of_file C args_ H Q E := ⟨v, x, ev, h, q⟩
local macro_rules | `(tactic| walk_at "ca1") => `(tactic| with_reducible (refine' Sg.i_copy_of_file ?ev ?h ?_; (case ev => (with_unfolding_all rfl)); (case h => (with_unfolding_all walk_at "pr"))))

theorem ok_copy_of_file (T : Txt K mg) : FnOk P w K mg base CX0 3 T.a_copy_of_file T.fd_copy_of_file ["opened"] (sp_copy_of_file T.A_OpenFile) := by
  refine T.F_copy_of_file.ok sc_copy_of_file (fun vs H Q E h => ?_) (fun cdv A outer s H vs Q E hr h => ?_)
  · obtain ⟨v, x, rfl, _⟩ := h
    rfl
  · refine ⟨_, (pss_cons (ps_if (pt_cmp (pc_isN (pv 0)) rfl)
       (pss_one (ps_ret pe_non))
       pss_nil)
       (pss_one (ps_ret (pe_make T.M_OpenFile (ok_OpenFile___init T) (hr.mono (by decide)) rfl T.m_OpenFile T.b_OpenFile___init .nil pass0 (pa_cons (pe_fld (pv 0) rfl) (pa_cons (pe_fld (pv 0) rfl) (pa_cons (pe_fld (pv 0) rfl) pa_nil))))))), ?_⟩
    try dsimp only [cxOf, Cx.nox, Cx.wish]
    obtain ⟨v, x, rfl, h, q⟩ := h
    have cl_OpenFile := T.cl_OpenFile
    have na_OpenFile_access := T.na_OpenFile_access
    have na_OpenFile_number := T.na_OpenFile_number
    have na_OpenFile_reserved := T.na_OpenFile_reserved
    cases x with
    | none =>
      cases h
      walk_at "go"
      exact q _ _ (Same.refl _) rfl fun o z => by cases z
    | some r =>
      obtain ⟨o, rfl, dxo, fso, ho1, ho2⟩ := h
      have f1 := ho2.num
      have f2 := ho2.acc
      have f3 := ho2.res
      walk_at "go"
      intro o2 dx2 no nd ne
      refine i_OpenFile___init rfl upd_same fun H' k ho => ⟨rfl, ?_⟩
      have s1 := made_same no nd k
      obtain ⟨dx3, fs3, h3, h4⟩ := ho
      refine q H' _ s1 ⟨o2, rfl, dx3, fs3, fr_at no h3, h4⟩ fun o3 e => ?_
      cases e
      exact ⟨no, by rw [h3]; intro z; cases z⟩
def sp_Handles_fork (CH CO : Addr) : Sp := fun args_ H Q _ => ∃ (h : Addr) (f : Hp) (m : List (Option OF)), args_ = [.ref h] ∧ HdP CH CO f h m ∧ Same f H ∧ ∀ H' h', Same H H' → HdP CH CO (fr H H') h' m → Q (.ref h') H'
theorem i_Handles_fork {CH CO : Addr} {args_ : List V} {H : Hp} {Q : V → Hp → Prop} {E : XK} {h : Addr} {f : Hp} {m : List (Option OF)} (ev : args_ = [.ref h]) (R : HdP CH CO f h m) (s : Same f H) (q : ∀ H' h', Same H H' → HdP CH CO (fr H H') h' m → Q (.ref h') H') : sp_Handles_fork CH CO args_ H Q E := ⟨h, f, m, ev, R, s, q⟩
local macro_rules | `(tactic| walk_at "ca1") => `(tactic| with_reducible (refine' Sg.i_Handles_fork ?ev ?R ?s ?_; (case ev => (with_unfolding_all rfl)); (case R => (with_unfolding_all walk_at "pr")); (case s => (with_unfolding_all walk_at "pr"))))

theorem ok_Handles_fork (T : Txt K mg) : FnOk P w K mg base CX0 4 T.a_Handles_fork T.fd_Handles_fork ["self"] (sp_Handles_fork T.A_Handles T.A_OpenFile) := by
  refine T.F_Handles_fork.ok sc_Handles_fork (fun vs H Q E h => ?_) (fun cdv A outer s H vs Q E hr h => ?_)
  · obtain ⟨h, f, m, rfl, _⟩ := h
    rfl
  · refine ⟨_, (pss_cons (ps_set (i := 1) sc_Handles_fork.nd rfl (Or.inl rfl) (pe_make0 T.M_Handles (ok_Handles___init T) (hr.mono (by decide)) rfl T.m_Handles T.b_Handles___init .nil pass0))
       (pss_cons (ps_fld (pv 1) (pe_lc (own := [("opened", 2)]) (g := gName 2) (tt := tYes) rfl sc_Handles_fork.nd (pi_list (pe_fld (pv 0) rfl)) (blkOk_by (own := [("opened", 2)]) (N := n_Handles_fork) (sc := defScope s_Handles_fork) (by decide +kernel)) (fun _ _ _ _ _ => pg_name (i := 2) sc_Handles_fork.nd rfl (Or.inl rfl)) (fun _ _ _ _ _ => pts_nil) (fun _ _ _ _ _ => (pe_call (ok_copy_of_file T) (hr.mono (by decide)) rfl T.m_copy_of_file T.F_copy_of_file.kp T.b_copy_of_file .nil pass0 (pa_cons (pv 2) pa_nil)))) rfl)
       (pss_one (ps_ret (pv 1))))), ?_⟩
    try dsimp only [cxOf, Cx.nox, Cx.wish]
    obtain ⟨h, f, m, rfl, R, s, q⟩ := h
    have cl_Handles := T.cl_Handles
    have na_Handles_files := T.na_Handles_files
    obtain ⟨dx, fs, l, us, R⟩ := R
    have hi := s _ _ R.ins
    have hl := s _ _ R.lst
    have f1 := R.flds.files
    have hv := R.lv
    have hlm := R.lm
    walk_at "go"
    intro h2 dx2 nh nd ne
    refine i_Handles___init rfl upd_same fun H1 fs1 l1 k nl hl1 hh1 F1 => ⟨rfl, ?_⟩
    have s1 : Same H H1 := fun b o e => by
      have hb : b ≠ h2 := ne_of_none e nh
      exact k b o hb (by rw [upd_ne hb, upd_ne (ne_of_none e nd)]; exact e)
    have hi1 := s1 _ _ hi
    have hl2 := s1 _ _ hl
    have few := F1.few
    walk_at "go"
    refine r_lcL (fun i acc Hc => acc.length = i ∧ (∀ j : Nat, j < i → En T.A_OpenFile (fr H Hc) (acc.getD j .non) (m.getD j none)) ∧ (∀ (a b : Nat) (o : Addr), acc[a]? = some (.ref o) → acc[b]? = some (.ref o) → a = b) ∧ ∀ (a : Nat) (o : Addr), acc[a]? = some (.ref o) → H1 o = none ∧ Hc o ≠ none) (by walk_at "hp") (by omega) rfl ⟨rfl, fun j hj => absurd hj (Nat.not_lt_zero _), fun a b o z => by simp at z, fun a o z => by simp at z⟩ ?_ ?_
    · rintro i v acc H0 H' hi' s2 ⟨e1, e2, e3, e4⟩ s3 Rr hR
      have hi2 : i < 16 := by rw [← hv]; exact (List.getElem?_eq_some_iff.mp hi').1
      have he := R.ens i hi2
      rw [List.getD_eq_getElem?_getD, hi', Option.getD_some] at he
      have he' := he.mono (s.trans (s1.trans (s2.trans s3)))
      walk_at "go"
      intro H'' v' s4 hE hN
      refine hR v' H'' s4 fun D nD hD => ?_
      have s5 : Same H0 (hid D H'') := same_hid (s3.trans s4) nD
      have s6 : Same (fr H' H'') (fr H (hid D H'')) := fun b o e => by
        have hb := fr_new (H := H') (H' := H'') b (by rw [e]; intro z; cases z)
        have hbD : b ≠ D := fun z => hD (by rw [← z]; exact hb)
        refine fr_at ?_ (by rw [hid_ne hbD]; exact fr_same _ _ e)
        exact (s1.trans (s2.trans s3)).free hb
      have s7 : Same (fr H H0) (fr H (hid D H'')) := fun b o e => fr_at (fr_new b (by rw [e]; intro z; cases z)) (s5 _ _ (fr_same _ _ e))
      refine ⟨by rw [List.length_append, e1]; rfl, fun j hj => ?_, fun a b o ha hb => ?_, fun a o ha => ?_⟩
      · rw [List.getD_eq_getElem?_getD]
        by_cases c : j < i
        · rw [List.getElem?_append_left (by omega), ← List.getD_eq_getElem?_getD]
          exact (e2 j c).mono s7
        · have : j = i := by omega
          subst this
          rw [List.getElem?_append_right (by omega), e1, Nat.sub_self]
          exact hE.mono s6
      · have old : ∀ a, a < i → acc[a]? = some (.ref o) → H' o ≠ none := fun a _ h => fun z => (e4 a o h).2 (s3.free z)
        have key : ∀ a, (acc ++ [v'])[a]? = some (.ref o) → (a < i ∧ acc[a]? = some (.ref o)) ∨ (a = i ∧ v' = .ref o) := fun a h => by
          by_cases c : a < i
          · rw [List.getElem?_append_left (by omega)] at h
            exact .inl ⟨c, h⟩
          · rw [List.getElem?_append_right (by omega), e1] at h
            have : a - i = 0 := by
              rcases Nat.eq_zero_or_pos (a - i) with z | z
              · exact z
              · rw [List.getElem?_eq_none (by simp; omega)] at h; cases h
            rw [this] at h
            exact .inr ⟨by omega, by simpa using h⟩
        rcases key a ha with ⟨ca, ha⟩ | ⟨ca, ea⟩
        · rcases key b hb with ⟨cb, hb⟩ | ⟨cb, eb⟩
          · exact e3 a b o ha hb
          · exact absurd (hN o eb).1 (old a ca ha)
        · rcases key b hb with ⟨cb, hb⟩ | ⟨cb, eb⟩
          · exact absurd (hN o ea).1 (old b cb hb)
          · omega
      · by_cases c : a < i
        · rw [List.getElem?_append_left (by omega)] at ha
          obtain ⟨g1, g2⟩ := e4 a o ha
          refine ⟨g1, fun z => g2 (s5.free z)⟩
        · rw [List.getElem?_append_right (by omega), e1] at ha
          have : a - i = 0 := by
            rcases Nat.eq_zero_or_pos (a - i) with z | z
            · exact z
            · rw [List.getElem?_eq_none (by simp; omega)] at ha; cases ha
          rw [this] at ha
          simp at ha
          obtain ⟨g1, g2⟩ := hN o ha
          refine ⟨(s2.trans s3).free g1, ?_⟩
          have hoD : o ≠ D := fun z => hD (by rw [← z]; exact g1)
          rw [hid_ne hoD]
          exact g2
    · rintro H2 D acc s2 nD hD e1 ⟨_, e2, e3, e4⟩
      have hh2 := s2 _ _ hh1
      walk_at "go"
      rename_i H3 e5 h3
      have nh1 : H1 h2 ≠ none := by rw [hh1]; intro z; cases z
      have hDh : D ≠ h2 := fun z => nh1 (by rw [← z]; exact nD)
      have s3 : Same H H3 := Same.old (s1.trans s2) nh e5
      refine q H3 h2 s3 ⟨dx2, _, D, acc, fr_at nh h3, ?_, ?_, fun j hj => ?_, hlm, by rw [e1, hv], e3, fun a o ha z => ?_⟩
      · obtain ⟨g0, g1, g2, g3, g4, g5, g6, g7, g8, g9, g10⟩ := F1
        exact ⟨by rw [putF_lenS g1]; exact g0, by walk_at "lk", by walk_at "lk", by walk_at "lk", by walk_at "lk", by walk_at "lk", by walk_at "lk", by walk_at "lk", by walk_at "lk", by walk_at "lk", by walk_at "lk"⟩
      · refine fr_at (s1.free nD) ?_
        rw [← e5, upd_ne hDh]
        exact hD
      · have this := e2 j (by omega)
        cases hm : m.getD j none with
        | none => rw [hm] at this; exact this
        | some r =>
          rw [hm] at this
          obtain ⟨o, eo, dxo, fso, ho1, ho2⟩ := this
          have hoj : acc[j]? = some (.ref o) := by
            rw [List.getElem?_eq_getElem (by omega)]
            rw [List.getD_eq_getElem?_getD, List.getElem?_eq_getElem (by omega), Option.getD_some] at eo
            rw [eo]
          have hb := fr_new o (by rw [ho1]; intro z; cases z)
          obtain ⟨hoD, ho3⟩ := of_hid (fr_same _ _ ho1)
          have hoh : o ≠ h2 := fun z => nh1 (by rw [← z]; exact (e4 j o hoj).1)
          exact ⟨o, eo, dxo, fso, fr_at hb (by rw [← e5, upd_ne hoh]; exact ho3), ho2⟩
      · exact nh1 (by rw [← z]; exact (e4 a o ha).1)
def rowD : Option OF → PyData
  | none => .none
  | some r => .list [.int r.num, .str r.acc, .int r.res]
def resD : Rs → PyData
  | .handle n => .list [.str "handle", .int n]
  | .file r => .list [.str "file", rowD (some r)]
  | .done => .list [.str "done", .int 0]
  | .fault s => .list [.str "fault", .str s]
def AccOk (m : List (Option OF)) : Prop := ∀ r, some r ∈ m → PyData.canLay0 (.str r.acc) = true
theorem row_fl {m : List (Option OF)} (h : AccOk m) {x : Option OF} (hx : x ∈ m) : Fl 1 (rowD x) := by
  cases x with
  | none => exact Fl.non 1
  | some r => exact Fl.lst (Fl.cons (Fl.int _ _) (Fl.cons (Fl.str (h r hx) 0) (Fl.cons (Fl.int _ _) Fl.nil)))
theorem rows_fl {m : List (Option OF)} (h : AccOk m) : Fl 2 (.list (m.map rowD)) := Fl.lst fun d hd => by
  obtain ⟨x, hx, rfl⟩ := List.mem_map.mp hd
  exact row_fl h hx
theorem eqv_non (x : Option OF) : PyData.eqv (rowD x) .none = x.isNone := by cases x <;> simp [rowD, PyData.eqv]
theorem any_rows (m : List (Option OF)) : ((m.map rowD).any fun z => PyData.eqv z .none) = m.any Option.isNone := by
  rw [List.any_map]
  congr 1
  funext x
  exact eqv_non x
theorem any_first (m : List (Option OF)) : m.any Option.isNone = (firstN m).isSome := by
  induction m with
  | nil => rfl
  | cons x t ih =>
    cases x with
    | none => rfl
    | some r => rw [List.any_cons, ih]; simp [firstN]
theorem opF_ok {m : List (Option OF)} {kind hd more : Int} {acc : Str} (h : AccOk m) (ha : PyData.canLay0 (.str acc) = true) : AccOk (opF m kind hd more acc).2 := by
  have set1 : ∀ (i : Nat) (x : Option OF), (∀ r, x = some r → PyData.canLay0 (.str r.acc) = true) → AccOk (m.set i x) := fun i x hx r hr => by
    rcases List.mem_or_eq_of_mem_set hr with z | z
    · exact h r z
    · exact hx r z.symm
  have get1 : ∀ r, getM m hd = some r → PyData.canLay0 (.str r.acc) = true := fun r e => by
    unfold getM at e
    split at e
    · rw [List.getD_eq_getElem?_getD] at e
      cases hm : m[hd.toNat]? with
      | none => rw [hm] at e; cases e
      | some x =>
        rw [hm, Option.getD_some] at e
        rw [e] at hm
        exact h r (List.mem_of_getElem? hm)
    · cases e
  unfold opF
  split
  · split
    · exact h
    · exact set1 _ _ fun r e => by cases e; exact ha
  · split
    · exact h
    · rename_i r e
      split
      · exact h
      · split
        · exact set1 _ _ fun r e => by cases e
        · split
          · exact set1 _ _ fun r' e' => by cases e'; exact get1 r e
          · exact h
theorem res_shaped {m : List (Option OF)} {kind hd more : Int} {acc : Str} (h : AccOk m) : SeqAt.shaped (resD (opF m kind hd more acc).1) = true := by
  have get1 : ∀ r, getM m hd = some r → PyData.canLay0 (.str r.acc) = true := fun r e => by
    unfold getM at e
    split at e
    · rw [List.getD_eq_getElem?_getD] at e
      cases hm : m[hd.toNat]? with
      | none => rw [hm] at e; cases e
      | some x =>
        rw [hm, Option.getD_some] at e
        rw [e] at hm
        exact h r (List.mem_of_getElem? hm)
    · cases e
  have hf : ∀ s : Str, PyData.canLay0 (.str s) = true → SeqAt.shaped (resD (.fault s)) = true := fun s hs => (Fl.lst (Fl.cons (Fl.str (by decide +kernel) 0) (Fl.cons (Fl.str hs 0) Fl.nil))).shaped
  have hr : ∀ r, getM m hd = some r → SeqAt.shaped (resD (.file r)) = true := fun r e => (Fl.lst (n := 1) (Fl.cons (Fl.str (by decide +kernel) 1) (Fl.cons (row_fl (m := [some r]) (fun r' h' => by cases List.mem_singleton.mp h'; exact get1 r e) List.mem_cons_self) Fl.nil))).shaped
  unfold opF
  split
  · split
    · exact hf _ (by decide +kernel)
    · exact (Fl.lst (Fl.cons (Fl.str (by decide +kernel) 0) (Fl.cons (Fl.int _ 0) Fl.nil))).shaped
  · split
    · exact hf _ (by decide +kernel)
    · rename_i r e
      split
      · exact hf _ (by decide +kernel)
      · split
        · exact hr r e
        · split
          · exact (Fl.lst (Fl.cons (Fl.str (by decide +kernel) 0) (Fl.cons (Fl.int _ 0) Fl.nil))).shaped
          · exact hr r e
def sp_law_is_integer  : Sp := fun args_ H Q _ => ∃ (i : Int), args_ = [.int i] ∧ Q (.bl true) H
theorem i_law_is_integer  {args_ : List V} {H : Hp} {Q : V → Hp → Prop} {E : XK} {i : Int} (ev : args_ = [.int i]) (q : Q (.bl true) H) : sp_law_is_integer  args_ H Q E := ⟨i, ev, q⟩
local macro_rules | `(tactic| walk_at "ca1") => `(tactic| with_reducible (refine' Sg.i_law_is_integer ?ev ?_; (case ev => (with_unfolding_all rfl))))

theorem ok_law_is_integer (T : Txt K mg) : FnOk P w K mg base CX0 1 T.a_law_is_integer T.fd_law_is_integer ["actual"] sp_law_is_integer := by
  refine T.F_law_is_integer.ok sc_law_is_integer (fun vs H Q E h => ?_) (fun cdv A outer s H vs Q E hr h => ?_)
  · obtain ⟨i, rfl, _⟩ := h
    rfl
  · refine ⟨_, (pss_one (ps_ret (pe_and (pe_callB (call_isi) (by rfl) T.n_isinstance (by decide +kernel) (pa_cons (pv 0) (pa_cons (pe_bltn (v := .ty "int") (by rfl) T.n_int (by decide +kernel) rfl) pa_nil))) (pe_one (pe_not (pe_callB (call_isi) (by rfl) T.n_isinstance (by decide +kernel) (pa_cons (pv 0) (pa_cons (pe_bltn (v := .ty "bool") (by rfl) T.n_bool (by decide +kernel) rfl) pa_nil)))))))), ?_⟩
    try dsimp only [cxOf, Cx.nox, Cx.wish]
    obtain ⟨i, rfl, q⟩ := h
    walk_at "go"
    exact q
def sp_law_fields (K : PySem.W.Frag) (C : Addr) : Sp := fun args_ H Q _ => ∃ (o : Addr) (r : OF) (f : Hp), args_ = [.ref o] ∧ OfAt C f o r ∧ Same f H ∧ ∀ H' l, Same H H' → H l = none → H' l = some (.lst [.int r.num, .str r.acc, .int r.res]) → Q (.ref l) H'
theorem i_law_fields {K : PySem.W.Frag} {C : Addr} {args_ : List V} {H : Hp} {Q : V → Hp → Prop} {E : XK} {o : Addr} {r : OF} {f : Hp} (ev : args_ = [.ref o]) (h : OfAt C f o r) (s : Same f H) (q : ∀ H' l, Same H H' → H l = none → H' l = some (.lst [.int r.num, .str r.acc, .int r.res]) → Q (.ref l) H') : sp_law_fields K C args_ H Q E := ⟨o, r, f, ev, h, s, q⟩
local macro_rules | `(tactic| walk_at "ca1") => `(tactic| with_reducible (refine' Sg.i_law_fields ?ev ?h ?s ?_; (case ev => (with_unfolding_all rfl)); (case h => (with_unfolding_all walk_at "pr")); (case s => (with_unfolding_all walk_at "pr"))))

theorem ok_law_fields (T : Txt K mg) : FnOk P w K mg base CX0 1 T.a_law_fields T.fd_law_fields ["file"] (sp_law_fields K T.A_OpenFile) := by
  refine T.F_law_fields.ok sc_law_fields (fun vs H Q E h => ?_) (fun cdv A outer s H vs Q E hr h => ?_)
  · obtain ⟨o, r, f, rfl, _⟩ := h
    rfl
  · refine ⟨_, (pss_one (ps_ret (pe_lst (pa_cons (pe_fld (pv 0) rfl) (pa_cons (pe_fld (pv 0) rfl) (pa_cons (pe_fld (pv 0) rfl) pa_nil)))))), ?_⟩
    try dsimp only [cxOf, Cx.nox, Cx.wish]
    obtain ⟨o, r, f, rfl, h, s, q⟩ := h
    have cl_OpenFile := T.cl_OpenFile
    have na_OpenFile_access := T.na_OpenFile_access
    have na_OpenFile_number := T.na_OpenFile_number
    have na_OpenFile_reserved := T.na_OpenFile_reserved
    obtain ⟨dx, fs, h1, h2⟩ := h
    have h3 := s _ _ h1
    have f1 := h2.num
    have f2 := h2.acc
    have f3 := h2.res
    walk_at "go"
    rename_i l nl H' s1 hl
    exact q H' l s1 nl hl
theorem take_map {m : List (Option OF)} {i : Nat} {x : Option OF} (h : m[i]? = some x) : (m.take (i + 1)).map rowD = (m.take i).map rowD ++ [rowD x] := by
  rw [List.take_add_one, h, List.map_append]
  rfl
def sp_law_rows (K : PySem.W.Frag) (CH CO : Addr) : Sp := fun args_ H Q _ => ∃ (h : Addr) (f : Hp) (m : List (Option OF)), args_ = [.ref h] ∧ HdP CH CO f h m ∧ Same f H ∧ ∀ H' l, Same H H' → Dp K H' (.ref l) (.list (m.map rowD)) → Q (.ref l) H'
theorem i_law_rows {K : PySem.W.Frag} {CH CO : Addr} {args_ : List V} {H : Hp} {Q : V → Hp → Prop} {E : XK} {h : Addr} {f : Hp} {m : List (Option OF)} (ev : args_ = [.ref h]) (R : HdP CH CO f h m) (s : Same f H) (q : ∀ H' l, Same H H' → Dp K H' (.ref l) (.list (m.map rowD)) → Q (.ref l) H') : sp_law_rows K CH CO args_ H Q E := ⟨h, f, m, ev, R, s, q⟩
local macro_rules | `(tactic| walk_at "ca1") => `(tactic| with_reducible (refine' Sg.i_law_rows ?ev ?R ?s ?_; (case ev => (with_unfolding_all rfl)); (case R => (with_unfolding_all walk_at "pr")); (case s => (with_unfolding_all walk_at "pr"))))

theorem ok_law_rows (T : Txt K mg) : FnOk P w K mg base CX0 1 T.a_law_rows T.fd_law_rows ["handles"] (sp_law_rows K T.A_Handles T.A_OpenFile) := by
  refine T.F_law_rows.ok sc_law_rows (fun vs H Q E h => ?_) (fun cdv A outer s H vs Q E hr h => ?_)
  · obtain ⟨h, f, m, rfl, _⟩ := h
    rfl
  · refine ⟨_, (pss_cons (ps_set (i := 1) sc_law_rows.nd rfl (Or.inl rfl) (pe_lst pa_nil))
       (pss_cons (ps_for PassesOwn.never rfl (pi_list (pe_fld (pv 0) rfl)) (pg_name (i := 2) sc_law_rows.nd rfl (Or.inl rfl))
       (pss_one (ps_if (pt_cmp (pc_isN (pv 2)) rfl)
       (pss_one (ps_expr (pe_bm PySem.F.plainAttrs_list PySem.F.slot_list_append PySem.F.type_list_append mt_append (pv 1) (pa_cons pe_non pa_nil))))
       (pss_one (ps_expr (pe_bm PySem.F.plainAttrs_list PySem.F.slot_list_append PySem.F.type_list_append mt_append (pv 1) (pa_cons (pe_lst (pa_cons (pe_fld (pv 2) rfl) (pa_cons (pe_fld (pv 2) rfl) (pa_cons (pe_fld (pv 2) rfl) pa_nil)))) pa_nil)))))))
       (pss_one (ps_ret (pv 1))))), ?_⟩
    try dsimp only [cxOf, Cx.nox, Cx.wish]
    obtain ⟨h, f, m, rfl, R, s, q⟩ := h
    have cl_Handles := T.cl_Handles
    have cl_OpenFile := T.cl_OpenFile
    have na_Handles_files := T.na_Handles_files
    have na_OpenFile_access := T.na_OpenFile_access
    have na_OpenFile_number := T.na_OpenFile_number
    have na_OpenFile_reserved := T.na_OpenFile_reserved
    obtain ⟨dx, fs, l, us, R⟩ := R
    have hi := s _ _ R.ins
    have hl := s _ _ R.lst
    have f1 := R.flds.files
    have hv := R.lv
    have hlm := R.lm
    walk_at "go"
    rename_i lr nr H1 s1 hr
    refine r_forL (xs := us) (fun i σ' H' => ∃ (acc : List V) (v : Option V), σ' = [some (.ref h), some (.ref lr), v] ∧ acc.length = i ∧ H' lr = some (.lst acc) ∧ Same H H' ∧ DpAll K (hid lr H') acc ((m.take i).map rowD)) ⟨_, _, rfl, rfl, hr, s1, .nil⟩ ?_ ?_ ?_
    · rintro i σ' H' hi ⟨acc, v, rfl, e, h1, h2, h3⟩
      exact .inl (.inl (h2 _ _ hl))
    · rintro i x σ' H' hi' ⟨acc, v, rfl, e, h1, h2, h3⟩
      have hi2 : i < 16 := by rw [← hv]; exact (List.getElem?_eq_some_iff.mp hi').1
      have he := R.ens i hi2
      rw [List.getD_eq_getElem?_getD, hi', Option.getD_some] at he
      have hmi : m[i]? = some (m.getD i none) := by rw [List.getD_eq_getElem?_getD, List.getElem?_eq_getElem (by omega)]; rfl
      rw [take_map hmi]
      cases hm : m.getD i none with
      | none =>
        rw [hm] at he
        cases he
        walk_at "go"
        rename_i H2 e2 h2'
        exact ⟨_, _, rfl, by rw [List.length_append, e]; rfl, h2', Same.old h2 nr e2, by rw [← e2, hid_upd]; exact DpAll.snoc h3 .non⟩
      | some r =>
        rw [hm] at he
        obtain ⟨o, rfl, dxo, fso, ho1, ho2⟩ := he
        have ho3 := h2 _ _ (s _ _ ho1)
        have g1 := ho2.num
        have g2 := ho2.acc
        have g3 := ho2.res
        walk_at "go"
        rename_i p np H2 s2 hp H3 e3 h3'
        have hpl : p ≠ lr := fun z => by rw [z, h1] at np; cases np
        refine ⟨_, _, rfl, by rw [List.length_append, e]; rfl, h3', Same.old (h2.trans s2) nr e3, ?_⟩
        rw [← e3, hid_upd]
        refine DpAll.snoc (DpAll.mono (hid_mono s2) _ _ h3) (.lst (.inl (.inl (by rw [hid_ne hpl]; exact hp))) (.cons (.int _) (.cons (.str _) (.cons (.int _) .nil))))
    · rintro σ' H' ⟨acc, v, rfl, e, h1, h2, h3⟩
      rw [List.take_of_length_le (by omega)] at h3
      walk_at "go"
      exact q _ _ h2 (.lst (.inl (.inl h1)) (DpAll.mono hid_same _ _ h3))
theorem dp_row {K : PySem.W.Frag} {H : Hp} {v : V} {r : OF} (h : Dp K H v (rowD (some r))) : ∃ a, v = .ref a ∧ SqL K H a [.int r.num, .str r.acc, .int r.res] := by
  cases h with
  | lst hs ha =>
    cases ha with
    | cons h1 t =>
      cases h1
      cases t with
      | cons h2 t =>
        cases h2
        cases t with
        | cons h3 t =>
          cases h3
          cases t
          exact ⟨_, rfl, hs⟩
theorem dp_non {K : PySem.W.Frag} {H : Hp} {v : V} (h : Dp K H v (rowD none)) : v = .non := by cases h; rfl
theorem rows_at {K : PySem.W.Frag} {H : Hp} {ws : List V} {m : List (Option OF)} (h : DpAll K H ws (m.map rowD)) {i : Nat} {v : V} (e : ws[i]? = some v) : ∃ x, m[i]? = some x ∧ Dp K H v (rowD x) := by
  obtain ⟨d, e1, h1⟩ := DpAll.at h i v e
  rw [List.getElem?_map] at e1
  obtain ⟨x, e2, rfl⟩ := Option.map_eq_some_iff.mp e1
  exact ⟨x, e2, h1⟩
def sp_law_numbers (K : PySem.W.Frag) : Sp := fun args_ H Q _ => ∃ (l : Addr) (ws : List V) (m : List (Option OF)), args_ = [.ref l] ∧ H l = some (.lst ws) ∧ DpAll K H ws (m.map rowD) ∧ m.length = 16 ∧ ∀ H' p ns, Same H H' → H p = none → H' p = some (.lst (ns.map V.int)) → NumOf m ns → Q (.ref p) H'
theorem i_law_numbers {K : PySem.W.Frag} {args_ : List V} {H : Hp} {Q : V → Hp → Prop} {E : XK} {l : Addr} {ws : List V} {m : List (Option OF)} (ev : args_ = [.ref l]) (hl : H l = some (.lst ws)) (hw : DpAll K H ws (m.map rowD)) (lm : m.length = 16) (q : ∀ H' p ns, Same H H' → H p = none → H' p = some (.lst (ns.map V.int)) → NumOf m ns → Q (.ref p) H') : sp_law_numbers K args_ H Q E := ⟨l, ws, m, ev, hl, hw, lm, q⟩
local macro_rules | `(tactic| walk_at "ca1") => `(tactic| with_reducible (refine' Sg.i_law_numbers ?ev ?hl ?hw ?lm ?_; (case ev => (with_unfolding_all rfl)); (case hl => (with_unfolding_all walk_at "pr")); (case hw => (with_unfolding_all walk_at "pr")); (case lm => (with_unfolding_all walk_at "pr"))))

theorem ok_law_numbers (T : Txt K mg) : FnOk P w K mg base CX0 1 T.a_law_numbers T.fd_law_numbers ["rows"] (sp_law_numbers K) := by
  refine T.F_law_numbers.ok sc_law_numbers (fun vs H Q E h => ?_) (fun cdv A outer s H vs Q E hr h => ?_)
  · obtain ⟨l, ws, m, rfl, _⟩ := h
    rfl
  · refine ⟨_, (pss_cons (ps_set (i := 1) sc_law_numbers.nd rfl (Or.inl rfl) (pe_lst pa_nil))
       (pss_cons (ps_for PassesOwn.never rfl (pi_list (pv 0)) (pg_name (i := 2) sc_law_numbers.nd rfl (Or.inl rfl))
       (pss_one (ps_if (PW.pt (pw_and (pt_cmp (pc_notN (pv 2)) rfl) (pw_and1 (pt_cmpR op_notIn_seq (pe_ix ix_list (pv 2) pe_int (fun _ _ => rfl)) (pv 1) (by with_unfolding_all rfl)))))
       (pss_one (ps_expr (pe_bm PySem.F.plainAttrs_list PySem.F.slot_list_append PySem.F.type_list_append mt_append (pv 1) (pa_cons (pe_ix ix_list (pv 2) pe_int (fun _ _ => rfl)) pa_nil))))
       pss_nil)))
       (pss_one (ps_ret (pe_callB (cr_sorted) (by rfl) T.n_sorted (by decide +kernel) (pa_cons (pv 1) pa_nil)))))), ?_⟩
    try dsimp only [cxOf, Cx.nox, Cx.wish]
    obtain ⟨l, ws, m, rfl, hl, hw, lm, q⟩ := h
    have lw : ws.length = 16 := by rw [DpAll.length hw, List.length_map, lm]
    walk_at "go"
    rename_i ln nn H1 s1 hn
    have hl1 := s1 _ _ hl
    refine r_forL (xs := ws) (fun i σ' H' => ∃ (ns : List Int) (v : Option V), σ' = [some (.ref l), some (.ref ln), v] ∧ H' ln = some (.lst (ns.map V.int)) ∧ Same H H' ∧ ns.Nodup ∧ ns.length ≤ i ∧ ∀ k, k ∈ ns ↔ ∃ (j : Nat) (r : OF), j < i ∧ m[j]? = some (some r) ∧ r.num = k) ⟨[], _, rfl, hn, s1, List.nodup_nil, Nat.le_refl _, fun k => ⟨fun z => (by cases z), fun ⟨j, r, z, _⟩ => absurd z (Nat.not_lt_zero _)⟩⟩ ?_ ?_ ?_
    · rintro i σ' H' hi ⟨ns, v, rfl, e, h1, h2, h3, h4⟩
      exact .inl (.inl (h1 _ _ hl))
    · rintro i x σ' H' hi' ⟨ns, v, rfl, e, h1, h2, h3, h4⟩
      have hi2 : i < 16 := by rw [← lw]; exact (List.getElem?_eq_some_iff.mp hi').1
      obtain ⟨y, hy, hd⟩ := rows_at hw hi'
      have hd' := Dp.mono h1 _ _ hd
      have stay : (∀ r, y = some r → r.num ∈ ns) → ∃ (ns' : List Int) (v' : Option V), [some (.ref l), some (.ref ln), some (x)] = [some (.ref l), some (.ref ln), v'] ∧ H' ln = some (.lst (ns'.map V.int)) ∧ Same H H' ∧ ns'.Nodup ∧ ns'.length ≤ i + 1 ∧ ∀ k, k ∈ ns' ↔ ∃ (j : Nat) (r : OF), j < i + 1 ∧ m[j]? = some (some r) ∧ r.num = k := fun hs =>
        ⟨ns, _, rfl, e, h1, h2, by omega, fun k => (h4 k).trans ⟨fun ⟨j, r, a, b, c⟩ => ⟨j, r, by omega, b, c⟩, fun ⟨j, r, a, b, c⟩ => by
          rcases Nat.lt_or_ge j i with z | z
          · exact ⟨j, r, z, b, c⟩
          · have : j = i := by omega
            subst this
            rw [hy] at b
            cases b
            exact (h4 k).mp (by rw [← c]; exact hs r rfl)⟩⟩
      cases y with
      | none =>
        cases dp_non hd'
        walk_at "go"
        exact stay fun r z => by cases z
      | some r =>
        obtain ⟨a, rfl, ha⟩ := dp_row hd'
        walk_at "go"
        refine r_in (.inl (.inl (.inl e))) rfl (flat_ints ns) ?_
        rw [inV_ints]
        walk_at "go"
        by_cases hm : r.num ∈ ns
        · rw [decide_eq_true hm]
          walk_at "go"
          exact stay fun r' z => by cases z; exact hm
        · rw [decide_eq_false hm]
          walk_at "go"
          rename_i H2 e2 h2'
          refine ⟨ns ++ [r.num], _, rfl, by rw [h2', List.map_append]; rfl, Same.old h1 nn e2, ?_, by rw [List.length_append]; show ns.length + 1 ≤ _; omega, fun k => ?_⟩
          · rw [List.nodup_append]
            exact ⟨h2, by simp, fun a ha b hb z => hm (by cases List.mem_singleton.mp hb; rw [← z]; exact ha)⟩
          · rw [List.mem_append, List.mem_singleton, h4]
            constructor
            · rintro (⟨j, r', a, b, c⟩ | rfl)
              · exact ⟨j, r', by omega, b, c⟩
              · exact ⟨i, r, by omega, hy, rfl⟩
            · rintro ⟨j, r', a, b, c⟩
              rcases Nat.lt_or_ge j i with z | z
              · exact .inl ⟨j, r', z, b, c⟩
              · have : j = i := by omega
                subst this
                rw [hy] at b
                cases b
                exact .inr c.symm
    · rintro σ' H' ⟨ns, v, rfl, e, h1, h2, h3, h4⟩
      walk_at "go"
      rename_i ns' perm rising p np H2 s2 hp
      refine q H2 p ns' (h1.trans s2) (h1.free np) hp ⟨?_, fun k => perm.mem_iff.trans ((h4 k).trans ⟨fun ⟨j, r, a, b, c⟩ => ⟨r, List.mem_of_getElem? b, c⟩, fun ⟨r, hr, c⟩ => ?_⟩), by rw [perm.length_eq]; omega⟩
      · exact lt_of_le_nodup ns' rising (perm.nodup_iff.mpr h2)
      · obtain ⟨j, hj, ej⟩ := List.getElem_of_mem hr
        exact ⟨j, r, by rw [lw, ← lm]; exact hj, by rw [List.getElem?_eq_getElem hj, ej], c⟩
def sp_law_copy (K : PySem.W.Frag) : Sp := fun args_ H Q _ => ∃ (l : Addr) (ws : List V) (m : List (Option OF)), args_ = [.ref l] ∧ H l = some (.lst ws) ∧ DpAll K H ws (m.map rowD) ∧ m.length = 16 ∧ ∀ H' p ps, Same H H' → H p = none → H' p = some (.lst ps) → DpAll K (fr H H') ps (m.map rowD) → Q (.ref p) H'
theorem i_law_copy {K : PySem.W.Frag} {args_ : List V} {H : Hp} {Q : V → Hp → Prop} {E : XK} {l : Addr} {ws : List V} {m : List (Option OF)} (ev : args_ = [.ref l]) (hl : H l = some (.lst ws)) (hw : DpAll K H ws (m.map rowD)) (lm : m.length = 16) (q : ∀ H' p ps, Same H H' → H p = none → H' p = some (.lst ps) → DpAll K (fr H H') ps (m.map rowD) → Q (.ref p) H') : sp_law_copy K args_ H Q E := ⟨l, ws, m, ev, hl, hw, lm, q⟩
local macro_rules | `(tactic| walk_at "ca1") => `(tactic| with_reducible (refine' Sg.i_law_copy ?ev ?hl ?hw ?lm ?_; (case ev => (with_unfolding_all rfl)); (case hl => (with_unfolding_all walk_at "pr")); (case hw => (with_unfolding_all walk_at "pr")); (case lm => (with_unfolding_all walk_at "pr"))))

theorem ok_law_copy (T : Txt K mg) : FnOk P w K mg base CX0 1 T.a_law_copy T.fd_law_copy ["rows"] (sp_law_copy K) := by
  refine T.F_law_copy.ok sc_law_copy (fun vs H Q E h => ?_) (fun cdv A outer s H vs Q E hr h => ?_)
  · obtain ⟨l, ws, m, rfl, _⟩ := h
    rfl
  · refine ⟨_, (pss_cons (ps_set (i := 1) sc_law_copy.nd rfl (Or.inl rfl) (pe_lst pa_nil))
       (pss_cons (ps_for PassesOwn.never rfl (pi_list (pv 0)) (pg_name (i := 2) sc_law_copy.nd rfl (Or.inl rfl))
       (pss_one (ps_if (pt_cmp (pc_isN (pv 2)) rfl)
       (pss_one (ps_expr (pe_bm PySem.F.plainAttrs_list PySem.F.slot_list_append PySem.F.type_list_append mt_append (pv 1) (pa_cons pe_non pa_nil))))
       (pss_one (ps_expr (pe_bm PySem.F.plainAttrs_list PySem.F.slot_list_append PySem.F.type_list_append mt_append (pv 1) (pa_cons (pe_callTy c_list (by rfl) T.n_list (by decide +kernel) (pa_cons (pv 2) pa_nil)) pa_nil)))))))
       (pss_one (ps_ret (pv 1))))), ?_⟩
    try dsimp only [cxOf, Cx.nox, Cx.wish]
    obtain ⟨l, ws, m, rfl, hl, hw, lm, q⟩ := h
    have lw : ws.length = 16 := by rw [DpAll.length hw, List.length_map, lm]
    walk_at "go"
    rename_i lc nc H1 s1 hc
    have hl1 := s1 _ _ hl
    refine r_forL (xs := ws) (fun i σ' H' => ∃ (ps : List V) (v : Option V), σ' = [some (.ref l), some (.ref lc), v] ∧ ps.length = i ∧ H' lc = some (.lst ps) ∧ Same H H' ∧ DpAll K (fr H (hid lc H')) ps ((m.take i).map rowD)) ⟨[], _, rfl, rfl, hc, s1, .nil⟩ ?_ ?_ ?_
    · rintro i σ' H' hi ⟨ps, v, rfl, e, h1, h2, h3⟩
      exact .inl (.inl (h2 _ _ hl))
    · rintro i x σ' H' hi' ⟨ps, v, rfl, e, h1, h2, h3⟩
      have hi2 : i < 16 := by rw [← lw]; exact (List.getElem?_eq_some_iff.mp hi').1
      obtain ⟨y, hy, hd⟩ := rows_at hw hi'
      have hd' := Dp.mono h2 _ _ hd
      rw [take_map hy]
      cases y with
      | none =>
        cases dp_non hd'
        walk_at "go"
        rename_i H2 e2 h2'
        exact ⟨_, _, rfl, by rw [List.length_append, e]; rfl, h2', Same.old h2 nc e2, by rw [← e2, hid_upd]; exact DpAll.snoc h3 .non⟩
      | some r =>
        obtain ⟨a, rfl, ha⟩ := dp_row hd'
        walk_at "go"
        rename_i p np H2 s2 hp H3 e3 h3'
        have hpl : p ≠ lc := fun z => by rw [z, h1] at np; cases np
        refine ⟨_, _, rfl, by rw [List.length_append, e]; rfl, h3', Same.old (h2.trans s2) nc e3, ?_⟩
        rw [← e3, hid_upd]
        have s3 : Same (fr H (hid lc H')) (fr H (hid lc H2)) := fun b o eb => fr_at (fr_new b (by rw [eb]; intro z; cases z)) (hid_mono s2 _ _ (fr_same _ _ eb))
        refine DpAll.snoc (DpAll.mono s3 _ _ h3) (.lst (.inl (.inl (fr_at (h2.free np) (by rw [hid_ne hpl]; exact hp)))) (.cons (.int _) (.cons (.str _) (.cons (.int _) .nil))))
    · rintro σ' H' ⟨ps, v, rfl, e, h1, h2, h3⟩
      rw [List.take_of_length_le (by omega)] at h3
      walk_at "go"
      refine q _ _ _ h2 nc h1 (DpAll.mono (fun b o eb => ?_) _ _ h3)
      exact fr_at (fr_new b (by rw [eb]; intro z; cases z)) (hid_same _ _ (fr_same _ _ eb))
theorem one_hid {l : Addr} {o : HO} {H G : Hp} (s : Same G H) (n : G l = none) : Dj G (one l o) := dj_one n
def sp_law_due (K : PySem.W.Frag) : Sp := fun args_ H Q _ => ∃ (l : Addr) (ws : List V) (m : List (Option OF)) (kind hd more : Int) (acc : Str) (G : Hp), args_ = [.ref l, .int kind, .int hd, .int more, .str acc] ∧ H l = some (.lst ws) ∧ Same G H ∧ G l = none ∧ DpAll K G ws (m.map rowD) ∧ m.length = 16 ∧ AccOk m ∧ 0 ≤ kind ∧ kind ≤ 5 ∧ ∀ H' ws' t G', Act (one l (.lst ws)) H (one l (.lst ws')) H' → Same G G' → Same G' H' → (∀ b, G' b ≠ none → G b ≠ none ∨ H b = none) → DpAll K G' ws' ((opF m kind hd more acc).2.map rowD) → Dp K H' (.ref t) (resD (opF m kind hd more acc).1) → Q (.ref t) H'
theorem i_law_due {K : PySem.W.Frag} {args_ : List V} {H : Hp} {Q : V → Hp → Prop} {E : XK} {l : Addr} {ws : List V} {m : List (Option OF)} {kind hd more : Int} {acc : Str} {G : Hp} (ev : args_ = [.ref l, .int kind, .int hd, .int more, .str acc]) (hl : H l = some (.lst ws)) (sG : Same G H) (nG : G l = none) (hw : DpAll K G ws (m.map rowD)) (lm : m.length = 16) (hok : AccOk m) (k0 : 0 ≤ kind) (k5 : kind ≤ 5) (q : ∀ H' ws' t G', Act (one l (.lst ws)) H (one l (.lst ws')) H' → Same G G' → Same G' H' → (∀ b, G' b ≠ none → G b ≠ none ∨ H b = none) → DpAll K G' ws' ((opF m kind hd more acc).2.map rowD) → Dp K H' (.ref t) (resD (opF m kind hd more acc).1) → Q (.ref t) H') : sp_law_due K args_ H Q E := ⟨l, ws, m, kind, hd, more, acc, G, ev, hl, sG, nG, hw, lm, hok, k0, k5, q⟩
local macro_rules | `(tactic| walk_at "ca1") => `(tactic| with_reducible (refine' Sg.i_law_due ?ev ?hl ?sG ?nG ?hw ?lm ?hok ?k0 ?k5 ?_; (case ev => (with_unfolding_all rfl)); (case hl => (with_unfolding_all walk_at "pr")); (case sG => (with_unfolding_all walk_at "pr")); (case nG => (with_unfolding_all walk_at "pr")); (case hw => (with_unfolding_all walk_at "pr")); (case lm => (with_unfolding_all walk_at "pr")); (case hok => (with_unfolding_all walk_at "pr")); (case k0 => (with_unfolding_all walk_at "pr")); (case k5 => (with_unfolding_all walk_at "pr"))))

theorem ok_law_due (T : Txt K mg) : FnOk P w K mg base CX0 1 T.a_law_due T.fd_law_due ["rows", "kind", "handle", "more", "access"] (sp_law_due K) := by
  refine T.F_law_due.ok sc_law_due (fun vs H Q E h => ?_) (fun cdv A outer s H vs Q E hr h => ?_)
  · obtain ⟨l, ws, m, kind, hd, more, acc, G, rfl, _⟩ := h
    rfl
  · refine ⟨_, (pss_cons (ps_if (pt_cmpR op_eq (pv 1) pe_int (nomark _))
       (pss_cons (ps_if (pt_cmpR (op_notInD (hu65 hr)) pe_non (pv 0) (by with_unfolding_all rfl))
       (pss_one (ps_ret (pe_lst (pa_cons pe_str (pa_cons pe_str pa_nil)))))
       pss_nil)
       (pss_cons (ps_set (i := 5) sc_law_due.nd rfl (Or.inl rfl) (pe_bm PySem.F.plainAttrs_list PySem.F.slot_list_index PySem.F.type_list_index (mt_indexD (hu65 hr)) (pv 0) (pa_cons pe_non pa_nil)))
       (pss_cons (ps_asg (pe_lst (pa_cons (pv 3) (pa_cons (pv 4) (pa_cons pe_int pa_nil)))) (pg_sub (pv 0) (pv 5) set_list))
       (pss_one (ps_ret (pe_lst (pa_cons pe_str (pa_cons (pv 5) pa_nil))))))))
       pss_nil)
       (C8.pss_cut (ps_if (PW.pt (pw_or (pt_cmpR op_lt (pv 2) pe_int (nomark _)) (pw_or (pt_cmpR op_gt (pv 2) pe_int (nomark _)) (pw_or1 (pt_cmp (pc_isN (pe_ix ix_list (pv 0) (pv 2) (fun _ _ => rfl))) rfl)))))
       (pss_one (ps_ret (pe_lst (pa_cons pe_str (pa_cons pe_str pa_nil)))))
       pss_nil)
       (pss_cons (ps_set (i := 6) sc_law_due.nd rfl (Or.inl rfl) (pe_callTy c_list (by rfl) T.n_list (by decide +kernel) (pa_cons (pe_ix ix_list (pv 0) (pv 2) (fun _ _ => rfl)) pa_nil)))
       (C8.pss_cut (ps_if (PW.pt (pw_or (PW.pt (pw_and (pt_cmpR op_eq (pv 1) pe_int (nomark _)) (pw_and1 (pt_cmpR op_eq (pe_ix ix_list (pv 6) pe_int (fun _ _ => rfl)) pe_str (nomark _))))) (pw_or1 (PW.pt (pw_and (pt_cmpR op_gt (pv 1) pe_int (nomark _)) (pw_and1 (pt_cmpR op_eq (pe_ix ix_list (pv 6) pe_int (fun _ _ => rfl)) pe_str (nomark _))))))))
       (pss_one (ps_ret (pe_lst (pa_cons pe_str (pa_cons pe_str pa_nil)))))
       pss_nil)
       (C8.pss_cut (ps_if (pt_cmpR op_eq (pv 1) pe_int (nomark _))
       (pss_one (ps_asg pe_non (pg_sub (pv 0) (pv 2) set_list)))
       pss_nil)
       (pss_cons (ps_if (pt_cmpR op_eq (pv 1) pe_int (nomark _))
       (pss_cons (ps_asg (pe_lst (pa_cons (pe_ix ix_list (pv 6) pe_int (fun _ _ => rfl)) (pa_cons (pe_ix ix_list (pv 6) pe_int (fun _ _ => rfl)) (pa_cons (pv 3) pa_nil)))) (pg_sub (pv 0) (pv 2) set_list))
       (pss_one (ps_ret (pe_lst (pa_cons pe_str (pa_cons pe_int pa_nil))))))
       pss_nil)
       (pss_one (ps_ret (pe_lst (pa_cons pe_str (pa_cons (pv 6) pa_nil))))))))))), ?_⟩
    try dsimp only [cxOf, Cx.nox, Cx.wish]
    obtain ⟨l, ws, m, kind, hd, more, acc, G, rfl, hl, sG, nG, hw, lm, hok, k0, k5, q⟩ := h
    have lw : ws.length = 16 := by rw [DpAll.length hw, List.length_map, lm]
    have same : ∀ (H' : Hp) (t : Addr) (rs : Rs), opF m kind hd more acc = (rs, m) → Same H H' → Dp K H' (.ref t) (resD rs) → Q (.ref t) H' := fun H' t rs e s1 hd => by
      rw [e] at q
      exact q H' ws t G (Act.of (one_same hl) s1) (Same.refl _) (sG.trans s1) (fun b h => .inl h) hw hd
    have put : ∀ (H1 H2 H' : Hp) (t : Addr) (rs : Rs) (i : Nat) (v : V) (x : Option OF), opF m kind hd more acc = (rs, m.set i x) → Same H H1 → upd H1 l (.lst (ws.set i v)) = H2 → Same H2 H' → Dp K (fr H H1) v (rowD x) → Dp K H' (.ref t) (resD rs) → Q (.ref t) H' := fun H1 H2 H' t rs i v x e s1 e2 s2 hv hd => by
      rw [e] at q
      have hl1 := s1 _ _ hl
      have A1 := (Act.of (one_same hl) s1).trans (Act.lst (o' := .lst (ws.set i v)) hl1) (one_same hl)
      rw [e2] at A1
      have sf : Same (fr H H1) H2 := fun b o eb => by
        rw [← e2, upd_ne (fun z => by have := fr_new b (by rw [eb]; intro z; cases z); rw [z, hl] at this; cases this)]
        exact fr_same _ _ eb
      refine q H' (ws.set i v) t (uni G (fr H H1)) (A1.after s2) uni_left ((uni_same (A1.keep sG (one_hid sG nG)) sf).trans s2) (fun b h => ?_) ?_ hd
      · unfold uni at h
        cases eg : G b with
        | some o => exact .inl (by intro z; cases z)
        | none => rw [eg] at h; exact .inr (fr_new b h)
      · rw [List.map_set]
        exact DpAll.set i (DpAll.mono uni_left _ _ hw) (Dp.mono (uni_right (new_dj fr_new sG).symm) _ _ hv)
    have hw' := DpAll.mono sG _ _ hw
    have dm : Dp K H (.ref l) (.list (m.map rowD)) := .lst (.inl (.inl hl)) hw'
    have hb : (!(m.map rowD).any fun z => PyData.eqv z .none) = (firstN m).isNone := by rw [any_rows, any_first]; cases firstN m <;> rfl
    by_cases kz : kind = 0
    · subst kz
      walk_at "go"
      refine ⟨.none, m.map rowD, .non, dm, by decide, (rows_fl hok).shaped, ?_⟩
      rw [hb]
      cases e : firstN m with
      | none =>
        walk_at "go"
        rename_i t nt H1 s1 ht
        exact same H1 t (.fault "TooManyOpen") (by unfold opF; rw [if_pos rfl, e]) s1 (.lst (.inl (.inl ht)) (.cons (.str _) (.cons (.str _) .nil)))
      | some i =>
        obtain ⟨e1, e2⟩ := first_some e
        have hi : i < m.length := by
          rcases Nat.lt_or_ge i m.length with z | z
          · exact z
          · rw [List.getElem?_eq_none z] at e1; cases e1
        walk_at "go"
        refine ⟨l, .non, .none, m.map rowD, i, .none, rfl, rfl, dm, .non, (rows_fl hok).shaped, by decide, by rw [List.getElem?_map, e1]; rfl, by decide, fun j z hj hz => ?_, ?_⟩
        · rw [List.getElem?_map] at hz
          obtain ⟨x, hx, rfl⟩ := Option.map_eq_some_iff.mp hz
          have := e2 j x hj hx
          rw [eqv_non]
          cases x with
          | none => exact absurd rfl this
          | some r => rfl
        walk_at "go"
        rename_i p np H1 s1 hp
        refine r_setl (s1 _ _ hl) (ixN_ok (by omega) (by omega)) ?_
        generalize hH : upd H1 l _ = H2
        walk_at "go"
        rename_i t nt H3 s3 ht
        rw [show ((i : Nat) : Int).toNat = i by omega] at hH
        exact put H1 H2 H3 t (.handle i) i (.ref p) (some ⟨more, acc, 0⟩) (by unfold opF; rw [if_pos rfl, e]) s1 hH s3 (.lst (.inl (.inl (fr_at np hp))) (.cons (.int _) (.cons (.str _) (.cons (.int _) .nil)))) (.lst (.inl (.inl ht)) (.cons (.str _) (.cons (.int _) .nil)))
    have opE : getM m hd = none → opF m kind hd more acc = (.fault "BadHandle", m) := fun e => by unfold opF; rw [if_neg kz, e]
    walk_at "go"
    by_cases hr : 0 ≤ hd ∧ hd ≤ 15
    case neg =>
      have e : getM m hd = none := by unfold getM; rw [if_neg (by omega)]
      refine r_cut (fun _ _ => False) ?_ (fun _ _ z => z.elim)
      by_cases h0 : 0 ≤ hd
      · walk_at "go"
        rename_i t nt H1 s1 ht
        exact same H1 t _ (opE e) s1 (.lst (.inl (.inl ht)) (.cons (.str _) (.cons (.str _) .nil)))
      · walk_at "go"
        rename_i t nt H1 s1 ht
        exact same H1 t _ (opE e) s1 (.lst (.inl (.inl ht)) (.cons (.str _) (.cons (.str _) .nil)))
    obtain ⟨h0, h1⟩ := hr
    have hil : hd.toNat < ws.length := by omega
    have hat : atI ws hd = some ws[hd.toNat] := by
      obtain ⟨k, rfl⟩ := Int.eq_ofNat_of_zero_le h0
      exact atI_nat (List.getElem?_eq_getElem hil)
    obtain ⟨x, hx, hdx⟩ := rows_at hw' (List.getElem?_eq_getElem hil)
    generalize ws[hd.toNat] = v at hat hdx
    have eg : getM m hd = x := by unfold getM; rw [if_pos ⟨h0, by omega⟩, List.getD_eq_getElem?_getD, hx]; rfl
    cases x with
    | none =>
      cases dp_non hdx
      refine r_cut (fun _ _ => False) ?_ (fun _ _ z => z.elim)
      walk_at "go"
      refine r_ixl (.inl (.inl hl)) hat ?_
      walk_at "go"
      rename_i t nt H1 s1 ht
      exact same H1 t _ (opE eg) s1 (.lst (.inl (.inl ht)) (.cons (.str _) (.cons (.str _) .nil)))
    | some r =>
      obtain ⟨a, rfl, ha⟩ := dp_row hdx
      refine r_cutS ?_ ?_
      · walk_at "go"
        refine r_ixl (.inl (.inl hl)) hat ?_
        walk_at "go"
        exact ⟨rfl, rfl⟩
      walk_at "go"
      refine r_ixl (.inl (.inl hl)) hat ?_
      walk_at "go"
      rename_i rw_ nrw H1 s1 hrw
      have hl1 := s1 _ _ hl
      have hat1 : SqL K H1 l ws := .inl (.inl hl1)
      have opS : opF m kind hd more acc = if (kind = 3 ∧ r.acc = "write") ∨ (3 < kind ∧ r.acc = "read") then (.fault "BadHandle", m) else if kind = 1 then (.file r, m.set hd.toNat none) else if kind = 5 then (.done, m.set hd.toNat (some { r with res := more })) else (.file r, m) := by
        unfold opF; rw [if_neg kz, eg]
      by_cases c : (kind = 3 ∧ r.acc = "write") ∨ (3 < kind ∧ r.acc = "read")
      · rw [if_pos c] at opS
        have fin : ∀ t H2, Same H1 H2 → H2 t = some (.lst [.str "fault", .str "BadHandle"]) → Q (.ref t) H2 := fun t H2 s2 ht => same H2 t _ opS (s1.trans s2) (.lst (.inl (.inl ht)) (.cons (.str _) (.cons (.str _) .nil)))
        refine r_cut (fun _ _ => False) ?_ (fun _ _ z => z.elim)
        rcases c with ⟨c1, c2⟩ | ⟨c1, c2⟩
        · walk_at "go"
          rename_i t nt H2 s2 ht
          exact fin t H2 s2 ht
        · walk_at "go"
          rename_i t nt H2 s2 ht
          exact fin t H2 s2 ht
      · rw [if_neg c] at opS
        refine r_cutS ?_ ?_
        · by_cases k3 : kind = 3
          · have c1 : ¬ r.acc = "write" := fun z => c (.inl ⟨k3, z⟩)
            walk_at "go"
            exact ⟨rfl, rfl⟩
          · by_cases k4 : 3 < kind
            · have c1 : ¬ r.acc = "read" := fun z => c (.inr ⟨k4, z⟩)
              walk_at "go"
              exact ⟨rfl, rfl⟩
            · walk_at "go"
              exact ⟨rfl, rfl⟩
        by_cases k1 : kind = 1
        · subst k1
          rw [if_pos rfl] at opS
          walk_at "go"
          refine r_cut (fun σ' H' => σ' = [some (.ref l), some (.int 1), some (.int hd), some (.int more), some (.str acc), none, some (.ref rw_)] ∧ upd H1 l (.lst (ws.set hd.toNat .non)) = H') ?_ ?_
          · walk_at "go"
            refine r_setl hl1 (ixN_ok (by omega) (by omega)) ?_
            exact ⟨rfl, rfl⟩
          rintro _ H2 ⟨rfl, e2⟩
          have hne : rw_ ≠ l := fun z => by rw [z, hl] at nrw; cases nrw
          have hrw2 : H2 rw_ = some (.lst [.int r.num, .str r.acc, .int r.res]) := by rw [← e2, upd_ne hne]; exact hrw
          walk_at "go"
          rename_i t nt H3 s3 ht
          exact put H1 H2 H3 t _ _ _ none opS s1 e2 s3 .non (.lst (.inl (.inl ht)) (.cons (.str _) (.cons (.lst (.inl (.inl (s3 _ _ hrw2))) (.cons (.int _) (.cons (.str _) (.cons (.int _) .nil)))) .nil)))
        · rw [if_neg k1] at opS
          refine r_cutS ?_ ?_
          · walk_at "go"
            exact ⟨rfl, rfl⟩
          by_cases k5' : kind = 5
          · subst k5'
            rw [if_pos rfl] at opS
            walk_at "go"
            rename_i p np H2 s2 hp
            refine r_setl (s2 _ _ hl1) (ixN_ok (by omega) (by omega)) ?_
            generalize hH : upd H2 l _ = H3
            walk_at "go"
            rename_i t nt H4 s4 ht
            exact put H2 H3 H4 t _ _ _ (some { r with res := more }) opS (s1.trans s2) hH s4 (.lst (.inl (.inl (fr_at (s1.free np) hp))) (.cons (.int _) (.cons (.str _) (.cons (.int _) .nil)))) (.lst (.inl (.inl ht)) (.cons (.str _) (.cons (.int _) .nil)))
          · rw [if_neg k5'] at opS
            walk_at "go"
            rename_i t nt H2 s2 ht
            exact same H2 t _ opS (s1.trans s2) (.lst (.inl (.inl ht)) (.cons (.str _) (.cons (.lst (.inl (.inl (s2 _ _ hrw))) (.cons (.int _) (.cons (.str _) (.cons (.int _) .nil)))) .nil)))
def sp_law_told (K : PySem.W.Frag) (CH CO : Addr) : Sp := fun args_ H Q _ => ∃ (h : Addr) (f : Hp) (m : List (Option OF)) (kind hd more : Int) (acc : Str), args_ = [.ref h, .int kind, .int hd, .int more, .str acc] ∧ HdP CH CO f h m ∧ Same f H ∧ 0 ≤ kind ∧ kind ≤ 5 ∧ ∀ H' f' t N, Act f H f' H' → HdP CH CO f' h (opF m kind hd more acc).2 → Same N H' → (∀ b, N b ≠ none → H b = none) → Dj N f' → Dp K N (.ref t) (resD (opF m kind hd more acc).1) → Q (.ref t) H'
theorem i_law_told {K : PySem.W.Frag} {CH CO : Addr} {args_ : List V} {H : Hp} {Q : V → Hp → Prop} {E : XK} {h : Addr} {f : Hp} {m : List (Option OF)} {kind hd more : Int} {acc : Str} (ev : args_ = [.ref h, .int kind, .int hd, .int more, .str acc]) (R : HdP CH CO f h m) (s : Same f H) (k0 : 0 ≤ kind) (k5 : kind ≤ 5) (q : ∀ H' f' t N, Act f H f' H' → HdP CH CO f' h (opF m kind hd more acc).2 → Same N H' → (∀ b, N b ≠ none → H b = none) → Dj N f' → Dp K N (.ref t) (resD (opF m kind hd more acc).1) → Q (.ref t) H') : sp_law_told K CH CO args_ H Q E := ⟨h, f, m, kind, hd, more, acc, ev, R, s, k0, k5, q⟩
local macro_rules | `(tactic| walk_at "ca1") => `(tactic| with_reducible (refine' Sg.i_law_told ?ev ?R ?s ?k0 ?k5 ?_; (case ev => (with_unfolding_all rfl)); (case R => (with_unfolding_all walk_at "pr")); (case s => (with_unfolding_all walk_at "pr")); (case k0 => (with_unfolding_all walk_at "pr")); (case k5 => (with_unfolding_all walk_at "pr"))))

theorem ok_law_told (T : Txt K mg) : FnOk P w K mg base CX0 4 T.a_law_told T.fd_law_told ["handles", "kind", "handle", "more", "access"] (sp_law_told K T.A_Handles T.A_OpenFile) := by
  refine T.F_law_told.ok sc_law_told (fun vs H Q E h => ?_) (fun cdv A outer s H vs Q E hr h => ?_)
  · obtain ⟨h, f, m, kind, hd, more, acc, rfl, _⟩ := h
    rfl
  · refine ⟨_, (pss_one (ps_tryA (i := 5) rfl rfl sc_law_told.nd rfl rfl ⟨rfl, by decide, .inl T.m_SegmentError⟩ takes0 (fun W pn xe tk _ => (pss_cons (ps_if (pt_cmpR op_eq (pv 1) pe_int (nomark _))
       (pss_one (ps_ret (pe_lst (pa_cons pe_str (pa_cons (pe_methSD (pv 0) T.cl_Handles T.me_Handles_acquire (ok_Handles_acquire T) (hr.mono (by decide)) T.b_Handles_acquire .nil (fun σ => passAt tk σ) (pa_cons (pv 3) (pa_cons (pv 4) pa_nil))) pa_nil)))))
       pss_nil)
       (pss_cons (ps_if (pt_cmpR op_eq (pv 1) pe_int (nomark _))
       (pss_one (ps_ret (pe_lst (pa_cons pe_str (pa_cons (pe_call (ok_law_fields T) (hr.mono (by decide)) rfl T.m_law_fields T.F_law_fields.kp T.b_law_fields .nil pass0 (pa_cons (pe_methSD (pv 0) T.cl_Handles T.me_Handles_free (ok_Handles_free T) (hr.mono (by decide)) T.b_Handles_free .nil (fun σ => passAt tk σ) (pa_cons (pv 2) pa_nil)) pa_nil)) pa_nil)))))
       pss_nil)
       (pss_cons (ps_if (pt_cmpR op_eq (pv 1) pe_int (nomark _))
       (pss_one (ps_ret (pe_lst (pa_cons pe_str (pa_cons (pe_call (ok_law_fields T) (hr.mono (by decide)) rfl T.m_law_fields T.F_law_fields.kp T.b_law_fields .nil pass0 (pa_cons (pe_methSD (pv 0) T.cl_Handles T.me_Handles_get (ok_Handles_get T) (hr.mono (by decide)) T.b_Handles_get .nil (fun σ => passAt tk σ) (pa_cons (pv 2) pa_nil)) pa_nil)) pa_nil)))))
       pss_nil)
       (pss_cons (ps_if (pt_cmpR op_eq (pv 1) pe_int (nomark _))
       (pss_one (ps_ret (pe_lst (pa_cons pe_str (pa_cons (pe_call (ok_law_fields T) (hr.mono (by decide)) rfl T.m_law_fields T.F_law_fields.kp T.b_law_fields .nil pass0 (pa_cons (pe_methSD (pv 0) T.cl_Handles T.me_Handles_reading (ok_Handles_reading T) (hr.mono (by decide)) T.b_Handles_reading .nil (fun σ => passAt tk σ) (pa_cons (pv 2) pa_nil)) pa_nil)) pa_nil)))))
       pss_nil)
       (pss_cons (ps_if (pt_cmpR op_eq (pv 1) pe_int (nomark _))
       (pss_one (ps_ret (pe_lst (pa_cons pe_str (pa_cons (pe_call (ok_law_fields T) (hr.mono (by decide)) rfl T.m_law_fields T.F_law_fields.kp T.b_law_fields .nil pass0 (pa_cons (pe_methSD (pv 0) T.cl_Handles T.me_Handles_writing (ok_Handles_writing T) (hr.mono (by decide)) T.b_Handles_writing .nil (fun σ => passAt tk σ) (pa_cons (pv 2) pa_nil)) pa_nil)) pa_nil)))))
       pss_nil)
       (pss_cons (ps_expr (pe_methSD (pv 0) T.cl_Handles T.me_Handles_reserve (ok_Handles_reserve T) (hr.mono (by decide)) T.b_Handles_reserve .nil (fun σ => passAt tk σ) (pa_cons (pv 2) (pa_cons (pv 3) pa_nil))))
       (pss_one (ps_ret (pe_lst (pa_cons pe_str (pa_cons pe_int pa_nil))))))))))))
       (fun a oe cls d pn hz hf => (pss_cons (ps_set (i := 6) sc_law_told.nd rfl (Or.inl rfl) pe_str)
       (C8.pss_cut (ps_if (pt_val (pe_callB (call_isX hz hf) (by rfl) T.n_isinstance (by decide +kernel) (pa_cons (pv 5) (pa_cons (pe_glob rfl T.m_BadHandle (show RelV (V.ref T.A_BadHandle) (Value.ref T.A_BadHandle) from rfl)) pa_nil))))
       (pss_one (ps_set (i := 6) sc_law_told.nd rfl (Or.inl rfl) (pe_op op_add_str (pv 6) pe_str)))
       pss_nil)
       (C8.pss_cut (ps_if (pt_val (pe_callB (call_isX hz hf) (by rfl) T.n_isinstance (by decide +kernel) (pa_cons (pv 5) (pa_cons (pe_glob rfl T.m_TooManyOpen (show RelV (V.ref T.A_TooManyOpen) (Value.ref T.A_TooManyOpen) from rfl)) pa_nil))))
       (pss_one (ps_set (i := 6) sc_law_told.nd rfl (Or.inl rfl) (pe_op op_add_str (pv 6) pe_str)))
       pss_nil)
       (pss_one (ps_ret (pe_lst (pa_cons pe_str (pa_cons (pv 6) pa_nil))))))))))), ?_⟩
    try dsimp only [cxOf, Cx.nox, Cx.wish]
    obtain ⟨h, f, m, kind, hd, more, acc, rfl, R, s, k0, k5, q⟩ := h
    have cl_Handles := T.cl_Handles
    obtain ⟨dx, fs, l, us, R0⟩ := id R
    have hi := s _ _ R0.ins
    have n1 := R0.flds.n2
    have n2 := R0.flds.n3
    have n3 := R0.flds.n4
    have n4 := R0.flds.n5
    have n5 := R0.flds.n6
    have n6 := R0.flds.n7
    -- the ends
    have fin : ∀ (rs : Rs) (m' : List (Option OF)) (H1 H' f' : Hp) (t : Addr) (v : Str) (x : V) (d : PyData), opF m kind hd more acc = (rs, m') → resD rs = .list [.str v, d] → Act f H f' H1 → HdP T.A_Handles T.A_OpenFile f' h m' → Same H1 H' → H1 t = none → H' t = some (.lst [.str v, x]) →
        (∃ N0 : Hp, Same N0 H' ∧ (∀ b, N0 b ≠ none → H1 b = none) ∧ N0 t = none ∧ Dp K N0 x d) → Q (.ref t) H' := fun rs m' H1 H' f' t v x d e er A R' s1 nt ht ⟨N0, z1, z2, z3, z4⟩ => by
      rw [e] at q
      have d1 : Dj N0 (one t (.lst [.str v, x])) := dj_one z3
      refine q H' f' t (uni N0 (one t (.lst [.str v, x]))) (A.after s1) R' (uni_same z1 (one_same ht)) (fun b hb => A.liv b ?_) (fun b => ?_) ?_
      · unfold uni at hb
        cases en : N0 b with
        | some o => exact z2 b (by rw [en]; intro z; cases z)
        | none =>
          rw [en] at hb
          unfold one at hb
          by_cases c : b = t
          · rw [c]; exact nt
          · rw [if_neg c] at hb; exact absurd rfl hb
      · by_cases hb : H1 b = none
        · exact .inr (Same.out A.inn hb)
        · refine .inl ?_
          unfold uni one
          rw [if_neg (fun c => hb (by rw [c]; exact nt))]
          cases en : N0 b with
          | none => rfl
          | some o => exact absurd (z2 b (by rw [en]; intro z; cases z)) hb
      · rw [er]
        exact .lst (.inl (.inl (uni_right d1 _ _ one_at))) (.cons (.str _) (.cons (Dp.mono uni_left _ _ z4) .nil))
    have finS : ∀ (rs : Rs) (m' : List (Option OF)) (H1 H' f' : Hp) (t : Addr) (v : Str) (x : V) (d : PyData), opF m kind hd more acc = (rs, m') → resD rs = .list [.str v, d] → Act f H f' H1 → HdP T.A_Handles T.A_OpenFile f' h m' → Same H1 H' → H1 t = none → H' t = some (.lst [.str v, x]) → Dp K emp x d → Q (.ref t) H' := fun rs m' H1 H' f' t v x d e er A R' s1 nt ht hd =>
      fin rs m' H1 H' f' t v x d e er A R' s1 nt ht ⟨emp, (fun _ _ z => by cases z), (fun _ z => absurd rfl z), rfl, hd⟩
    have finF : ∀ (r : OF) (m' : List (Option OF)) (H1 H2 H3 f' : Hp) (p t : Addr), opF m kind hd more acc = (.file r, m') → Act f H f' H1 → HdP T.A_Handles T.A_OpenFile f' h m' → Same H1 H2 → H1 p = none → H2 p = some (.lst [.int r.num, .str r.acc, .int r.res]) → H2 t = none → Same H2 H3 → H3 t = some (.lst [.str "file", .ref p]) → Q (.ref t) H3 := fun r m' H1 H2 H3 f' p t e A R' s1 np hp nt s2 ht => by
      have hpt : t ≠ p := fun z => by rw [z, hp] at nt; cases nt
      refine fin (.file r) m' H1 H3 f' t "file" (.ref p) _ e rfl A R' (s1.trans s2) (s1.free nt) ht ⟨one p (.lst [.int r.num, .str r.acc, .int r.res]), one_same (s2 _ _ hp), fun b hb => ?_, by unfold one; rw [if_neg hpt], .lst (.inl (.inl one_at)) (.cons (.int _) (.cons (.str _) (.cons (.int _) .nil)))⟩
      unfold one at hb
      by_cases c : b = p
      · rw [c]; exact np
      · rw [if_neg c] at hb; exact absurd rfl hb
    have A0 : Act f H f H := Act.refl s
    have bad : getM m hd = none → kind ≠ 0 → opF m kind hd more acc = (.fault "BadHandle", m) := fun e k => by unfold opF; rw [if_neg k, e]
    have opS : ∀ r, getM m hd = some r → kind ≠ 0 → opF m kind hd more acc = if (kind = 3 ∧ r.acc = "write") ∨ (3 < kind ∧ r.acc = "read") then (.fault "BadHandle", m) else if kind = 1 then (.file r, m.set hd.toNat none) else if kind = 5 then (.done, m.set hd.toNat (some { r with res := more })) else (.file r, m) := fun r e k => by
      unfold opF; rw [if_neg k, e]
    have badX : (∀ r, getM m hd = some r → (kind = 3 ∧ r.acc = "write") ∨ (3 < kind ∧ r.acc = "read")) → kind ≠ 0 → opF m kind hd more acc = (.fault "BadHandle", m) := fun e k => by
      cases eg : getM m hd with
      | none => exact bad eg k
      | some r => rw [opS r eg k, if_pos (e r eg)]
    have kinds : kind = 0 ∨ kind = 1 ∨ kind = 2 ∨ kind = 3 ∨ kind = 4 ∨ kind = 5 := by omega
    rcases kinds with hk | hk | hk | hk | hk | hk
    · walk_at "go"
      case q1 =>
        intro i H1 f' e A R'
        walk_at "go"
        rename_i t nt H2 s2 ht
        exact finS (.handle i) _ H1 H2 f' t "handle" _ _ (by unfold opF; rw [if_pos hk, e]) rfl A R' s2 nt ht (.int _)
      case q2 =>
        intro e
        refine wAs_own T.ex_TooManyOpen_SegmentError fun a na => ?_
        walk_at "go"
        refine r_cut (fun σ' H' => σ' = [some (.ref h), some (.int kind), some (.int hd), some (.int more), some (.str acc), some (.ref a), some (.str "")] ∧ H = H') ?_ ?_
        · walk_at "go"
          refine r_isXc T.e_TooManyOpen T.kit_TooManyOpen_BadHandle ?_
          walk_at "go"
          exact ⟨rfl, rfl⟩
        rintro _ _ ⟨rfl, rfl⟩
        walk_at "go"
        refine r_cut (fun σ' H' => σ' = [some (.ref h), some (.int kind), some (.int hd), some (.int more), some (.str acc), some (.ref a), some (.str "TooManyOpen")] ∧ H = H') ?_ ?_
        · walk_at "go"
          refine r_isXc T.e_TooManyOpen T.kit_TooManyOpen_TooManyOpen ?_
          walk_at "go"
          refine ⟨_, _, rfl, rfl, by rw [sz]; decide, ?_⟩
          walk_at "go"
          exact ⟨rfl, rfl⟩
        rintro _ _ ⟨rfl, rfl⟩
        walk_at "go"
        rename_i t nt H2 s2 ht
        exact finS (.fault "TooManyOpen") m H H2 f t "fault" _ _ (by unfold opF; rw [if_pos hk, e]) rfl A0 R s2 nt ht (.str _)
    · walk_at "go"
      case q1 =>
        intro o r H1 f' e hO A R'
        have sf := A.inn
        walk_at "go"
        intro H2 p s2 np hp
        walk_at "go"
        rename_i t nt H3 s3 ht
        exact finF r _ H1 H2 H3 f' p t (by rw [opS r e (by omega), if_neg (by omega), if_pos hk]) A R' s2 np hp nt s3 ht
      case q2 =>
        intro e
        refine wAs_own T.ex_BadHandle_SegmentError fun a na => ?_
        walk_at "go"
        refine r_cut (fun σ' H' => σ' = [some (.ref h), some (.int kind), some (.int hd), some (.int more), some (.str acc), some (.ref a), some (.str "BadHandle")] ∧ H = H') ?_ ?_
        · walk_at "go"
          refine r_isXc T.e_BadHandle T.kit_BadHandle_BadHandle ?_
          walk_at "go"
          refine ⟨_, _, rfl, rfl, by rw [sz]; decide, ?_⟩
          walk_at "go"
          exact ⟨rfl, rfl⟩
        rintro _ _ ⟨rfl, rfl⟩
        walk_at "go"
        refine r_cut (fun σ' H' => σ' = [some (.ref h), some (.int kind), some (.int hd), some (.int more), some (.str acc), some (.ref a), some (.str "BadHandle")] ∧ H = H') ?_ ?_
        · walk_at "go"
          refine r_isXc T.e_BadHandle T.kit_BadHandle_TooManyOpen ?_
          walk_at "go"
          exact ⟨rfl, rfl⟩
        rintro _ _ ⟨rfl, rfl⟩
        walk_at "go"
        rename_i t nt H2 s2 ht
        exact finS (.fault "BadHandle") m H H2 f t "fault" _ _ (bad e (by omega)) rfl A0 R s2 nt ht (.str _)
    · walk_at "go"
      case q1 =>
        intro o r e hu hO h0 h1
        walk_at "go"
        intro H2 p s2 np hp
        walk_at "go"
        rename_i t nt H3 s3 ht
        exact finF r _ H H2 H3 f p t (by rw [opS r e (by omega), if_neg (by omega), if_neg (by omega), if_neg (by omega)]) A0 R s2 np hp nt s3 ht
      case q2 =>
        intro e
        refine wAs_own T.ex_BadHandle_SegmentError fun a na => ?_
        walk_at "go"
        refine r_cut (fun σ' H' => σ' = [some (.ref h), some (.int kind), some (.int hd), some (.int more), some (.str acc), some (.ref a), some (.str "BadHandle")] ∧ H = H') ?_ ?_
        · walk_at "go"
          refine r_isXc T.e_BadHandle T.kit_BadHandle_BadHandle ?_
          walk_at "go"
          refine ⟨_, _, rfl, rfl, by rw [sz]; decide, ?_⟩
          walk_at "go"
          exact ⟨rfl, rfl⟩
        rintro _ _ ⟨rfl, rfl⟩
        walk_at "go"
        refine r_cut (fun σ' H' => σ' = [some (.ref h), some (.int kind), some (.int hd), some (.int more), some (.str acc), some (.ref a), some (.str "BadHandle")] ∧ H = H') ?_ ?_
        · walk_at "go"
          refine r_isXc T.e_BadHandle T.kit_BadHandle_TooManyOpen ?_
          walk_at "go"
          exact ⟨rfl, rfl⟩
        rintro _ _ ⟨rfl, rfl⟩
        walk_at "go"
        rename_i t nt H2 s2 ht
        exact finS (.fault "BadHandle") m H H2 f t "fault" _ _ (bad e (by omega)) rfl A0 R s2 nt ht (.str _)
    · walk_at "go"
      case q1 =>
        intro o r e ha hO
        walk_at "go"
        intro H2 p s2 np hp
        walk_at "go"
        rename_i t nt H3 s3 ht
        exact finF r _ H H2 H3 f p t (by
          rw [opS r e (by omega), if_neg (fun z => ?_), if_neg (by omega), if_neg (by omega)]
          rcases z with ⟨z1, z2⟩ | ⟨z1, z2⟩
          · first | omega | exact absurd z2 ha
          · first | omega | exact absurd z2 ha) A0 R s2 np hp nt s3 ht
      case q2 =>
        intro e
        refine wAs_own T.ex_BadHandle_SegmentError fun a na => ?_
        walk_at "go"
        refine r_cut (fun σ' H' => σ' = [some (.ref h), some (.int kind), some (.int hd), some (.int more), some (.str acc), some (.ref a), some (.str "BadHandle")] ∧ H = H') ?_ ?_
        · walk_at "go"
          refine r_isXc T.e_BadHandle T.kit_BadHandle_BadHandle ?_
          walk_at "go"
          refine ⟨_, _, rfl, rfl, by rw [sz]; decide, ?_⟩
          walk_at "go"
          exact ⟨rfl, rfl⟩
        rintro _ _ ⟨rfl, rfl⟩
        walk_at "go"
        refine r_cut (fun σ' H' => σ' = [some (.ref h), some (.int kind), some (.int hd), some (.int more), some (.str acc), some (.ref a), some (.str "BadHandle")] ∧ H = H') ?_ ?_
        · walk_at "go"
          refine r_isXc T.e_BadHandle T.kit_BadHandle_TooManyOpen ?_
          walk_at "go"
          exact ⟨rfl, rfl⟩
        rintro _ _ ⟨rfl, rfl⟩
        walk_at "go"
        rename_i t nt H2 s2 ht
        exact finS (.fault "BadHandle") m H H2 f t "fault" _ _ (badX (fun r er => .inl ⟨hk, e r er⟩) (by omega)) rfl A0 R s2 nt ht (.str _)
    · walk_at "go"
      case q1 =>
        intro o r e hu ha hO
        walk_at "go"
        intro H2 p s2 np hp
        walk_at "go"
        rename_i t nt H3 s3 ht
        exact finF r _ H H2 H3 f p t (by
          rw [opS r e (by omega), if_neg (fun z => ?_), if_neg (by omega), if_neg (by omega)]
          rcases z with ⟨z1, z2⟩ | ⟨z1, z2⟩
          · first | omega | exact absurd z2 ha
          · first | omega | exact absurd z2 ha) A0 R s2 np hp nt s3 ht
      case q2 =>
        intro e
        refine wAs_own T.ex_BadHandle_SegmentError fun a na => ?_
        walk_at "go"
        refine r_cut (fun σ' H' => σ' = [some (.ref h), some (.int kind), some (.int hd), some (.int more), some (.str acc), some (.ref a), some (.str "BadHandle")] ∧ H = H') ?_ ?_
        · walk_at "go"
          refine r_isXc T.e_BadHandle T.kit_BadHandle_BadHandle ?_
          walk_at "go"
          refine ⟨_, _, rfl, rfl, by rw [sz]; decide, ?_⟩
          walk_at "go"
          exact ⟨rfl, rfl⟩
        rintro _ _ ⟨rfl, rfl⟩
        walk_at "go"
        refine r_cut (fun σ' H' => σ' = [some (.ref h), some (.int kind), some (.int hd), some (.int more), some (.str acc), some (.ref a), some (.str "BadHandle")] ∧ H = H') ?_ ?_
        · walk_at "go"
          refine r_isXc T.e_BadHandle T.kit_BadHandle_TooManyOpen ?_
          walk_at "go"
          exact ⟨rfl, rfl⟩
        rintro _ _ ⟨rfl, rfl⟩
        walk_at "go"
        rename_i t nt H2 s2 ht
        exact finS (.fault "BadHandle") m H H2 f t "fault" _ _ (badX (fun r er => .inr ⟨by omega, e r er⟩) (by omega)) rfl A0 R s2 nt ht (.str _)
    · walk_at "go"
      case q1 =>
        intro r H1 f' e ha A R'
        walk_at "go"
        rename_i t nt H2 s2 ht
        exact finS .done _ H1 H2 f' t "done" _ _ (by
          rw [opS r e (by omega), if_neg (fun z => ?_), if_neg (by omega), if_pos hk]
          rcases z with ⟨z1, z2⟩ | ⟨z1, z2⟩
          · omega
          · exact absurd z2 ha) rfl A R' s2 nt ht (.int _)
      case q2 =>
        intro e
        refine wAs_own T.ex_BadHandle_SegmentError fun a na => ?_
        walk_at "go"
        refine r_cut (fun σ' H' => σ' = [some (.ref h), some (.int kind), some (.int hd), some (.int more), some (.str acc), some (.ref a), some (.str "BadHandle")] ∧ H = H') ?_ ?_
        · walk_at "go"
          refine r_isXc T.e_BadHandle T.kit_BadHandle_BadHandle ?_
          walk_at "go"
          refine ⟨_, _, rfl, rfl, by rw [sz]; decide, ?_⟩
          walk_at "go"
          exact ⟨rfl, rfl⟩
        rintro _ _ ⟨rfl, rfl⟩
        walk_at "go"
        refine r_cut (fun σ' H' => σ' = [some (.ref h), some (.int kind), some (.int hd), some (.int more), some (.str acc), some (.ref a), some (.str "BadHandle")] ∧ H = H') ?_ ?_
        · walk_at "go"
          refine r_isXc T.e_BadHandle T.kit_BadHandle_TooManyOpen ?_
          walk_at "go"
          exact ⟨rfl, rfl⟩
        rintro _ _ ⟨rfl, rfl⟩
        walk_at "go"
        rename_i t nt H2 s2 ht
        exact finS (.fault "BadHandle") m H H2 f t "fault" _ _ (badX (fun r er => .inr ⟨by omega, e r er⟩) (by omega)) rfl A0 R s2 nt ht (.str _)
def sp_law_agrees (K : PySem.W.Frag) (CH CO : Addr) : Sp := fun args_ H Q _ => ∃ (h l : Addr) (f : Hp) (m : List (Option OF)) (ws : List V), args_ = [.ref h, .ref l] ∧ HdP CH CO f h m ∧ Same f H ∧ H l = some (.lst ws) ∧ DpAll K H ws (m.map rowD) ∧ AccOk m ∧ ∀ H', Same H H' → Q (.bl true) H'
theorem i_law_agrees {K : PySem.W.Frag} {CH CO : Addr} {args_ : List V} {H : Hp} {Q : V → Hp → Prop} {E : XK} {h l : Addr} {f : Hp} {m : List (Option OF)} {ws : List V} (ev : args_ = [.ref h, .ref l]) (R : HdP CH CO f h m) (s : Same f H) (hl : H l = some (.lst ws)) (hw : DpAll K H ws (m.map rowD)) (hok : AccOk m) (q : ∀ H', Same H H' → Q (.bl true) H') : sp_law_agrees K CH CO args_ H Q E := ⟨h, l, f, m, ws, ev, R, s, hl, hw, hok, q⟩
local macro_rules | `(tactic| walk_at "ca1") => `(tactic| with_reducible (refine' Sg.i_law_agrees ?ev ?R ?s ?hl ?hw ?hok ?_; (case ev => (with_unfolding_all rfl)); (case R => (with_unfolding_all walk_at "pr")); (case s => (with_unfolding_all walk_at "pr")); (case hl => (with_unfolding_all walk_at "pr")); (case hw => (with_unfolding_all walk_at "pr")); (case hok => (with_unfolding_all walk_at "pr"))))

theorem ok_law_agrees (T : Txt K mg) : FnOk P w K mg base CX0 2 T.a_law_agrees T.fd_law_agrees ["handles", "rows"] (sp_law_agrees K T.A_Handles T.A_OpenFile) := by
  refine T.F_law_agrees.ok sc_law_agrees (fun vs H Q E h => ?_) (fun cdv A outer s H vs Q E hr h => ?_)
  · obtain ⟨h, l, f, m, ws, rfl, _⟩ := h
    rfl
  · refine ⟨_, (C8.pss_cut (ps_if (PW.pt (pw_or (pt_not (pt_val (pe_callB (call_isi) (by rfl) T.n_isinstance (by decide +kernel) (pa_cons (pe_fld (pv 0) rfl) (pa_cons (pe_bltn (v := .ty "list") (by rfl) T.n_list (by decide +kernel) rfl) pa_nil))))) (pw_or (pt_cmpR op_ne (pe_callB (c_len) (by rfl) T.n_len (by decide +kernel) (pa_cons (pe_fld (pv 0) rfl) pa_nil)) pe_int (nomark _)) (pw_or1 (pt_cmpR (op_neD hr.units) (pe_call (ok_law_rows T) (hr.mono (by decide)) rfl T.m_law_rows T.F_law_rows.kp T.b_law_rows .nil pass0 (pa_cons (pv 0) pa_nil)) (pv 1) (nomark _))))))
       (pss_one (ps_ret pe_bl))
       pss_nil)
       (pss_cons (ps_set (i := 2) sc_law_agrees.nd rfl (Or.inl rfl) (pe_meth0 (pv 0) T.cl_Handles T.me_Handles_opened_numbers (ok_Handles_opened_numbers T) (hr.mono (by decide)) T.b_Handles_opened_numbers .nil pass0))
       (C8.pss_cut (ps_if (PW.pt (pw_or (pt_not (pt_val (pe_callB (call_isi) (by rfl) T.n_isinstance (by decide +kernel) (pa_cons (pv 2) (pa_cons (pe_bltn (v := .ty "list") (by rfl) T.n_list (by decide +kernel) rfl) pa_nil))))) (pw_or1 (pt_cmpR (op_neD hr.units) (pv 2) (pe_call (ok_law_numbers T) (hr.mono (by decide)) rfl T.m_law_numbers T.F_law_numbers.kp T.b_law_numbers .nil pass0 (pa_cons (pv 1) pa_nil)) (nomark _)))))
       (pss_one (ps_ret pe_bl))
       pss_nil)
       (pss_cons (ps_expr (pe_bm PySem.F.plainAttrs_list PySem.F.slot_list_append PySem.F.type_list_append mt_append (pv 2) (pa_cons pe_int pa_nil)))
       (pss_one (ps_ret (pe_cmpR (op_eqD hr.units) (pe_meth0 (pv 0) T.cl_Handles T.me_Handles_opened_numbers (ok_Handles_opened_numbers T) (hr.mono (by decide)) T.b_Handles_opened_numbers .nil pass0) (pe_call (ok_law_numbers T) (hr.mono (by decide)) rfl T.m_law_numbers T.F_law_numbers.kp T.b_law_numbers .nil pass0 (pa_cons (pv 1) pa_nil)) (nomark _)))))))), ?_⟩
    try dsimp only [cxOf, Cx.nox, Cx.wish]
    obtain ⟨h, l, f, m, ws, rfl, R, s, hl, hw, hok, q⟩ := h
    have cl_Handles := T.cl_Handles
    have na_Handles_files := T.na_Handles_files
    obtain ⟨dx, fs, lf, us, R0⟩ := id R
    have hi := s _ _ R0.ins
    have hlf := s _ _ R0.lst
    have f1 := R0.flds.files
    have n8 := R0.flds.n8
    have hv := R0.lv
    have lm := R0.lm
    have dm : Dp K H (.ref l) (.list (m.map rowD)) := .lst (.inl (.inl hl)) hw
    refine r_cut (fun σ' H' => σ' = [some (.ref h), some (.ref l), none] ∧ Same H H') ?_ ?_
    · walk_at "go"
      intro H1 lr s1 hd
      walk_at "go"
      refine r_ned hd (Dp.mono s1 _ _ dm) (rows_fl hok).shaped (rows_fl hok).shaped ?_
      rw [(rows_fl hok).self]
      walk_at "go"
      exact ⟨rfl, s1⟩
    rintro _ H1 ⟨rfl, s1⟩
    have s1' := s.trans s1
    have hi1 := s1 _ _ hi
    have hl1 := s1 _ _ hl
    have hw1 := DpAll.mono s1 _ _ hw
    walk_at "go"
    intro H2 ln ns s2 nn hn hN
    have hl2 := s2 _ _ hl1
    have hw2 := DpAll.mono s2 _ _ hw1
    walk_at "go"
    refine r_cut (fun σ' H' => σ' = [some (.ref h), some (.ref l), some (.ref ln)] ∧ Same H2 H') ?_ ?_
    · walk_at "go"
      intro H3 p ns' s3 np hp hN'
      cases hN.uniq hN'
      walk_at "go"
      refine r_neI (by walk_at "hp") (by walk_at "hp") ?_
      walk_at "go"
      exact ⟨rfl, s3⟩
    rintro _ H3 ⟨rfl, s3⟩
    have hn3 := s3 _ _ hn
    have hlen := hN.2.2
    have few : (ns.map V.int).length ≤ 16 := by rw [List.length_map]; exact hlen
    walk_at "go"
    rename_i H4 hH h4
    have s4 : Same H1 H4 := Same.old (s2.trans s3) nn hH
    have s4' := s1'.trans s4
    have hi4 := s4 _ _ hi1
    have hl4 := s4 _ _ hl1
    have hw4 := DpAll.mono s4 _ _ hw1
    walk_at "go"
    intro H5 p ns5 s5 np hp hN5
    have hl5 := s5 _ _ hl4
    have hw5 := DpAll.mono s5 _ _ hw4
    walk_at "go"
    intro H6 p6 ns6 s6 np6 hp6 hN6
    cases hN5.uniq hN6
    walk_at "go"
    refine r_eqI (by walk_at "hp") (by walk_at "hp") ?_
    exact q _ (s1.trans (s4.trans (s5.trans s6)))
theorem getD_mem {α : Type} {l : List α} {d : α} {i : Nat} (h : i < l.length) : l.getD i d ∈ l := by
  rw [List.getD_eq_getElem?_getD, List.getElem?_eq_getElem h, Option.getD_some]
  exact List.getElem_mem h
theorem at_strs {ts : List Str} {k : Int} (h0 : 0 ≤ k) (h1 : k < ts.length) : atI (ts.map V.str) k = some (.str (ts.getD k.toNat Str.empty)) := by
  obtain ⟨n, rfl⟩ := Int.eq_ofNat_of_zero_le h0
  have hn : n < ts.length := by omega
  refine atI_nat ?_
  rw [List.getElem?_map, List.getElem?_eq_getElem hn, List.getD_eq_getElem?_getD, Int.toNat_natCast, List.getElem?_eq_getElem hn]
  rfl
def LeftOk (CH CO : Addr) (m : List (Option OF)) (H f' : Hp) (lr : Addr) (v : V) : Prop := v = .non ∨ ∃ hl fl, v = .ref hl ∧ HdP CH CO fl hl m ∧ Same fl H ∧ Dj fl f' ∧ fl lr = none
theorem i_row {K : PySem.W.Frag} {a : Addr} {ns : List Int} {k : Int} {args_ : List V} {H : Hp} {Q : V → Hp → Prop} {E : XK} (ev : args_ = [.ref a, .int k]) (hS : SqL K H a (ns.map V.int)) (h63 : ns.length ≤ 63) (k0 : 0 ≤ k) (k1 : k ≤ 1000) (q : ∀ z : Int, 0 ≤ z → Q (.int z) H) : sp_row K args_ H Q E := ⟨a, ns, k, ev, hS, h63, k0, k1, q⟩
local macro_rules | `(tactic| walk_at "ca1") => `(tactic| with_reducible (refine' Sg.i_row ?ev ?hS ?h63 ?k0 ?k1 ?_; (case ev => (with_unfolding_all rfl)); (case hS => (with_unfolding_all walk_at "pr")); (case h63 => assumption); (case k0 => omega); (case k1 => omega)))
theorem at4 {a b c d i : Int} (h0 : 0 ≤ i) (h1 : i < 4) : ∃ z : Int, atI [V.int a, V.int b, V.int c, V.int d] i = some (.int z) := by
  have : i = 0 ∨ i = 1 ∨ i = 2 ∨ i = 3 := by omega
  rcases this with rfl | rfl | rfl | rfl
  · exact ⟨a, rfl⟩
  · exact ⟨b, rfl⟩
  · exact ⟨c, rfl⟩
  · exact ⟨d, rfl⟩
theorem at2 {i : Int} (h0 : 0 ≤ i) (h1 : i < 2) : ∃ z : Int, 0 < z ∧ atI [V.int 6, V.int 65535] i = some (.int z) := by
  have : i = 0 ∨ i = 1 := by omega
  rcases this with rfl | rfl
  · exact ⟨6, by decide, rfl⟩
  · exact ⟨65535, by decide, rfl⟩
theorem at3 {i : Int} (h0 : 0 ≤ i) (h1 : i < 3) : ∃ x : Str, PyData.canLay0 (.str x) = true ∧ atI [V.str "read", V.str "write", V.str "both"] i = some (.str x) := by
  have : i = 0 ∨ i = 1 ∨ i = 2 := by omega
  rcases this with rfl | rfl | rfl
  · exact ⟨_, by decide +kernel, rfl⟩
  · exact ⟨_, by decide +kernel, rfl⟩
  · exact ⟨_, by decide +kernel, rfl⟩
theorem dp_nones {K : PySem.W.Frag} {H : Hp} : ∀ n : Nat, DpAll K H (List.replicate n .non) ((List.replicate n none).map rowD)
  | 0 => .nil
  | n + 1 => .cons .non (dp_nones n)
theorem told_shape {K : PySem.W.Frag} {H : Hp} {t : Addr} {rs : Rs} (h : Dp K H (.ref t) (resD rs)) : ∃ s x, SqL K H t [.str s, x] ∧ (s = "handle" → ∃ n, x = .int n) := by
  cases rs with
  | handle n =>
    cases h with
    | lst hs ha =>
      cases ha with
      | cons h1 ha =>
        cases h1
        cases ha with
        | cons h2 ha =>
          cases h2
          cases ha
          exact ⟨_, _, hs, fun _ => ⟨n, rfl⟩⟩
  | file r =>
    cases h with
    | lst hs ha =>
      cases ha with
      | cons h1 ha =>
        cases h1
        cases ha with
        | cons h2 ha =>
          cases ha
          exact ⟨_, _, hs, fun z => absurd z (by decide +kernel)⟩
  | done =>
    cases h with
    | lst hs ha =>
      cases ha with
      | cons h1 ha =>
        cases h1
        cases ha with
        | cons h2 ha =>
          cases ha
          exact ⟨_, _, hs, fun z => absurd z (by decide +kernel)⟩
  | fault s =>
    cases h with
    | lst hs ha =>
      cases ha with
      | cons h1 ha =>
        cases h1
        cases ha with
        | cons h2 ha =>
          cases ha
          exact ⟨_, _, hs, fun z => absurd z (by decide +kernel)⟩
def spLaw (K : PySem.W.Frag) : Sp := fun vs H Q _ => ∃ (a : Addr) (ns : List Int), vs = [.ref a] ∧ SqL K H a (ns.map V.int) ∧ ns.length ≤ 63 ∧ ∀ H', Q (.bl true) H'
theorem ok_law (T : Txt K mg) : FnOk P w K mg base CX0 5 T.a_law T.fd_law ["script"] (spLaw K) := by
  refine T.F_law.ok sc_law (fun vs H Q E h => ?_) (fun cdv A outer s H vs Q E hr h => ?_)
  · obtain ⟨a, ns, rfl, _⟩ := h
    rfl
  · refine ⟨_, (pss_cons (ps_set (i := 1) sc_law.nd rfl (Or.inl rfl) (pe_call (ok_law_row T) (hr.mono (by decide)) rfl T.m_law_row T.F_law_row.kp T.b_law_row .nil pass0 (pa_cons (pv 0) (pa_cons pe_int pa_nil))))
       (pss_cons (ps_set (i := 2) sc_law.nd rfl (Or.inl rfl) (pe_make0 T.M_Handles (ok_Handles___init T) (hr.mono (by decide)) rfl T.m_Handles T.b_Handles___init .nil pass0))
       (pss_cons (ps_set (i := 3) sc_law.nd rfl (Or.inl rfl) (pe_op op_rep (pe_lst (pa_cons pe_non pa_nil)) pe_int))
       (C8.pss_cut (ps_if (PW.pt (pw_or (pt_cmpR op_ne (pe_glob rfl T.c_HANDLES T.r_HANDLES) pe_int (nomark _)) (pw_or1 (pt_not (pt_val (pe_call (ok_law_agrees T) (hr.mono (by decide)) rfl T.m_law_agrees T.F_law_agrees.kp T.b_law_agrees .nil pass0 (pa_cons (pv 2) (pa_cons (pv 3) pa_nil))))))))
       (pss_one (ps_ret pe_bl))
       pss_nil)
       (pss_cons (ps_set (i := 4) sc_law.nd rfl (Or.inl rfl) (pe_op op_mod (pe_callTy c_int (by rfl) T.n_int (by decide +kernel) (pa_cons (pv 1) pa_nil)) pe_int))
       (pss_cons (ps_for PassesOwn.never rfl (pi_range1 rfl T.n_range (pa_cons pe_int pa_nil)) (pg_name (i := 5) sc_law.nd rfl (Or.inl rfl))
       (pss_cons (ps_set (i := 1) sc_law.nd rfl (Or.inl rfl) (pe_call (ok_law_row T) (hr.mono (by decide)) rfl T.m_law_row T.F_law_row.kp T.b_law_row .nil pass0 (pa_cons (pv 0) (pa_cons (pe_op op_add pe_int (pv 5)) pa_nil))))
       (pss_cons (ps_set (i := 6) sc_law.nd rfl (Or.inl rfl) (pe_op op_mod (pe_callTy c_int (by rfl) T.n_int (by decide +kernel) (pa_cons (pv 1) pa_nil)) pe_int))
       (pss_cons (ps_set (i := 7) sc_law.nd rfl (Or.inl rfl) (pe_op op_fdiv (pe_callTy c_int (by rfl) T.n_int (by decide +kernel) (pa_cons (pv 1) pa_nil)) pe_int))
       (C8.pss_cut (ps_if (pt_cmpR op_lt (pe_op op_mod (pv 7) pe_int) (pv 4) (nomark _))
       (pss_one (ps_set (i := 6) sc_law.nd rfl (Or.inl rfl) pe_int))
       pss_nil)
       (pss_cons (ps_set (i := 8) sc_law.nd rfl (Or.inl rfl) (pe_ix ix_list (pe_lst (pa_cons (pe_op op_mod (pe_op op_fdiv (pv 7) pe_int) pe_int) (pa_cons (pe_op op_mod (pe_op op_fdiv (pv 7) pe_int) pe_int) (pa_cons (pe_op op_sub (pe_op op_mod (pe_op op_fdiv (pv 7) pe_int) pe_int) pe_int) (pa_cons (pe_op op_fdiv (pv 7) pe_int) pa_nil))))) (pe_op op_mod (pe_op op_fdiv (pv 7) pe_int) pe_int) (fun _ _ => rfl)))
       (pss_cons (ps_set (i := 9) sc_law.nd rfl (Or.inl rfl) (pe_op op_add pe_int (pe_op op_mod (pe_op op_fdiv (pv 7) pe_int) (pe_ix ix_list (pe_lst (pa_cons pe_int (pa_cons pe_int pa_nil))) (pe_op op_mod (pe_op op_fdiv (pv 7) pe_int) pe_int) (fun _ _ => rfl)))))
       (pss_cons (ps_set (i := 10) sc_law.nd rfl (Or.inl rfl) (pe_ix ix_list (pe_lst (pa_cons pe_str (pa_cons pe_str (pa_cons pe_str pa_nil)))) (pe_op op_mod (pe_op op_fdiv (pv 7) pe_int) pe_int) (fun _ _ => rfl)))
       (pss_cons (ps_set (i := 11) sc_law.nd rfl (Or.inl rfl) pe_non)
       (pss_cons (ps_set (i := 12) sc_law.nd rfl (Or.inl rfl) (pe_call (ok_law_copy T) (hr.mono (by decide)) rfl T.m_law_copy T.F_law_copy.kp T.b_law_copy .nil pass0 (pa_cons (pv 3) pa_nil)))
       (C8.pss_cut (ps_if (pt_cmpR op_eq (pe_op op_mod (pv 7) pe_int) pe_int (nomark _))
       (pss_cons (ps_set (i := 11) sc_law.nd rfl (Or.inl rfl) (pv 2))
       (pss_one (ps_set (i := 2) sc_law.nd rfl (Or.inl rfl) (pe_meth0 (pv 11) T.cl_Handles T.me_Handles_fork (ok_Handles_fork T) (hr.mono (by decide)) T.b_Handles_fork .nil pass0))))
       pss_nil)
       (pss_cons (ps_set (i := 13) sc_law.nd rfl (Or.inl rfl) (pe_call (ok_law_told T) (hr.mono (by decide)) rfl T.m_law_told T.F_law_told.kp T.b_law_told .nil pass0 (pa_cons (pv 2) (pa_cons (pv 6) (pa_cons (pv 8) (pa_cons (pv 9) (pa_cons (pv 10) pa_nil)))))))
       (C8.pss_cut (ps_if (PW.pt (pw_or (pt_cmpR (op_neD hr.units) (pv 13) (pe_call (ok_law_due T) (hr.mono (by decide)) rfl T.m_law_due T.F_law_due.kp T.b_law_due .nil pass0 (pa_cons (pv 3) (pa_cons (pv 6) (pa_cons (pv 8) (pa_cons (pv 9) (pa_cons (pv 10) pa_nil)))))) (nomark _)) (pw_or1 (pt_not (pt_val (pe_call (ok_law_agrees T) (hr.mono (by decide)) rfl T.m_law_agrees T.F_law_agrees.kp T.b_law_agrees .nil pass0 (pa_cons (pv 2) (pa_cons (pv 3) pa_nil))))))))
       (pss_one (ps_ret pe_bl))
       pss_nil)
       (C8.pss_cut (ps_if (PW.pt (pw_and (pt_cmpR op_eq (pv 6) pe_int (nomark _)) (pw_and (pt_cmpR op_eq (pe_ix ix_list (pv 13) pe_int (fun _ _ => rfl)) pe_str (nomark _)) (pw_and1 (pt_not (pt_val (pe_call (ok_law_is_integer T) (hr.mono (by decide)) rfl T.m_law_is_integer T.F_law_is_integer.kp T.b_law_is_integer .nil pass0 (pa_cons (pe_ix ix_list (pv 13) pe_int (fun _ _ => rfl)) pa_nil))))))))
       (pss_one (ps_ret pe_bl))
       pss_nil)
       (pss_one (ps_if (PW.pt (pw_and (pt_cmp (pc_notN (pv 11)) rfl) (pw_and1 (pt_not (pt_val (pe_call (ok_law_agrees T) (hr.mono (by decide)) rfl T.m_law_agrees T.F_law_agrees.kp T.b_law_agrees .nil pass0 (pa_cons (pv 11) (pa_cons (pv 12) pa_nil))))))))
       (pss_one (ps_ret pe_bl))
       pss_nil))))))))))))))))
       (pss_cons (ps_set (i := 14) sc_law.nd rfl (Or.inl rfl) (pe_make T.M_OpenFile (ok_OpenFile___init T) (hr.mono (by decide)) rfl T.m_OpenFile T.b_OpenFile___init_3 T.v_OpenFile___init_3 pass0 (pa_cons pe_int (pa_cons pe_str pa_nil))))
       (pss_one (ps_ret (pe_and (pe_cmpR (op_eqD hr.units) (pe_call (ok_law_fields T) (hr.mono (by decide)) rfl T.m_law_fields T.F_law_fields.kp T.b_law_fields .nil pass0 (pa_cons (pv 14) pa_nil)) (pe_lst (pa_cons pe_int (pa_cons pe_str (pa_cons pe_int pa_nil)))) (nomark _)) (pe_one (pe_cmpR (op_eqD hr.units) (pe_call (ok_law_fields T) (hr.mono (by decide)) rfl T.m_law_fields T.F_law_fields.kp T.b_law_fields .nil pass0 (pa_cons (pe_make T.M_OpenFile (ok_OpenFile___init T) (hr.mono (by decide)) rfl T.m_OpenFile T.b_OpenFile___init .nil pass0 (pa_cons pe_int (pa_cons pe_str (pa_cons pe_int pa_nil)))) pa_nil)) (pe_lst (pa_cons pe_int (pa_cons pe_str (pa_cons pe_int pa_nil)))) (nomark _))))))))))))), ?_⟩
    try dsimp only [cxOf, Cx.nox, Cx.wish]
    obtain ⟨a, ns, rfl, hS, h63, q⟩ := h
    walk_at "go"
    intro z0 hz0
    walk_at "go"
    intro h dx nh nd ne
    have s0 : Same H (upd (upd H dx (.own h)) h (.ins T.A_Handles dx [])) := fun b o e => by
      rw [upd_ne (ne_of_none e nh), upd_ne (ne_of_none e nd)]
      exact e
    refine i_Handles___init rfl upd_same fun H1 fs l k nl hl hh F => ⟨rfl, ?_⟩
    have s1 : Same H H1 := fun b o e => k b o (ne_of_none e nh) (s0 _ _ e)
    have R1 : HdP T.A_Handles T.A_OpenFile (fr H H1) h (List.replicate 16 none) := by
      refine ⟨dx, fs, l, List.replicate 16 .non, fr_at nh hh, F, fr_at (s0.free nl) hl, fun i hi => ?_, by decide, by decide, fun i j o hi hj => ?_, fun i o hi => ?_⟩
      · rw [List.getD_eq_getElem?_getD, List.getD_eq_getElem?_getD, List.getElem?_replicate, List.getElem?_replicate, if_pos hi, if_pos hi]
        rfl
      · rw [List.getElem?_replicate] at hi
        split at hi <;> cases hi
      · rw [List.getElem?_replicate] at hi
        split at hi <;> cases hi
    walk_at "go"
    rename_i p0 np0 H2 s2 hp0
    refine r_rep hp0 (by decide) (by decide) (by rw [sz]; decide) ?_
    walk_at "al"
    rename_i lr nlr H3 s3 hlr
    have sF3 : Same (fr H H1) H3 := fr_same.trans (s2.trans s3)
    have nf : fr H H1 lr = none := Same.out (fr_same.trans s2) nlr
    have hlr3 : H3 lr = some (.lst (List.replicate 16 .non)) := by rw [hlr]; rfl
    have sH3 : Same H H3 := s1.trans (s2.trans s3)
    have ok0 : AccOk (List.replicate 16 none) := fun r hr => by cases List.eq_of_mem_replicate hr
    have dn : ∀ X : Hp, DpAll K X (List.replicate 16 .non) ((List.replicate 16 none).map rowD) := fun X => dp_nones 16
    clear hlr
    refine r_cut (fun σ' H' => σ' = [some (.ref a), some (.int z0), some (.ref h), some (.ref lr), none, none, none, none, none, none, none, none, none, none, none] ∧ Same H3 H') ?_ ?_
    · walk_at "go"
      refine i_law_agrees rfl R1 sF3 hlr3 (dn _) ok0 fun H4 s4 => ?_
      walk_at "go"
      exact ⟨rfl, s4⟩
    rintro _ H4 ⟨rfl, s4⟩
    have g1 := sF3.trans s4
    have g2 := sH3.trans s4
    have g3 := s4 _ _ hlr3
    have g4 : Dj H (fr H H1) := (new_dj fr_new (Same.refl H)).symm
    have g5 : H lr = none := (s1.trans s2).free nlr
    have g6 := dn H
    clear hlr3 s4 sH3 sF3 hp0 np0 s2 s3 nlr hh hl k F nl s0 dn
    walk_at "go"
    rename_i b hb b0 b1
    refine r_forR (fun i σ' H' => ∃ (f G : Hp) (h : Addr) (m : List (Option OF)) (ws : List V) (v1 v5 v6 v7 v8 v9 v10 v11 v12 v13 : Option V), σ' = [some (.ref a), v1, some (.ref h), some (.ref lr), some (.int b), v5, v6, v7, v8, v9, v10, v11, v12, v13, none] ∧ HdP T.A_Handles T.A_OpenFile f h m ∧ Same f H' ∧ Same G H' ∧ Same H G ∧ Dj G f ∧ G lr = none ∧ f lr = none ∧ H' lr = some (.lst ws) ∧ DpAll K G ws (m.map rowD) ∧ m.length = 16 ∧ AccOk m)
      ⟨fr H H1, H, h, _, _, _, _, _, _, _, _, _, _, _, _, rfl, R1, g1, g2, Same.refl H, g4, g5, nf, g3, g6, rfl, ok0⟩ ?_ ?_
    · clear g1 g2 g3 g4 g5 g6 ok0 nf R1 hb
      rintro i σ' H5 hi ⟨f, G, h, m, ws, v1, v5, v6, v7, v8, v9, v10, v11, v12, v13, rfl, R, sf, sG, sHG, dGf, nG, nf, hlr, hw, lm, hok⟩
      have hS5 : SqL K H5 a (ns.map V.int) := (sHG.trans sG).seq hS
      walk_at "go"
      intro z hz
      walk_at "go"
      rename_i kd hkd kd0 kd1
      generalize hrest : z / 6 = rest
      have rest0 : 0 ≤ rest := by omega
      refine r_cut (fun σ' H' => ∃ kd : Int, 0 ≤ kd ∧ kd ≤ 5 ∧ σ' = [some (.ref a), some (.int z), some (.ref h), some (.ref lr), some (.int b), some (.int (0 + (i : Int))), some (.int kd), some (.int rest), v8, v9, v10, v11, v12, v13, none] ∧ H5 = H') ?_ ?_
      · walk_at "go"
        refine r_ite (fun _ => ?_) (fun _ => ?_)
        · walk_at "go"
          exact ⟨0, by omega, by omega, rfl, rfl⟩
        · walk_at "go"
          exact ⟨kd, kd0, by omega, rfl, rfl⟩
      clear kd0 kd1 hkd kd
      rintro _ _ ⟨kd, kd0, kd1, rfl, rfl⟩
      walk_at "go"
      rename_i p1 np1 H6 s6 hp1 j1 hj1 j10 j11
      obtain ⟨hd, hat1⟩ := at4 (a := _) (b := _) (c := _) (d := _) j10 j11
      refine r_ixl (.inl (.inl hp1)) hat1 ?_
      clear hat1 hp1
      walk_at "go"
      rename_i p2 np2 H7 s7 hp2 j2 hj2 j20 j21
      obtain ⟨mo, mo0, hat2⟩ := at2 j20 j21
      refine r_ixl (.inl (.inl hp2)) hat2 ?_
      walk_at "go"
      rename_i zm hzm zm0 zm1 p3 np3 H8 s8 hp3 j3 hj3 j30 j31
      generalize (1 : Int) + zm = more
      clear hat2 hp2 hzm zm0 zm1
      obtain ⟨x, hx, hat3⟩ := at3 j30 j31
      refine r_ixl (.inl (.inl hp3)) hat3 ?_
      have s58 : Same H5 H8 := s6.trans (s7.trans s8)
      clear hat3 hp3 hj3 j30 j31 hj2 j20 j21 hj1 j10 j11
      have hlr8 := s58 _ _ hlr
      have sG8 := sG.trans s58
      have sf8 := sf.trans s58
      walk_at "go"
      refine i_law_copy rfl hlr8 (DpAll.mono sG8 _ _ hw) lm fun H9 kn ps s9 nkn hkn hps => ?_
      have hlr9 := s9 _ _ hlr8
      have sG9 := sG8.trans s9
      have sf9 := sf8.trans s9
      have dN1 : Dj (fr H8 H9) f := new_dj fr_new sf8
      have nN1 : fr H8 H9 lr = none := by
        cases e : fr H8 H9 lr with
        | none => rfl
        | some o => have := fr_new (H := H8) (H' := H9) lr (by rw [e]; intro z; cases z); rw [hlr8] at this; cases this
      walk_at "go"
      refine r_cut (fun σ' H' => ∃ (h' : Addr) (f' : Hp) (vl : V), σ' = [some (.ref a), some (.int z), some (.ref h'), some (.ref lr), some (.int b), some (.int (0 + (i : Int))), some (.int kd), some (.int rest), some (.int hd), some (.int more), some (.str x), some (vl), some (.ref kn), v13, none] ∧ Same H9 H' ∧ HdP T.A_Handles T.A_OpenFile f' h' m ∧ Same f' H' ∧ Dj G f' ∧ f' lr = none ∧ Dj (fr H8 H9) f' ∧ LeftOk T.A_Handles T.A_OpenFile m H' f' lr vl) ?_ ?_
      · walk_at "go"
        refine r_ite (fun _ => ?_) (fun _ => ?_)
        · obtain ⟨dx, fs, l, us, R0⟩ := id R
          have hi9 := sf9 _ _ R0.ins
          have n9 := R0.flds.n9
          walk_at "go"
          intro H10 h2 s10 R2
          walk_at "go"
          have nw : ∀ k : Hp, Same k H9 → Dj k (fr H9 H10) := fun k sk => (new_dj fr_new sk).symm
          refine ⟨h2, fr H9 H10, .ref h, rfl, s10, R2, fr_same, nw _ sG9, ?_, nw _ fr_same, .inr ⟨h, f, rfl, R, sf9.trans s10, nw _ sf9, nf⟩⟩
          cases e : fr H9 H10 lr with
          | none => rfl
          | some o => have := fr_new (H := H9) (H' := H10) lr (by rw [e]; intro z; cases z); rw [hlr9] at this; cases this
        · walk_at "go"
          exact ⟨h, f, .non, rfl, Same.refl _, R, sf9, dGf, nf, dN1, .inl rfl⟩
      rintro _ H10 ⟨h', f', vl, rfl, s10, R', sf', dGf', nf', dN', hL⟩
      have hlr10 := s10 _ _ hlr9
      have sG10 := sG9.trans s10
      have sN10 : Same (fr H8 H9) H10 := fr_same.trans s10
      clear R sf sf8 sf9 dGf nf dN1 hlr9 hlr8 hlr sG8 sG9 sG
      walk_at "go"
      intro H11 f11 t N A R11 sN nN dN hd11
      have hlr11 := A.frm _ _ hlr10 nf'
      have sG11 := A.keep sG10 dGf'
      have dG11 := A.dj sG10 dGf'
      have sK11 := A.keep sN10 dN'
      have nf11 : f11 lr = none := by
        cases e : f11 lr with
        | none => rfl
        | some o =>
          rcases A.new lr (by rw [e]; intro z; cases z) with c | c
          · exact absurd nf' c
          · rw [hlr10] at c; cases c
      have nNlr : N lr = none := by
        cases e : N lr with
        | none => rfl
        | some o => have := nN lr (by rw [e]; intro z; cases z); rw [hlr10] at this; cases this
      walk_at "go"
      refine r_cut (fun σ' H' => ∃ (ws' : List V) (G' : Hp), σ' = [some (.ref a), some (.int z), some (.ref h'), some (.ref lr), some (.int b), some (.int (0 + (i : Int))), some (.int kd), some (.int rest), some (.int hd), some (.int more), some (.str x), some (vl), some (.ref kn), some (.ref t), none] ∧ Same G G' ∧ Same G' H' ∧ (∀ b, G' b ≠ none → G b ≠ none ∨ H11 b = none) ∧ DpAll K G' ws' ((opF m kd hd more x).2.map rowD) ∧ H' lr = some (.lst ws') ∧ (∀ k : Hp, Same k H11 → k lr = none → Same k H')) ?_ ?_
      · walk_at "go"
        refine i_law_due rfl hlr11 sG11 nG hw lm hok kd0 kd1 fun H12 ws12 t12 G12 B gg sG12 nG12 hw12 hd12 => ?_
        have sN12 : Same N H12 := B.keep sN (dj_one nNlr)
        have shp := res_shaped (m := m) (kind := kd) (hd := hd) (more := more) (acc := x) hok
        walk_at "go"
        refine r_ned (Dp.mono sN12 _ _ hd11) hd12 shp shp ?_
        rw [SeqAt.eqv_refl _ (SeqAt.canLay_of_shaped shp)]
        have hlr12 := B.inn _ _ one_at
        walk_at "go"
        refine i_law_agrees rfl R11 (B.keep A.inn (dj_one nf11)) hlr12 (DpAll.mono sG12 _ _ hw12) (opF_ok hok hx) fun H13 s13 => ?_
        walk_at "go"
        exact ⟨ws12, G12, rfl, gg, sG12.trans s13, nG12, hw12, s13 _ _ hlr12, fun k sk nk => (B.keep sk (dj_one nk)).trans s13⟩
      rintro _ H12 ⟨ws', G', rfl, gg, sG', nG', hw', hlr12, keep⟩
      have dG' : Dj G' f11 := fun b => by
        cases e : G' b with
        | none => exact .inl rfl
        | some o =>
          refine .inr ?_
          rcases nG' b (by rw [e]; intro z; cases z) with c | c
          · cases e2 : G b with
            | none => exact absurd e2 c
            | some o2 => exact dG11.left e2
          · exact Same.out A.inn c
      have nG'lr : G' lr = none := by
        cases e : G' lr with
        | none => rfl
        | some o =>
          rcases nG' lr (by rw [e]; intro z; cases z) with c | c
          · exact absurd nG c
          · rw [hlr11] at c; cases c
      obtain ⟨st, xt, hst, hst2⟩ := told_shape (Dp.mono (keep N sN nNlr) _ _ hd11)
      walk_at "go"
      refine r_cut (fun σ' H' => σ' = [some (.ref a), some (.int z), some (.ref h'), some (.ref lr), some (.int b), some (.int (0 + (i : Int))), some (.int kd), some (.int rest), some (.int hd), some (.int more), some (.str x), some (vl), some (.ref kn), some (.ref t), none] ∧ H12 = H') ?_ ?_
      · walk_at "go"
        refine r_ite (fun _ => ?_) (fun _ => ?_)
        · walk_at "go"
          refine r_ite (fun c => ?_) (fun _ => ?_)
          · obtain ⟨n, rfl⟩ := hst2 c
            walk_at "go"
            exact ⟨rfl, rfl⟩
          · walk_at "go"
            exact ⟨rfl, rfl⟩
        · walk_at "go"
          exact ⟨rfl, rfl⟩
      rintro _ _ ⟨rfl, rfl⟩
      have fin : ∀ H13, Same H12 H13 → ∃ (f2 G2 : Hp) (h2 : Addr) (m2 : List (Option OF)) (ws2 : List V) (v1 v5 v6 v7 v8 v9 v10 v11 v12 v13 : Option V), [some (.ref a), some (.int z), some (.ref h'), some (.ref lr), some (.int b), some (.int (0 + (i : Int))), some (.int kd), some (.int rest), some (.int hd), some (.int more), some (.str x), some (vl), some (.ref kn), some (.ref t), none] = [some (.ref a), v1, some (.ref h2), some (.ref lr), some (.int b), v5, v6, v7, v8, v9, v10, v11, v12, v13, none] ∧ HdP T.A_Handles T.A_OpenFile f2 h2 m2 ∧ Same f2 H13 ∧ Same G2 H13 ∧ Same H G2 ∧ Dj G2 f2 ∧ G2 lr = none ∧ f2 lr = none ∧ H13 lr = some (.lst ws2) ∧ DpAll K G2 ws2 (m2.map rowD) ∧ m2.length = 16 ∧ AccOk m2 := fun H13 s13 =>
        ⟨f11, G', h', _, ws', _, _, _, _, _, _, _, _, _, _, rfl, R11, (keep _ A.inn nf11).trans s13, sG'.trans s13, sHG.trans gg, dG', nG'lr, nf11, s13 _ _ hlr12, hw', by rw [opF_len]; exact lm, opF_ok hok hx⟩
      rcases hL with rfl | ⟨hl, fl, rfl, RL, sL, dL, nL⟩
      · walk_at "go"
        exact fin _ (Same.refl _)
      · walk_at "go"
        refine i_law_agrees rfl RL (keep _ (A.keep sL dL) nL) (keep _ sK11 nN1 _ _ (fr_at nkn hkn)) (DpAll.mono (keep _ sK11 nN1) _ _ hps) hok fun H13 s13 => ?_
        walk_at "go"
        exact fin _ s13
    · rintro σ' H5 ⟨f, G, h, m, ws, v1, v5, v6, v7, v8, v9, v10, v11, v12, v13, rfl, _⟩
      walk_at "go"
      intro o dxo no ndo neo
      refine i_OpenFile___init rfl upd_same fun H6 k6 ho => ⟨rfl, ?_⟩
      have sf6 := Same.refl H6
      walk_at "go"
      intro H7 l7 s7 n7 h7
      walk_at "go"
      rename_i p8 np8 H8 s8 h8
      have f7 : Fl 1 (.list [.int 7, .str "both", .int 0]) := Fl.lst (Fl.cons (Fl.int _ _) (Fl.cons (Fl.str (by decide +kernel) 0) (Fl.cons (Fl.int _ _) Fl.nil)))
      have f1 : Fl 1 (.list [.int 1, .str "read", .int 5]) := Fl.lst (Fl.cons (Fl.int _ _) (Fl.cons (Fl.str (by decide +kernel) 0) (Fl.cons (Fl.int _ _) Fl.nil)))
      refine r_eqd (d := .list [.int 7, .str "both", .int 0]) (e := .list [.int 7, .str "both", .int 0]) (.lst (.inl (.inl (s8 _ _ h7))) (.cons (.int _) (.cons (.str _) (.cons (.int _) .nil)))) (.lst (.inl (.inl h8)) (.cons (.int _) (.cons (.str _) (.cons (.int _) .nil)))) f7.shaped f7.shaped ?_
      rw [f7.self]
      walk_at "go"
      intro o2 dxo2 no2 ndo2 neo2
      refine i_OpenFile___init rfl upd_same fun H9 k9 ho2 => ⟨rfl, ?_⟩
      have sf9 := Same.refl H9
      walk_at "go"
      intro H10 l10 s10 n10 h10
      walk_at "go"
      rename_i p11 np11 H11 s11 h11
      refine r_eqd (d := .list [.int 1, .str "read", .int 5]) (e := .list [.int 1, .str "read", .int 5]) (.lst (.inl (.inl (s11 _ _ h10))) (.cons (.int _) (.cons (.str _) (.cons (.int _) .nil)))) (.lst (.inl (.inl h11)) (.cons (.int _) (.cons (.str _) (.cons (.int _) .nil)))) f1.shaped f1.shaped ?_
      rw [f1.self]
      exact q _
end
theorem all_mk {l : PySem.W.OpenLaw} {w : World} {K : PySem.W.Frag} {h : Heap} {mg : Str → Option Value} {fa C_OpenFile C_Handles f_OpenFile___init f_Handles___init f_Handles_check_free f_Handles_acquire f_Handles_get f_Handles_reading f_Handles_writing f_Handles_free f_Handles_reserve f_Handles_opened_numbers f_Handles_fork f_copy_of_file f_law_row f_law_is_integer f_law_rows f_law_numbers f_law_fields f_law_told f_law_due f_law_agrees f_law_copy f_law X_BadHandle X_TooManyOpen X_SegmentError dT_OpenFile___init : Addr} (X : K.In h) (G : h.Ns mainGlobals mg) (hfa : mg "law" = some (.ref fa))
    {od_OpenFile___init an_OpenFile___init od_Handles___init an_Handles___init od_Handles_check_free an_Handles_check_free od_Handles_acquire an_Handles_acquire od_Handles_get an_Handles_get od_Handles_reading an_Handles_reading od_Handles_writing an_Handles_writing od_Handles_free an_Handles_free od_Handles_reserve an_Handles_reserve od_Handles_opened_numbers an_Handles_opened_numbers od_Handles_fork an_Handles_fork od_copy_of_file an_copy_of_file od_law_row an_law_row od_law_is_integer an_law_is_integer od_law_rows an_law_rows od_law_numbers an_law_numbers od_law_fields an_law_fields od_law_told an_law_told od_law_due an_law_due od_law_agrees an_law_agrees od_law_copy an_law_copy od_law an_law : Option Addr} {sl_OpenFile___init sl_Handles___init sl_Handles_check_free sl_Handles_acquire sl_Handles_get sl_Handles_reading sl_Handles_writing sl_Handles_free sl_Handles_reserve sl_Handles_opened_numbers sl_Handles_fork sl_copy_of_file sl_law_row sl_law_is_integer sl_law_rows sl_law_numbers sl_law_fields sl_law_told sl_law_due sl_law_agrees sl_law_copy sl_law : Array (Option Value)} {oc_OpenFile___init kV_OpenFile___init dc_OpenFile___init pm_OpenFile___init cd_OpenFile___init ct_OpenFile___init oc_Handles___init kV_Handles___init dc_Handles___init pm_Handles___init cd_Handles___init ct_Handles___init oc_Handles_check_free kV_Handles_check_free dc_Handles_check_free pm_Handles_check_free cd_Handles_check_free ct_Handles_check_free oc_Handles_acquire kV_Handles_acquire dc_Handles_acquire pm_Handles_acquire cd_Handles_acquire ct_Handles_acquire oc_Handles_get kV_Handles_get dc_Handles_get pm_Handles_get cd_Handles_get ct_Handles_get oc_Handles_reading kV_Handles_reading dc_Handles_reading pm_Handles_reading cd_Handles_reading ct_Handles_reading oc_Handles_writing kV_Handles_writing dc_Handles_writing pm_Handles_writing cd_Handles_writing ct_Handles_writing oc_Handles_free kV_Handles_free dc_Handles_free pm_Handles_free cd_Handles_free ct_Handles_free oc_Handles_reserve kV_Handles_reserve dc_Handles_reserve pm_Handles_reserve cd_Handles_reserve ct_Handles_reserve oc_Handles_opened_numbers kV_Handles_opened_numbers dc_Handles_opened_numbers pm_Handles_opened_numbers cd_Handles_opened_numbers ct_Handles_opened_numbers oc_Handles_fork kV_Handles_fork dc_Handles_fork pm_Handles_fork cd_Handles_fork ct_Handles_fork oc_copy_of_file kV_copy_of_file dc_copy_of_file pm_copy_of_file cd_copy_of_file ct_copy_of_file oc_law_row kV_law_row dc_law_row pm_law_row cd_law_row ct_law_row oc_law_is_integer kV_law_is_integer dc_law_is_integer pm_law_is_integer cd_law_is_integer ct_law_is_integer oc_law_rows kV_law_rows dc_law_rows pm_law_rows cd_law_rows ct_law_rows oc_law_numbers kV_law_numbers dc_law_numbers pm_law_numbers cd_law_numbers ct_law_numbers oc_law_fields kV_law_fields dc_law_fields pm_law_fields cd_law_fields ct_law_fields oc_law_told kV_law_told dc_law_told pm_law_told cd_law_told ct_law_told oc_law_due kV_law_due dc_law_due pm_law_due cd_law_due ct_law_due oc_law_agrees kV_law_agrees dc_law_agrees pm_law_agrees cd_law_agrees ct_law_agrees oc_law_copy kV_law_copy dc_law_copy pm_law_copy cd_law_copy ct_law_copy oc_law kV_law dc_law pm_law cd_law ct_law : Value}
    {dd_OpenFile___init : Option Addr} {dn_OpenFile___init : Nat} {dsl_OpenFile___init : Array (Option Value)}
    {t_HANDLES dtok_OpenFile___init_0 : Tok}
    (mX_BadHandle : PySem.W.nsIn K mainGlobals "BadHandle" = some (some (.ref X_BadHandle)))
    (mX_TooManyOpen : PySem.W.nsIn K mainGlobals "TooManyOpen" = some (some (.ref X_TooManyOpen)))
    (mX_SegmentError : PySem.W.nsIn K mainGlobals "SegmentError" = some (some (.ref X_SegmentError)))
    (xx_BadHandle : PySem.W.excIn K X_BadHandle [.type "ValueError", .type "Exception", .type "BaseException", .type "object"] "ValueError.__new__" = true)
    (xk_BadHandle : PySem.W.keepIn K (.ref X_BadHandle) = true)
    (xb_BadHandle : PySem.W.subIn K (.ref X_BadHandle) (.type "BaseException") = some true)
    (xt_BadHandle : PySem.W.typeIn K (.ref X_BadHandle) = some (.type "type"))
    (xga_BadHandle : PySem.W.findIn K (.ref X_BadHandle) "__getattribute__" = some (some (.builtin "BaseException.__getattribute__")))
    (xgt_BadHandle : PySem.W.findIn K (.ref X_BadHandle) "__getattr__" = some none)
    (xhd_BadHandle : PySem.W.hasDictIn K X_BadHandle = true)
    (xca_BadHandle : PySem.W.findIn K (.ref X_BadHandle) "__class__" = some (some (.builtin "object.__class__")))
    (xmr_BadHandle : PySem.W.mroIn K X_BadHandle (.type "object") = some true)
    (xx_TooManyOpen : PySem.W.excIn K X_TooManyOpen [.type "ValueError", .type "Exception", .type "BaseException", .type "object"] "ValueError.__new__" = true)
    (xk_TooManyOpen : PySem.W.keepIn K (.ref X_TooManyOpen) = true)
    (xb_TooManyOpen : PySem.W.subIn K (.ref X_TooManyOpen) (.type "BaseException") = some true)
    (xt_TooManyOpen : PySem.W.typeIn K (.ref X_TooManyOpen) = some (.type "type"))
    (xga_TooManyOpen : PySem.W.findIn K (.ref X_TooManyOpen) "__getattribute__" = some (some (.builtin "BaseException.__getattribute__")))
    (xgt_TooManyOpen : PySem.W.findIn K (.ref X_TooManyOpen) "__getattr__" = some none)
    (xhd_TooManyOpen : PySem.W.hasDictIn K X_TooManyOpen = true)
    (xca_TooManyOpen : PySem.W.findIn K (.ref X_TooManyOpen) "__class__" = some (some (.builtin "object.__class__")))
    (xmr_TooManyOpen : PySem.W.mroIn K X_TooManyOpen (.type "object") = some true)
    (xsp : PySem.W.specialIn K (.builtin "object.__class__") "__get__" = some (some (.builtin "getset_descriptor.__get__")))
    (xtk : PySem.W.takesIn K (.builtin "object.__class__") = some true)
    (xhd_SegmentError : PySem.W.hasDictIn K X_SegmentError = true)
    (xt_SegmentError : PySem.W.typeIn K (.ref X_SegmentError) = some (.type "type"))
    (xb_SegmentError : PySem.W.subIn K (.ref X_SegmentError) (.type "BaseException") = some true)
    (xs_BadHandle_BadHandle : PySem.W.subIn K (.ref X_BadHandle) (.ref X_BadHandle) = some true)
    (xs_BadHandle_SegmentError : PySem.W.subIn K (.ref X_BadHandle) (.ref X_SegmentError) = some true)
    (xs_BadHandle_TooManyOpen : PySem.W.subIn K (.ref X_BadHandle) (.ref X_TooManyOpen) = some false)
    (xn_BadHandle_TooManyOpen : (Value.ref X_BadHandle == Value.ref X_TooManyOpen) = false)
    (xs_TooManyOpen_BadHandle : PySem.W.subIn K (.ref X_TooManyOpen) (.ref X_BadHandle) = some false)
    (xn_TooManyOpen_BadHandle : (Value.ref X_TooManyOpen == Value.ref X_BadHandle) = false)
    (xs_TooManyOpen_SegmentError : PySem.W.subIn K (.ref X_TooManyOpen) (.ref X_SegmentError) = some true)
    (xs_TooManyOpen_TooManyOpen : PySem.W.subIn K (.ref X_TooManyOpen) (.ref X_TooManyOpen) = some true)
    (mC_OpenFile : PySem.W.nsIn K mainGlobals "OpenFile" = some (some (.ref C_OpenFile)))
    (pg_OpenFile : PySem.W.plainGet K C_OpenFile Str.empty = true)
    (hd_OpenFile : PySem.W.hasDictIn K C_OpenFile = true)
    (po_OpenFile : PySem.W.plainOver K C_OpenFile = true)
    (sa_OpenFile : PySem.W.findIn K (.ref C_OpenFile) "__setattr__" = some (some (.builtin "object.__setattr__")))
    (mk_OpenFile : PySem.W.makesIn K C_OpenFile = true)
    (kc_OpenFile : PySem.W.keepIn K (.ref C_OpenFile) = true)
    (na_OpenFile_number : PySem.W.findIn K (.ref C_OpenFile) "number" = some none)
    (na_OpenFile_access : PySem.W.findIn K (.ref C_OpenFile) "access" = some none)
    (na_OpenFile_reserved : PySem.W.findIn K (.ref C_OpenFile) "reserved" = some none)
    (mo_OpenFile : PySem.W.mroIn K C_OpenFile (.type "object") = some true)
    (oe_OpenFile : PySem.W.findIn K (.ref C_OpenFile) "__eq__" = some (some (.builtin "object.__eq__")))
    (mC_Handles : PySem.W.nsIn K mainGlobals "Handles" = some (some (.ref C_Handles)))
    (pg_Handles : PySem.W.plainGet K C_Handles Str.empty = true)
    (hd_Handles : PySem.W.hasDictIn K C_Handles = true)
    (po_Handles : PySem.W.plainOver K C_Handles = true)
    (sa_Handles : PySem.W.findIn K (.ref C_Handles) "__setattr__" = some (some (.builtin "object.__setattr__")))
    (mk_Handles : PySem.W.makesIn K C_Handles = true)
    (kc_Handles : PySem.W.keepIn K (.ref C_Handles) = true)
    (na_Handles_files : PySem.W.findIn K (.ref C_Handles) "files" = some none)
    (a_OpenFile___init : PySem.W.findIn K (.ref C_OpenFile) "__init__" = some (some (.ref f_OpenFile___init)))
    (i_OpenFile___init : PySem.W.isFn K (.ref f_OpenFile___init) = true)
    (l_OpenFile___init : K.lookup f_OpenFile___init = some ⟨oc_OpenFile___init, od_OpenFile___init, .func (PySem.W.fnOf "__init__" "OpenFile.__init__" (defArgs s_OpenFile___init) (defBody s_OpenFile___init) (defScope s_OpenFile___init) (.ref dT_OpenFile___init) kV_OpenFile___init dc_OpenFile___init pm_OpenFile___init an_OpenFile___init cd_OpenFile___init ct_OpenFile___init), sl_OpenFile___init⟩)
    (dl_OpenFile___init : K.lookup dT_OpenFile___init = some ⟨.type "tuple", dd_OpenFile___init, .seq #[Value.int 0 dtok_OpenFile___init_0] dn_OpenFile___init, dsl_OpenFile___init⟩)
    (c_OpenFile___init : PySem.W.codeIn K cd_OpenFile___init "OpenFile.__init__" = true)
    (k_OpenFile___init : PySem.W.keepIn K (.ref f_OpenFile___init) = true)
    (a_Handles___init : PySem.W.findIn K (.ref C_Handles) "__init__" = some (some (.ref f_Handles___init)))
    (i_Handles___init : PySem.W.isFn K (.ref f_Handles___init) = true)
    (l_Handles___init : K.lookup f_Handles___init = some ⟨oc_Handles___init, od_Handles___init, .func (PySem.W.fnOf "__init__" "Handles.__init__" (defArgs s_Handles___init) (defBody s_Handles___init) (defScope s_Handles___init) .none kV_Handles___init dc_Handles___init pm_Handles___init an_Handles___init cd_Handles___init ct_Handles___init), sl_Handles___init⟩)
    (c_Handles___init : PySem.W.codeIn K cd_Handles___init "Handles.__init__" = true)
    (k_Handles___init : PySem.W.keepIn K (.ref f_Handles___init) = true)
    (a_Handles_check_free : PySem.W.findIn K (.ref C_Handles) "check_free" = some (some (.ref f_Handles_check_free)))
    (i_Handles_check_free : PySem.W.isFn K (.ref f_Handles_check_free) = true)
    (l_Handles_check_free : K.lookup f_Handles_check_free = some ⟨oc_Handles_check_free, od_Handles_check_free, .func (PySem.W.fnOf "check_free" "Handles.check_free" (defArgs s_Handles_check_free) (defBody s_Handles_check_free) (defScope s_Handles_check_free) .none kV_Handles_check_free dc_Handles_check_free pm_Handles_check_free an_Handles_check_free cd_Handles_check_free ct_Handles_check_free), sl_Handles_check_free⟩)
    (c_Handles_check_free : PySem.W.codeIn K cd_Handles_check_free "Handles.check_free" = true)
    (k_Handles_check_free : PySem.W.keepIn K (.ref f_Handles_check_free) = true)
    (a_Handles_acquire : PySem.W.findIn K (.ref C_Handles) "acquire" = some (some (.ref f_Handles_acquire)))
    (i_Handles_acquire : PySem.W.isFn K (.ref f_Handles_acquire) = true)
    (l_Handles_acquire : K.lookup f_Handles_acquire = some ⟨oc_Handles_acquire, od_Handles_acquire, .func (PySem.W.fnOf "acquire" "Handles.acquire" (defArgs s_Handles_acquire) (defBody s_Handles_acquire) (defScope s_Handles_acquire) .none kV_Handles_acquire dc_Handles_acquire pm_Handles_acquire an_Handles_acquire cd_Handles_acquire ct_Handles_acquire), sl_Handles_acquire⟩)
    (c_Handles_acquire : PySem.W.codeIn K cd_Handles_acquire "Handles.acquire" = true)
    (k_Handles_acquire : PySem.W.keepIn K (.ref f_Handles_acquire) = true)
    (a_Handles_get : PySem.W.findIn K (.ref C_Handles) "get" = some (some (.ref f_Handles_get)))
    (i_Handles_get : PySem.W.isFn K (.ref f_Handles_get) = true)
    (l_Handles_get : K.lookup f_Handles_get = some ⟨oc_Handles_get, od_Handles_get, .func (PySem.W.fnOf "get" "Handles.get" (defArgs s_Handles_get) (defBody s_Handles_get) (defScope s_Handles_get) .none kV_Handles_get dc_Handles_get pm_Handles_get an_Handles_get cd_Handles_get ct_Handles_get), sl_Handles_get⟩)
    (c_Handles_get : PySem.W.codeIn K cd_Handles_get "Handles.get" = true)
    (k_Handles_get : PySem.W.keepIn K (.ref f_Handles_get) = true)
    (a_Handles_reading : PySem.W.findIn K (.ref C_Handles) "reading" = some (some (.ref f_Handles_reading)))
    (i_Handles_reading : PySem.W.isFn K (.ref f_Handles_reading) = true)
    (l_Handles_reading : K.lookup f_Handles_reading = some ⟨oc_Handles_reading, od_Handles_reading, .func (PySem.W.fnOf "reading" "Handles.reading" (defArgs s_Handles_reading) (defBody s_Handles_reading) (defScope s_Handles_reading) .none kV_Handles_reading dc_Handles_reading pm_Handles_reading an_Handles_reading cd_Handles_reading ct_Handles_reading), sl_Handles_reading⟩)
    (c_Handles_reading : PySem.W.codeIn K cd_Handles_reading "Handles.reading" = true)
    (k_Handles_reading : PySem.W.keepIn K (.ref f_Handles_reading) = true)
    (a_Handles_writing : PySem.W.findIn K (.ref C_Handles) "writing" = some (some (.ref f_Handles_writing)))
    (i_Handles_writing : PySem.W.isFn K (.ref f_Handles_writing) = true)
    (l_Handles_writing : K.lookup f_Handles_writing = some ⟨oc_Handles_writing, od_Handles_writing, .func (PySem.W.fnOf "writing" "Handles.writing" (defArgs s_Handles_writing) (defBody s_Handles_writing) (defScope s_Handles_writing) .none kV_Handles_writing dc_Handles_writing pm_Handles_writing an_Handles_writing cd_Handles_writing ct_Handles_writing), sl_Handles_writing⟩)
    (c_Handles_writing : PySem.W.codeIn K cd_Handles_writing "Handles.writing" = true)
    (k_Handles_writing : PySem.W.keepIn K (.ref f_Handles_writing) = true)
    (a_Handles_free : PySem.W.findIn K (.ref C_Handles) "free" = some (some (.ref f_Handles_free)))
    (i_Handles_free : PySem.W.isFn K (.ref f_Handles_free) = true)
    (l_Handles_free : K.lookup f_Handles_free = some ⟨oc_Handles_free, od_Handles_free, .func (PySem.W.fnOf "free" "Handles.free" (defArgs s_Handles_free) (defBody s_Handles_free) (defScope s_Handles_free) .none kV_Handles_free dc_Handles_free pm_Handles_free an_Handles_free cd_Handles_free ct_Handles_free), sl_Handles_free⟩)
    (c_Handles_free : PySem.W.codeIn K cd_Handles_free "Handles.free" = true)
    (k_Handles_free : PySem.W.keepIn K (.ref f_Handles_free) = true)
    (a_Handles_reserve : PySem.W.findIn K (.ref C_Handles) "reserve" = some (some (.ref f_Handles_reserve)))
    (i_Handles_reserve : PySem.W.isFn K (.ref f_Handles_reserve) = true)
    (l_Handles_reserve : K.lookup f_Handles_reserve = some ⟨oc_Handles_reserve, od_Handles_reserve, .func (PySem.W.fnOf "reserve" "Handles.reserve" (defArgs s_Handles_reserve) (defBody s_Handles_reserve) (defScope s_Handles_reserve) .none kV_Handles_reserve dc_Handles_reserve pm_Handles_reserve an_Handles_reserve cd_Handles_reserve ct_Handles_reserve), sl_Handles_reserve⟩)
    (c_Handles_reserve : PySem.W.codeIn K cd_Handles_reserve "Handles.reserve" = true)
    (k_Handles_reserve : PySem.W.keepIn K (.ref f_Handles_reserve) = true)
    (a_Handles_opened_numbers : PySem.W.findIn K (.ref C_Handles) "opened_numbers" = some (some (.ref f_Handles_opened_numbers)))
    (i_Handles_opened_numbers : PySem.W.isFn K (.ref f_Handles_opened_numbers) = true)
    (l_Handles_opened_numbers : K.lookup f_Handles_opened_numbers = some ⟨oc_Handles_opened_numbers, od_Handles_opened_numbers, .func (PySem.W.fnOf "opened_numbers" "Handles.opened_numbers" (defArgs s_Handles_opened_numbers) (defBody s_Handles_opened_numbers) (defScope s_Handles_opened_numbers) .none kV_Handles_opened_numbers dc_Handles_opened_numbers pm_Handles_opened_numbers an_Handles_opened_numbers cd_Handles_opened_numbers ct_Handles_opened_numbers), sl_Handles_opened_numbers⟩)
    (c_Handles_opened_numbers : PySem.W.codeIn K cd_Handles_opened_numbers "Handles.opened_numbers" = true)
    (k_Handles_opened_numbers : PySem.W.keepIn K (.ref f_Handles_opened_numbers) = true)
    (a_Handles_fork : PySem.W.findIn K (.ref C_Handles) "fork" = some (some (.ref f_Handles_fork)))
    (i_Handles_fork : PySem.W.isFn K (.ref f_Handles_fork) = true)
    (l_Handles_fork : K.lookup f_Handles_fork = some ⟨oc_Handles_fork, od_Handles_fork, .func (PySem.W.fnOf "fork" "Handles.fork" (defArgs s_Handles_fork) (defBody s_Handles_fork) (defScope s_Handles_fork) .none kV_Handles_fork dc_Handles_fork pm_Handles_fork an_Handles_fork cd_Handles_fork ct_Handles_fork), sl_Handles_fork⟩)
    (c_Handles_fork : PySem.W.codeIn K cd_Handles_fork "Handles.fork" = true)
    (k_Handles_fork : PySem.W.keepIn K (.ref f_Handles_fork) = true)
    (a_copy_of_file : PySem.W.nsIn K mainGlobals "_copy_of_file" = some (some (.ref f_copy_of_file)))
    (l_copy_of_file : K.lookup f_copy_of_file = some ⟨oc_copy_of_file, od_copy_of_file, .func (PySem.W.fnOf "_copy_of_file" "_copy_of_file" (defArgs s_copy_of_file) (defBody s_copy_of_file) (defScope s_copy_of_file) .none kV_copy_of_file dc_copy_of_file pm_copy_of_file an_copy_of_file cd_copy_of_file ct_copy_of_file), sl_copy_of_file⟩)
    (c_copy_of_file : PySem.W.codeIn K cd_copy_of_file "_copy_of_file" = true)
    (k_copy_of_file : PySem.W.keepIn K (.ref f_copy_of_file) = true)
    (a_law_row : PySem.W.nsIn K mainGlobals "_law_row" = some (some (.ref f_law_row)))
    (l_law_row : K.lookup f_law_row = some ⟨oc_law_row, od_law_row, .func (PySem.W.fnOf "_law_row" "_law_row" (defArgs s_law_row) (defBody s_law_row) (defScope s_law_row) .none kV_law_row dc_law_row pm_law_row an_law_row cd_law_row ct_law_row), sl_law_row⟩)
    (c_law_row : PySem.W.codeIn K cd_law_row "_law_row" = true)
    (k_law_row : PySem.W.keepIn K (.ref f_law_row) = true)
    (a_law_is_integer : PySem.W.nsIn K mainGlobals "_law_is_integer" = some (some (.ref f_law_is_integer)))
    (l_law_is_integer : K.lookup f_law_is_integer = some ⟨oc_law_is_integer, od_law_is_integer, .func (PySem.W.fnOf "_law_is_integer" "_law_is_integer" (defArgs s_law_is_integer) (defBody s_law_is_integer) (defScope s_law_is_integer) .none kV_law_is_integer dc_law_is_integer pm_law_is_integer an_law_is_integer cd_law_is_integer ct_law_is_integer), sl_law_is_integer⟩)
    (c_law_is_integer : PySem.W.codeIn K cd_law_is_integer "_law_is_integer" = true)
    (k_law_is_integer : PySem.W.keepIn K (.ref f_law_is_integer) = true)
    (a_law_rows : PySem.W.nsIn K mainGlobals "_law_rows" = some (some (.ref f_law_rows)))
    (l_law_rows : K.lookup f_law_rows = some ⟨oc_law_rows, od_law_rows, .func (PySem.W.fnOf "_law_rows" "_law_rows" (defArgs s_law_rows) (defBody s_law_rows) (defScope s_law_rows) .none kV_law_rows dc_law_rows pm_law_rows an_law_rows cd_law_rows ct_law_rows), sl_law_rows⟩)
    (c_law_rows : PySem.W.codeIn K cd_law_rows "_law_rows" = true)
    (k_law_rows : PySem.W.keepIn K (.ref f_law_rows) = true)
    (a_law_numbers : PySem.W.nsIn K mainGlobals "_law_numbers" = some (some (.ref f_law_numbers)))
    (l_law_numbers : K.lookup f_law_numbers = some ⟨oc_law_numbers, od_law_numbers, .func (PySem.W.fnOf "_law_numbers" "_law_numbers" (defArgs s_law_numbers) (defBody s_law_numbers) (defScope s_law_numbers) .none kV_law_numbers dc_law_numbers pm_law_numbers an_law_numbers cd_law_numbers ct_law_numbers), sl_law_numbers⟩)
    (c_law_numbers : PySem.W.codeIn K cd_law_numbers "_law_numbers" = true)
    (k_law_numbers : PySem.W.keepIn K (.ref f_law_numbers) = true)
    (a_law_fields : PySem.W.nsIn K mainGlobals "_law_fields" = some (some (.ref f_law_fields)))
    (l_law_fields : K.lookup f_law_fields = some ⟨oc_law_fields, od_law_fields, .func (PySem.W.fnOf "_law_fields" "_law_fields" (defArgs s_law_fields) (defBody s_law_fields) (defScope s_law_fields) .none kV_law_fields dc_law_fields pm_law_fields an_law_fields cd_law_fields ct_law_fields), sl_law_fields⟩)
    (c_law_fields : PySem.W.codeIn K cd_law_fields "_law_fields" = true)
    (k_law_fields : PySem.W.keepIn K (.ref f_law_fields) = true)
    (a_law_told : PySem.W.nsIn K mainGlobals "_law_told" = some (some (.ref f_law_told)))
    (l_law_told : K.lookup f_law_told = some ⟨oc_law_told, od_law_told, .func (PySem.W.fnOf "_law_told" "_law_told" (defArgs s_law_told) (defBody s_law_told) (defScope s_law_told) .none kV_law_told dc_law_told pm_law_told an_law_told cd_law_told ct_law_told), sl_law_told⟩)
    (c_law_told : PySem.W.codeIn K cd_law_told "_law_told" = true)
    (k_law_told : PySem.W.keepIn K (.ref f_law_told) = true)
    (a_law_due : PySem.W.nsIn K mainGlobals "_law_due" = some (some (.ref f_law_due)))
    (l_law_due : K.lookup f_law_due = some ⟨oc_law_due, od_law_due, .func (PySem.W.fnOf "_law_due" "_law_due" (defArgs s_law_due) (defBody s_law_due) (defScope s_law_due) .none kV_law_due dc_law_due pm_law_due an_law_due cd_law_due ct_law_due), sl_law_due⟩)
    (c_law_due : PySem.W.codeIn K cd_law_due "_law_due" = true)
    (k_law_due : PySem.W.keepIn K (.ref f_law_due) = true)
    (a_law_agrees : PySem.W.nsIn K mainGlobals "_law_agrees" = some (some (.ref f_law_agrees)))
    (l_law_agrees : K.lookup f_law_agrees = some ⟨oc_law_agrees, od_law_agrees, .func (PySem.W.fnOf "_law_agrees" "_law_agrees" (defArgs s_law_agrees) (defBody s_law_agrees) (defScope s_law_agrees) .none kV_law_agrees dc_law_agrees pm_law_agrees an_law_agrees cd_law_agrees ct_law_agrees), sl_law_agrees⟩)
    (c_law_agrees : PySem.W.codeIn K cd_law_agrees "_law_agrees" = true)
    (k_law_agrees : PySem.W.keepIn K (.ref f_law_agrees) = true)
    (a_law_copy : PySem.W.nsIn K mainGlobals "_law_copy" = some (some (.ref f_law_copy)))
    (l_law_copy : K.lookup f_law_copy = some ⟨oc_law_copy, od_law_copy, .func (PySem.W.fnOf "_law_copy" "_law_copy" (defArgs s_law_copy) (defBody s_law_copy) (defScope s_law_copy) .none kV_law_copy dc_law_copy pm_law_copy an_law_copy cd_law_copy ct_law_copy), sl_law_copy⟩)
    (c_law_copy : PySem.W.codeIn K cd_law_copy "_law_copy" = true)
    (k_law_copy : PySem.W.keepIn K (.ref f_law_copy) = true)
    (a_law : PySem.W.nsIn K mainGlobals "law" = some (some (.ref f_law)))
    (l_law : K.lookup f_law = some ⟨oc_law, od_law, .func (PySem.W.fnOf "law" "law" (defArgs s_law) (defBody s_law) (defScope s_law) .none kV_law dc_law pm_law an_law cd_law ct_law), sl_law⟩)
    (c_law : PySem.W.codeIn K cd_law "law" = true)
    (k_law : PySem.W.keepIn K (.ref f_law) = true)
    (q_HANDLES : PySem.W.nsIn K mainGlobals "HANDLES" = some (some (.int 16 t_HANDLES)))
    (n_bool : PySem.W.nsIn K mainGlobals "bool" = some none)
    (n_int : PySem.W.nsIn K mainGlobals "int" = some none)
    (n_isinstance : PySem.W.nsIn K mainGlobals "isinstance" = some none)
    (n_len : PySem.W.nsIn K mainGlobals "len" = some none)
    (n_list : PySem.W.nsIn K mainGlobals "list" = some none)
    (n_range : PySem.W.nsIn K mainGlobals "range" = some none)
    (n_sorted : PySem.W.nsIn K mainGlobals "sorted" = some none)
    : ∃ fd : FuncData, (∀ (s : Shared) (v : Value), BindsTo s fd ⟨[v], []⟩ [("script", v)]) ∧ ∀ base : Heap, K.In base → base.Ns mainGlobals mg → FnOk l.prog w K mg base CX0 5 fa fd ["script"] (spLaw K) := by
  have e := hfa.symm.trans (PySem.W.mg_of X G a_law)
  cases e
  have F_OpenFile___init : FunD K "__init__" "OpenFile.__init__" (defArgs s_OpenFile___init) (defBody s_OpenFile___init) (defScope s_OpenFile___init) [V.int 0] [] f_OpenFile___init _ := ⟨⟨_, _, _, _, _, _, _, _, _, _, rfl, l_OpenFile___init, c_OpenFile___init, .inr ⟨by simp, _, _, _, _, rfl, dl_OpenFile___init, rfl, (.cons ⟨_, rfl⟩ .nil)⟩, .inl rfl⟩, k_OpenFile___init⟩
  obtain ⟨ds_OpenFile___init_3, v_OpenFile___init_3, b_OpenFile___init_3⟩ := F_OpenFile___init.binds1 (ps := ["self", "number", "access", "reserved"]) 3 0 (by simp) rfl fun _ _ _ _ _ _ _ us its hl hi => match us, its, hl, hi with | [_, _, _], [_], _, _ => ⟨_, rfl, rfl⟩
  obtain ⟨ds_OpenFile___init_4, v_OpenFile___init_4, b_OpenFile___init_4⟩ := F_OpenFile___init.binds1 (ps := ["self", "number", "access", "reserved"]) 4 1 (by simp) rfl fun _ _ _ _ _ _ _ us its hl hi => match us, its, hl, hi with | [_, _, _, _], [_], _, _ => ⟨_, rfl, rfl⟩
  cases v_OpenFile___init_4
  have F_Handles___init := fun_mk (st := s_Handles___init) l_Handles___init c_Handles___init k_Handles___init
  have b_Handles___init := F_Handles___init.binds (ps := ["self"]) fun _ _ _ _ _ _ us hl => match us, hl with | [_], _ => rfl
  have F_Handles_check_free := fun_mk (st := s_Handles_check_free) l_Handles_check_free c_Handles_check_free k_Handles_check_free
  have b_Handles_check_free := F_Handles_check_free.binds (ps := ["self"]) fun _ _ _ _ _ _ us hl => match us, hl with | [_], _ => rfl
  have F_Handles_acquire := fun_mk (st := s_Handles_acquire) l_Handles_acquire c_Handles_acquire k_Handles_acquire
  have b_Handles_acquire := F_Handles_acquire.binds (ps := ["self", "number", "access"]) fun _ _ _ _ _ _ us hl => match us, hl with | [_, _, _], _ => rfl
  have F_Handles_get := fun_mk (st := s_Handles_get) l_Handles_get c_Handles_get k_Handles_get
  have b_Handles_get := F_Handles_get.binds (ps := ["self", "handle"]) fun _ _ _ _ _ _ us hl => match us, hl with | [_, _], _ => rfl
  have F_Handles_reading := fun_mk (st := s_Handles_reading) l_Handles_reading c_Handles_reading k_Handles_reading
  have b_Handles_reading := F_Handles_reading.binds (ps := ["self", "handle"]) fun _ _ _ _ _ _ us hl => match us, hl with | [_, _], _ => rfl
  have F_Handles_writing := fun_mk (st := s_Handles_writing) l_Handles_writing c_Handles_writing k_Handles_writing
  have b_Handles_writing := F_Handles_writing.binds (ps := ["self", "handle"]) fun _ _ _ _ _ _ us hl => match us, hl with | [_, _], _ => rfl
  have F_Handles_free := fun_mk (st := s_Handles_free) l_Handles_free c_Handles_free k_Handles_free
  have b_Handles_free := F_Handles_free.binds (ps := ["self", "handle"]) fun _ _ _ _ _ _ us hl => match us, hl with | [_, _], _ => rfl
  have F_Handles_reserve := fun_mk (st := s_Handles_reserve) l_Handles_reserve c_Handles_reserve k_Handles_reserve
  have b_Handles_reserve := F_Handles_reserve.binds (ps := ["self", "handle", "blocks"]) fun _ _ _ _ _ _ us hl => match us, hl with | [_, _, _], _ => rfl
  have F_Handles_opened_numbers := fun_mk (st := s_Handles_opened_numbers) l_Handles_opened_numbers c_Handles_opened_numbers k_Handles_opened_numbers
  have b_Handles_opened_numbers := F_Handles_opened_numbers.binds (ps := ["self"]) fun _ _ _ _ _ _ us hl => match us, hl with | [_], _ => rfl
  have F_Handles_fork := fun_mk (st := s_Handles_fork) l_Handles_fork c_Handles_fork k_Handles_fork
  have b_Handles_fork := F_Handles_fork.binds (ps := ["self"]) fun _ _ _ _ _ _ us hl => match us, hl with | [_], _ => rfl
  have F_copy_of_file := fun_mk (st := s_copy_of_file) l_copy_of_file c_copy_of_file k_copy_of_file
  have b_copy_of_file := F_copy_of_file.binds (ps := ["opened"]) fun _ _ _ _ _ _ us hl => match us, hl with | [_], _ => rfl
  have F_law_row := fun_mk (st := s_law_row) l_law_row c_law_row k_law_row
  have b_law_row := F_law_row.binds (ps := ["script", "k"]) fun _ _ _ _ _ _ us hl => match us, hl with | [_, _], _ => rfl
  have F_law_is_integer := fun_mk (st := s_law_is_integer) l_law_is_integer c_law_is_integer k_law_is_integer
  have b_law_is_integer := F_law_is_integer.binds (ps := ["actual"]) fun _ _ _ _ _ _ us hl => match us, hl with | [_], _ => rfl
  have F_law_rows := fun_mk (st := s_law_rows) l_law_rows c_law_rows k_law_rows
  have b_law_rows := F_law_rows.binds (ps := ["handles"]) fun _ _ _ _ _ _ us hl => match us, hl with | [_], _ => rfl
  have F_law_numbers := fun_mk (st := s_law_numbers) l_law_numbers c_law_numbers k_law_numbers
  have b_law_numbers := F_law_numbers.binds (ps := ["rows"]) fun _ _ _ _ _ _ us hl => match us, hl with | [_], _ => rfl
  have F_law_fields := fun_mk (st := s_law_fields) l_law_fields c_law_fields k_law_fields
  have b_law_fields := F_law_fields.binds (ps := ["file"]) fun _ _ _ _ _ _ us hl => match us, hl with | [_], _ => rfl
  have F_law_told := fun_mk (st := s_law_told) l_law_told c_law_told k_law_told
  have b_law_told := F_law_told.binds (ps := ["handles", "kind", "handle", "more", "access"]) fun _ _ _ _ _ _ us hl => match us, hl with | [_, _, _, _, _], _ => rfl
  have F_law_due := fun_mk (st := s_law_due) l_law_due c_law_due k_law_due
  have b_law_due := F_law_due.binds (ps := ["rows", "kind", "handle", "more", "access"]) fun _ _ _ _ _ _ us hl => match us, hl with | [_, _, _, _, _], _ => rfl
  have F_law_agrees := fun_mk (st := s_law_agrees) l_law_agrees c_law_agrees k_law_agrees
  have b_law_agrees := F_law_agrees.binds (ps := ["handles", "rows"]) fun _ _ _ _ _ _ us hl => match us, hl with | [_, _], _ => rfl
  have F_law_copy := fun_mk (st := s_law_copy) l_law_copy c_law_copy k_law_copy
  have b_law_copy := F_law_copy.binds (ps := ["rows"]) fun _ _ _ _ _ _ us hl => match us, hl with | [_], _ => rfl
  have F_law := fun_mk (st := s_law) l_law c_law k_law
  have b_law := F_law.binds (ps := ["script"]) fun _ _ _ _ _ _ us hl => match us, hl with | [_], _ => rfl
  let T : Txt K mg := {
    a_OpenFile___init := f_OpenFile___init,
    fd_OpenFile___init := _,
    F_OpenFile___init := F_OpenFile___init,
    b_OpenFile___init := b_OpenFile___init_4,
    ds_OpenFile___init_3 := ds_OpenFile___init_3,
    v_OpenFile___init_3 := v_OpenFile___init_3,
    b_OpenFile___init_3 := b_OpenFile___init_3,
    a_Handles___init := f_Handles___init,
    fd_Handles___init := _,
    F_Handles___init := F_Handles___init,
    b_Handles___init := b_Handles___init,
    a_Handles_check_free := f_Handles_check_free,
    fd_Handles_check_free := _,
    F_Handles_check_free := F_Handles_check_free,
    b_Handles_check_free := b_Handles_check_free,
    me_Handles_check_free := ⟨a_Handles_check_free, i_Handles_check_free, k_Handles_check_free⟩,
    a_Handles_acquire := f_Handles_acquire,
    fd_Handles_acquire := _,
    F_Handles_acquire := F_Handles_acquire,
    b_Handles_acquire := b_Handles_acquire,
    me_Handles_acquire := ⟨a_Handles_acquire, i_Handles_acquire, k_Handles_acquire⟩,
    a_Handles_get := f_Handles_get,
    fd_Handles_get := _,
    F_Handles_get := F_Handles_get,
    b_Handles_get := b_Handles_get,
    me_Handles_get := ⟨a_Handles_get, i_Handles_get, k_Handles_get⟩,
    a_Handles_reading := f_Handles_reading,
    fd_Handles_reading := _,
    F_Handles_reading := F_Handles_reading,
    b_Handles_reading := b_Handles_reading,
    me_Handles_reading := ⟨a_Handles_reading, i_Handles_reading, k_Handles_reading⟩,
    a_Handles_writing := f_Handles_writing,
    fd_Handles_writing := _,
    F_Handles_writing := F_Handles_writing,
    b_Handles_writing := b_Handles_writing,
    me_Handles_writing := ⟨a_Handles_writing, i_Handles_writing, k_Handles_writing⟩,
    a_Handles_free := f_Handles_free,
    fd_Handles_free := _,
    F_Handles_free := F_Handles_free,
    b_Handles_free := b_Handles_free,
    me_Handles_free := ⟨a_Handles_free, i_Handles_free, k_Handles_free⟩,
    a_Handles_reserve := f_Handles_reserve,
    fd_Handles_reserve := _,
    F_Handles_reserve := F_Handles_reserve,
    b_Handles_reserve := b_Handles_reserve,
    me_Handles_reserve := ⟨a_Handles_reserve, i_Handles_reserve, k_Handles_reserve⟩,
    a_Handles_opened_numbers := f_Handles_opened_numbers,
    fd_Handles_opened_numbers := _,
    F_Handles_opened_numbers := F_Handles_opened_numbers,
    b_Handles_opened_numbers := b_Handles_opened_numbers,
    me_Handles_opened_numbers := ⟨a_Handles_opened_numbers, i_Handles_opened_numbers, k_Handles_opened_numbers⟩,
    a_Handles_fork := f_Handles_fork,
    fd_Handles_fork := _,
    F_Handles_fork := F_Handles_fork,
    b_Handles_fork := b_Handles_fork,
    me_Handles_fork := ⟨a_Handles_fork, i_Handles_fork, k_Handles_fork⟩,
    a_copy_of_file := f_copy_of_file,
    fd_copy_of_file := _,
    F_copy_of_file := F_copy_of_file,
    b_copy_of_file := b_copy_of_file,
    m_copy_of_file := PySem.W.mg_of X G a_copy_of_file,
    a_law_row := f_law_row,
    fd_law_row := _,
    F_law_row := F_law_row,
    b_law_row := b_law_row,
    m_law_row := PySem.W.mg_of X G a_law_row,
    a_law_is_integer := f_law_is_integer,
    fd_law_is_integer := _,
    F_law_is_integer := F_law_is_integer,
    b_law_is_integer := b_law_is_integer,
    m_law_is_integer := PySem.W.mg_of X G a_law_is_integer,
    a_law_rows := f_law_rows,
    fd_law_rows := _,
    F_law_rows := F_law_rows,
    b_law_rows := b_law_rows,
    m_law_rows := PySem.W.mg_of X G a_law_rows,
    a_law_numbers := f_law_numbers,
    fd_law_numbers := _,
    F_law_numbers := F_law_numbers,
    b_law_numbers := b_law_numbers,
    m_law_numbers := PySem.W.mg_of X G a_law_numbers,
    a_law_fields := f_law_fields,
    fd_law_fields := _,
    F_law_fields := F_law_fields,
    b_law_fields := b_law_fields,
    m_law_fields := PySem.W.mg_of X G a_law_fields,
    a_law_told := f_law_told,
    fd_law_told := _,
    F_law_told := F_law_told,
    b_law_told := b_law_told,
    m_law_told := PySem.W.mg_of X G a_law_told,
    a_law_due := f_law_due,
    fd_law_due := _,
    F_law_due := F_law_due,
    b_law_due := b_law_due,
    m_law_due := PySem.W.mg_of X G a_law_due,
    a_law_agrees := f_law_agrees,
    fd_law_agrees := _,
    F_law_agrees := F_law_agrees,
    b_law_agrees := b_law_agrees,
    m_law_agrees := PySem.W.mg_of X G a_law_agrees,
    a_law_copy := f_law_copy,
    fd_law_copy := _,
    F_law_copy := F_law_copy,
    b_law_copy := b_law_copy,
    m_law_copy := PySem.W.mg_of X G a_law_copy,
    a_law := fa,
    fd_law := _,
    F_law := F_law,
    b_law := b_law,
    m_law := PySem.W.mg_of X G a_law,
    A_BadHandle := X_BadHandle,
    m_BadHandle := PySem.W.mg_of X G mX_BadHandle,
    A_TooManyOpen := X_TooManyOpen,
    m_TooManyOpen := PySem.W.mg_of X G mX_TooManyOpen,
    A_SegmentError := X_SegmentError,
    m_SegmentError := PySem.W.mg_of X G mX_SegmentError,
    x_BadHandle := xx_BadHandle,
    k_BadHandle := xk_BadHandle,
    b_BadHandle := xb_BadHandle,
    t_BadHandle := xt_BadHandle,
    e_BadHandle := ⟨xga_BadHandle, xgt_BadHandle, xb_BadHandle, xhd_BadHandle, xca_BadHandle, xsp, xtk, xmr_BadHandle⟩,
    x_TooManyOpen := xx_TooManyOpen,
    k_TooManyOpen := xk_TooManyOpen,
    b_TooManyOpen := xb_TooManyOpen,
    t_TooManyOpen := xt_TooManyOpen,
    e_TooManyOpen := ⟨xga_TooManyOpen, xgt_TooManyOpen, xb_TooManyOpen, xhd_TooManyOpen, xca_TooManyOpen, xsp, xtk, xmr_TooManyOpen⟩,
    ex_BadHandle_SegmentError := PySem.W.exm_ref xb_SegmentError xhd_SegmentError xt_SegmentError xs_BadHandle_SegmentError,
    ex_TooManyOpen_SegmentError := PySem.W.exm_ref xb_SegmentError xhd_SegmentError xt_SegmentError xs_TooManyOpen_SegmentError,
    kit_BadHandle_BadHandle := kit_own xhd_BadHandle xt_BadHandle xs_BadHandle_BadHandle (.inl rfl),
    kit_BadHandle_TooManyOpen := kit_own xhd_TooManyOpen xt_TooManyOpen xs_BadHandle_TooManyOpen (.inr xn_BadHandle_TooManyOpen),
    kit_TooManyOpen_BadHandle := kit_own xhd_BadHandle xt_BadHandle xs_TooManyOpen_BadHandle (.inr xn_TooManyOpen_BadHandle),
    kit_TooManyOpen_TooManyOpen := kit_own xhd_TooManyOpen xt_TooManyOpen xs_TooManyOpen_TooManyOpen (.inl rfl),
    A_OpenFile := C_OpenFile,
    m_OpenFile := PySem.W.mg_of X G mC_OpenFile,
    cl_OpenFile := ⟨pg_OpenFile, hd_OpenFile, po_OpenFile, sa_OpenFile⟩,
    M_OpenFile := ⟨mk_OpenFile, a_OpenFile___init, i_OpenFile___init, kc_OpenFile⟩,
    na_OpenFile_number := na_OpenFile_number,
    na_OpenFile_access := na_OpenFile_access,
    na_OpenFile_reserved := na_OpenFile_reserved,
    mo_OpenFile := mo_OpenFile,
    oe_OpenFile := oe_OpenFile,
    A_Handles := C_Handles,
    m_Handles := PySem.W.mg_of X G mC_Handles,
    cl_Handles := ⟨pg_Handles, hd_Handles, po_Handles, sa_Handles⟩,
    M_Handles := ⟨mk_Handles, a_Handles___init, i_Handles___init, kc_Handles⟩,
    na_Handles_files := na_Handles_files,
    t_HANDLES := t_HANDLES,
    c_HANDLES := PySem.W.mg_of X G q_HANDLES,
    r_HANDLES := ⟨_, rfl⟩,
    n_bool := PySem.W.mg_none_of X G n_bool,
    n_int := PySem.W.mg_none_of X G n_int,
    n_isinstance := PySem.W.mg_none_of X G n_isinstance,
    n_len := PySem.W.mg_none_of X G n_len,
    n_list := PySem.W.mg_none_of X G n_list,
    n_range := PySem.W.mg_none_of X G n_range,
    n_sorted := PySem.W.mg_none_of X G n_sorted }
  exact ⟨_, fun s v => .of_eq rfl, fun base _ _ => ok_law T⟩
theorem walk {l : PySem.W.OpenLaw} {q : Program} {loose : List Str} {XP : (Str → Option Value) → Heap → Prop} {YP : World → Heap → Prop} {d : DefRec} {K : Params → PySem.W.Frag} (hn : l.most = some 63) (hdf : d.params.defaults = [])
    (hY : ∀ (w : World) (h : Heap), YP w h → (K w.params).In h)
    (F : ∀ (w : World) (mg : Str → Option Value) (fa : Addr) (h : Heap), (K w.params).In h → h.Ns mainGlobals mg → mg d.name = some (.ref fa) →
      ∃ fd : FuncData, (∀ (s : Shared) (u : Value), BindsTo s fd ⟨[u], []⟩ [("script", u)]) ∧ ∀ base : Heap, (K w.params).In base → base.Ns mainGlobals mg → FnOk l.prog w (K w.params) mg base CX0 5 fa fd ["script"] (spLaw (K w.params))) :
    PySem.W.WalkO q loose XP YP l.row.toRowW d [] (fun f vs => PySem.call f vs) :=
  L2.walk_of (n := 63) (k := 5) (x := "script") (CX := fun _ => CX0) (sp := fun w => spLaw (K w.params)) hn (by decide) hdf ⟨rfl, by decide, by decide⟩ hY F (fun _ _ a ns hl hO hS => ⟨a, ns, rfl, hS, hl, fun _ => rfl⟩) fun _ _ _ _ _ z => z
end Sg

open PySem PySem.W PyProof.Rows in
set_option maxRecDepth 100000 in
set_option maxHeartbeats 0 in
theorem PySem.Challenge.cw_segmentfs_k61_handles_by_a_list_holds : PySem.Challenge.rw_segmentfs_k61_handles_by_a_list.Holds := by
  w_on; o_law; k_head; (case hw => w_witness2)
  k_fill
  refine Sg.walk (l := PySem.Challenge.rw_segmentfs_k61_handles_by_a_list) rfl rfl (fun w h Y => PySem.W.kIn_of Y) ?F
  case F =>
    intro w mg fa h KX G hmg
    refine' Sg.all_mk KX G hmg ?mX_BadHandle ?mX_TooManyOpen ?mX_SegmentError ?xx_BadHandle ?xk_BadHandle ?xb_BadHandle ?xt_BadHandle ?xga_BadHandle ?xgt_BadHandle ?xhd_BadHandle ?xca_BadHandle ?xmr_BadHandle ?xx_TooManyOpen ?xk_TooManyOpen ?xb_TooManyOpen ?xt_TooManyOpen ?xga_TooManyOpen ?xgt_TooManyOpen ?xhd_TooManyOpen ?xca_TooManyOpen ?xmr_TooManyOpen ?xsp ?xtk ?xhd_SegmentError ?xt_SegmentError ?xb_SegmentError ?xs_BadHandle_BadHandle ?xs_BadHandle_SegmentError ?xs_BadHandle_TooManyOpen ?xn_BadHandle_TooManyOpen ?xs_TooManyOpen_BadHandle ?xn_TooManyOpen_BadHandle ?xs_TooManyOpen_SegmentError ?xs_TooManyOpen_TooManyOpen ?mC_OpenFile ?pg_OpenFile ?hd_OpenFile ?po_OpenFile ?sa_OpenFile ?mk_OpenFile ?kc_OpenFile ?na_OpenFile_number ?na_OpenFile_access ?na_OpenFile_reserved ?mo_OpenFile ?oe_OpenFile ?mC_Handles ?pg_Handles ?hd_Handles ?po_Handles ?sa_Handles ?mk_Handles ?kc_Handles ?na_Handles_files ?a_OpenFile___init ?i_OpenFile___init ?l_OpenFile___init ?dl_OpenFile___init ?c_OpenFile___init ?k_OpenFile___init ?a_Handles___init ?i_Handles___init ?l_Handles___init ?c_Handles___init ?k_Handles___init ?a_Handles_check_free ?i_Handles_check_free ?l_Handles_check_free ?c_Handles_check_free ?k_Handles_check_free ?a_Handles_acquire ?i_Handles_acquire ?l_Handles_acquire ?c_Handles_acquire ?k_Handles_acquire ?a_Handles_get ?i_Handles_get ?l_Handles_get ?c_Handles_get ?k_Handles_get ?a_Handles_reading ?i_Handles_reading ?l_Handles_reading ?c_Handles_reading ?k_Handles_reading ?a_Handles_writing ?i_Handles_writing ?l_Handles_writing ?c_Handles_writing ?k_Handles_writing ?a_Handles_free ?i_Handles_free ?l_Handles_free ?c_Handles_free ?k_Handles_free ?a_Handles_reserve ?i_Handles_reserve ?l_Handles_reserve ?c_Handles_reserve ?k_Handles_reserve ?a_Handles_opened_numbers ?i_Handles_opened_numbers ?l_Handles_opened_numbers ?c_Handles_opened_numbers ?k_Handles_opened_numbers ?a_Handles_fork ?i_Handles_fork ?l_Handles_fork ?c_Handles_fork ?k_Handles_fork ?a_copy_of_file ?l_copy_of_file ?c_copy_of_file ?k_copy_of_file ?a_law_row ?l_law_row ?c_law_row ?k_law_row ?a_law_is_integer ?l_law_is_integer ?c_law_is_integer ?k_law_is_integer ?a_law_rows ?l_law_rows ?c_law_rows ?k_law_rows ?a_law_numbers ?l_law_numbers ?c_law_numbers ?k_law_numbers ?a_law_fields ?l_law_fields ?c_law_fields ?k_law_fields ?a_law_told ?l_law_told ?c_law_told ?k_law_told ?a_law_due ?l_law_due ?c_law_due ?k_law_due ?a_law_agrees ?l_law_agrees ?c_law_agrees ?k_law_agrees ?a_law_copy ?l_law_copy ?c_law_copy ?k_law_copy ?a_law ?l_law ?c_law ?k_law ?q_HANDLES ?n_bool ?n_int ?n_isinstance ?n_len ?n_list ?n_range ?n_sorted
    (case mX_BadHandle => k_is)
    (case mX_TooManyOpen => k_is)
    (case mX_SegmentError => k_is)
    (case xx_BadHandle => k_exc)
    (case xk_BadHandle => k_is)
    (case xb_BadHandle => k_is)
    (case xt_BadHandle => k_is)
    (case xga_BadHandle => k_is)
    (case xgt_BadHandle => k_is)
    (case xhd_BadHandle => k_is)
    (case xca_BadHandle => k_is)
    (case xmr_BadHandle => k_is)
    (case xx_TooManyOpen => k_exc)
    (case xk_TooManyOpen => k_is)
    (case xb_TooManyOpen => k_is)
    (case xt_TooManyOpen => k_is)
    (case xga_TooManyOpen => k_is)
    (case xgt_TooManyOpen => k_is)
    (case xhd_TooManyOpen => k_is)
    (case xca_TooManyOpen => k_is)
    (case xmr_TooManyOpen => k_is)
    (case xsp => k_is)
    (case xtk => k_is)
    (case xhd_SegmentError => k_is)
    (case xt_SegmentError => k_is)
    (case xb_SegmentError => k_is)
    (case xs_BadHandle_BadHandle => first | rfl | k_is)
    (case xs_BadHandle_SegmentError => first | rfl | k_is)
    (case xs_BadHandle_TooManyOpen => first | rfl | k_is)
    (case xn_BadHandle_TooManyOpen => first | rfl | decide +kernel)
    (case xs_TooManyOpen_BadHandle => first | rfl | k_is)
    (case xn_TooManyOpen_BadHandle => first | rfl | decide +kernel)
    (case xs_TooManyOpen_SegmentError => first | rfl | k_is)
    (case xs_TooManyOpen_TooManyOpen => first | rfl | k_is)
    (case mC_OpenFile => k_is)
    (case pg_OpenFile => k_is)
    (case hd_OpenFile => k_is)
    (case po_OpenFile => k_is)
    (case sa_OpenFile => k_is)
    (case mk_OpenFile => k_is)
    (case kc_OpenFile => k_is)
    (case na_OpenFile_number => k_is)
    (case na_OpenFile_access => k_is)
    (case na_OpenFile_reserved => k_is)
    (case mo_OpenFile => k_is)
    (case oe_OpenFile => k_is)
    (case mC_Handles => k_is)
    (case pg_Handles => k_is)
    (case hd_Handles => k_is)
    (case po_Handles => k_is)
    (case sa_Handles => k_is)
    (case mk_Handles => k_is)
    (case kc_Handles => k_is)
    (case na_Handles_files => k_is)
    (case a_OpenFile___init => k_is)
    (case i_OpenFile___init => k_is)
    (case l_OpenFile___init => k_is)
    (case dl_OpenFile___init => k_is)
    (case c_OpenFile___init => k_is)
    (case k_OpenFile___init => k_is)
    (case a_Handles___init => k_is)
    (case i_Handles___init => k_is)
    (case l_Handles___init => k_is)
    (case c_Handles___init => k_is)
    (case k_Handles___init => k_is)
    (case a_Handles_check_free => k_is)
    (case i_Handles_check_free => k_is)
    (case l_Handles_check_free => k_is)
    (case c_Handles_check_free => k_is)
    (case k_Handles_check_free => k_is)
    (case a_Handles_acquire => k_is)
    (case i_Handles_acquire => k_is)
    (case l_Handles_acquire => k_is)
    (case c_Handles_acquire => k_is)
    (case k_Handles_acquire => k_is)
    (case a_Handles_get => k_is)
    (case i_Handles_get => k_is)
    (case l_Handles_get => k_is)
    (case c_Handles_get => k_is)
    (case k_Handles_get => k_is)
    (case a_Handles_reading => k_is)
    (case i_Handles_reading => k_is)
    (case l_Handles_reading => k_is)
    (case c_Handles_reading => k_is)
    (case k_Handles_reading => k_is)
    (case a_Handles_writing => k_is)
    (case i_Handles_writing => k_is)
    (case l_Handles_writing => k_is)
    (case c_Handles_writing => k_is)
    (case k_Handles_writing => k_is)
    (case a_Handles_free => k_is)
    (case i_Handles_free => k_is)
    (case l_Handles_free => k_is)
    (case c_Handles_free => k_is)
    (case k_Handles_free => k_is)
    (case a_Handles_reserve => k_is)
    (case i_Handles_reserve => k_is)
    (case l_Handles_reserve => k_is)
    (case c_Handles_reserve => k_is)
    (case k_Handles_reserve => k_is)
    (case a_Handles_opened_numbers => k_is)
    (case i_Handles_opened_numbers => k_is)
    (case l_Handles_opened_numbers => k_is)
    (case c_Handles_opened_numbers => k_is)
    (case k_Handles_opened_numbers => k_is)
    (case a_Handles_fork => k_is)
    (case i_Handles_fork => k_is)
    (case l_Handles_fork => k_is)
    (case c_Handles_fork => k_is)
    (case k_Handles_fork => k_is)
    (case a_copy_of_file => k_is)
    (case l_copy_of_file => k_is)
    (case c_copy_of_file => k_is)
    (case k_copy_of_file => k_is)
    (case a_law_row => k_is)
    (case l_law_row => k_is)
    (case c_law_row => k_is)
    (case k_law_row => k_is)
    (case a_law_is_integer => k_is)
    (case l_law_is_integer => k_is)
    (case c_law_is_integer => k_is)
    (case k_law_is_integer => k_is)
    (case a_law_rows => k_is)
    (case l_law_rows => k_is)
    (case c_law_rows => k_is)
    (case k_law_rows => k_is)
    (case a_law_numbers => k_is)
    (case l_law_numbers => k_is)
    (case c_law_numbers => k_is)
    (case k_law_numbers => k_is)
    (case a_law_fields => k_is)
    (case l_law_fields => k_is)
    (case c_law_fields => k_is)
    (case k_law_fields => k_is)
    (case a_law_told => k_is)
    (case l_law_told => k_is)
    (case c_law_told => k_is)
    (case k_law_told => k_is)
    (case a_law_due => k_is)
    (case l_law_due => k_is)
    (case c_law_due => k_is)
    (case k_law_due => k_is)
    (case a_law_agrees => k_is)
    (case l_law_agrees => k_is)
    (case c_law_agrees => k_is)
    (case k_law_agrees => k_is)
    (case a_law_copy => k_is)
    (case l_law_copy => k_is)
    (case c_law_copy => k_is)
    (case k_law_copy => k_is)
    (case a_law => k_is)
    (case l_law => k_is)
    (case c_law => k_is)
    (case k_law => k_is)
    (case q_HANDLES => k_is)
    (case n_bool => k_is)
    (case n_int => k_is)
    (case n_isinstance => k_is)
    (case n_len => k_is)
    (case n_list => k_is)
    (case n_range => k_is)
    (case n_sorted => k_is)

