import PyProof.Rows.All
import Wide.All
import OpenK.AllK
import Wide.FinOn
import HandS.ForMost
import HandS.IsInst
import HandS.Style
import HandS.Wide
import HandS.Codes
import HandS.NoneIn
import HandS.Defaults
import HandS.TupMul
import HandS.Zip
import HandS.SetFor
import HandS.SetKeys
import HandS.Walk
import HandS.Codes
import HandS.Property
import HandS.MakeKw
import HandS.More
import HandS.Dict
import HandS.Iter
import HandS.WordsDict
import KE.GoesEnum
import PySem.Challenge.RW_segmentfs_k33_store_by_a_plain_dict
set_option Elab.async false
set_option maxRecDepth 100000
set_option maxHeartbeats 4000000
/-! what every text of mine begins with: heaps that grow, and a rule for each head that a reading has -/
namespace Sg
open PySem L2
theorem sz : sizeLine = 16777216 := by decide
theorem Same.of_new {H H' : Hp} {p : Addr} {o : HO} (e : upd H p o = H') (h : H p = none) : Same H H' := fun b u q => by
  rw [← e, upd_ne (ne_of_none q h)]; exact q
theorem at_new {H H' : Hp} {p : Addr} {o : HO} (e : upd H p o = H') : H' p = some o := by rw [← e]; exact upd_same
theorem Same.tup {K : PySem.W.Frag} {H H' : Hp} {a : Addr} {xs : List V} (e : Same H H') (h : SqT K H a xs) : SqT K H' a xs := by
  rcases h with (h | ⟨o, h⟩) | h
  · exact .inl (.inl (e _ _ h))
  · exact .inl (.inr ⟨o, e _ _ h⟩)
  · exact .inr h
/-- an object that is younger than H0 is changed -/
theorem Same.old {H0 H H' : Hp} {p : Addr} {o : HO} (s : Same H0 H) (h : H0 p = none) (e : upd H p o = H') : Same H0 H' := fun b u q => by
  rw [← e, upd_ne (ne_of_none q h)]; exact s _ _ q
theorem at_keep {H H' : Hp} {l a : Addr} {o o' ol : HO} (e : upd H l o' = H') (h : H a = some o) (h' : H l = some ol) (d : o ≠ ol) : H' a = some o := by
  rw [← e, upd_ne (ne_of h h' d)]; exact h
theorem lk_eq {f : Str} {v : V} {fs : List (Str × V)} : (putF f v fs).lookup f = some v := by rw [lookup_putF, if_pos rfl]
theorem lk_ne {f g : Str} {v x : V} {fs : List (Str × V)} (h : ¬ g = f) (q : fs.lookup g = some v) : (putF f x fs).lookup g = some v := by rw [lookup_putF, if_neg h]; exact q
theorem lk_no {f g : Str} {x : V} {fs : List (Str × V)} (h : ¬ g = f) (q : fs.lookup g = none) : (putF f x fs).lookup g = none := by rw [lookup_putF, if_neg h]; exact q
theorem putF_len {f : Str} {v : V} : ∀ {fs : List (Str × V)} {n : Nat}, fs.length ≤ n → (putF f v fs).length ≤ n + 1
  | [], n, _ => by simp [putF]
  | (g, x) :: r, n, h => by
    unfold putF
    split
    · simp at h ⊢; omega
    · cases n with
      | zero => simp at h
      | succ n =>
        simp at h ⊢
        exact putF_len h
theorem to_ite {A B : Prop} {b : Bool} (h1 : b = true → A) (h2 : b = false → B) : if b = true then A else B := by
  cases b with
  | true => exact iteT (h1 rfl)
  | false => exact iteF (h2 rfl)
theorem iteT' {A B : Prop} (h : A) : if (true : Bool) = true then A else B := iteT h
theorem iteF' {A B : Prop} (h : B) : if (false : Bool) = true then A else B := iteF h
theorem r_iteb {A B : Prop} {b : Bool} (hb : b = true) (h : A) : if b = true then A else B := to_ite (fun _ => h) fun z => by rw [hb] at z; cases z
theorem r_iteB {A B : Prop} {b : Bool} (hb : b = false) (h : B) : if b = true then A else B := to_ite (fun z => by rw [hb] at z; cases z) fun _ => h
theorem r_ite {A B c : Prop} [Decidable c] (h1 : c → A) (h2 : ¬ c → B) : if decide c = true then A else B :=
  to_ite (fun h => h1 (of_decide_eq_true h)) (fun h => h2 (of_decide_eq_false h))
theorem r_iteN {A B c : Prop} [Decidable c] (h1 : ¬ c → A) (h2 : c → B) : if (!decide c) = true then A else B :=
  to_ite (fun h => h1 (by simpa using h)) (fun h => h2 (by simpa using h))
theorem r_iteD {A B c : Prop} [Decidable c] (hc : c) (h : A) : if decide c = true then A else B := r_ite (fun _ => h) fun z => absurd hc z
theorem r_iteDn {A B c : Prop} [Decidable c] (hc : ¬ c) (h : B) : if decide c = true then A else B := r_ite (fun z => absurd z hc) fun _ => h
theorem r_iteND {A B c : Prop} [Decidable c] (hc : ¬ c) (h : A) : if (!decide c) = true then A else B := r_iteN (fun _ => h) fun z => absurd z hc
theorem r_iteNDn {A B c : Prop} [Decidable c] (hc : c) (h : B) : if (!decide c) = true then A else B := r_iteN (fun z => absurd hc z) fun _ => h
/-- the continuations of a reading, by name -/
def kTest (QB : Bool → Hp → Prop) : V → Hp → Prop := fun x H => ∃ k, x = .bl k ∧ QB k H
def kFld (K : PySem.W.Frag) (f : Str) (Q : V → Hp → Prop) : V → Hp → Prop := fun x H => ∃ a C dx fs v, x = .ref a ∧ H a = some (.ins C dx fs) ∧ Cls K C ∧ NoAttr K C f ∧ fs.lookup f = some v ∧ Q v H
def kSfld (K : PySem.W.Frag) (D : Ends) (σ : L2.St) (f : Str) (y : V) : V → Hp → Prop := fun x H => ∃ a C dx fs, x = .ref a ∧ H a = some (.ins C dx fs) ∧ Cls K C ∧ NoAttr K C f ∧ fs.length < 1000 ∧
  D.nx σ (upd H a (.ins C dx (putF f y fs)))
def kMeth (C : Addr) (m : Str) (sp : Sp) (dvs : List V) (E : XK) (σ : L2.St) (t : TA) (Q : V → Hp → Prop) : V → Hp → Prop := fun x H => ∃ a dx fs, x = .ref a ∧ H a = some (.ins C dx fs) ∧ fs.lookup m = none ∧ t σ H fun vs H2 => sp (x :: (vs ++ dvs)) H2 Q E
def kTup (Q : V → Hp → Prop) : List V → Hp → Prop := fun xs H => xs.length ≤ sizeLine ∧ ∀ p, H p = none → Q (.ref p) (upd H p (.tup xs))
def kLst (Q : V → Hp → Prop) : List V → Hp → Prop := fun xs H => xs.length ≤ sizeLine ∧ ∀ p, H p = none → Q (.ref p) (upd H p (.lst xs))
def rLen (K : PySem.W.Frag) : List V → Hp → (V → Hp → Prop) → Prop := fun xs H Q => ∃ p ys, xs = [.ref p] ∧ (SqL K H p ys ∨ SqT K H p ys) ∧ Q (.int ys.length) H
theorem c_len {X : Cx} : CallR X (.builtin "len") (rLen X.K) := call_len_seq
def rInt : List V → Hp → (V → Hp → Prop) → Prop := fun xs H Q => (∃ i, xs = [.int i] ∧ Q (.int i) H) ∨ ∃ k, xs = [.bl k] ∧ Q (.int (if k then 1 else 0)) H
theorem c_int {X : Cx} : CallR X (.type "int") rInt := call_int1
def rListOf (K : PySem.W.Frag) : List V → Hp → (V → Hp → Prop) → Prop := fun xs H Q => ∃ p ys, xs = [.ref p] ∧ (SqL K H p ys ∨ SqT K H p ys) ∧ ∀ l, H l = none → Q (.ref l) (upd H l (.lst ys))
theorem c_list {X : Cx} : CallR X (.type "list") (rListOf X.K) := call_list_of
def rTupOf (K : PySem.W.Frag) : List V → Hp → (V → Hp → Prop) → Prop := fun xs H Q => ∃ p ys, xs = [.ref p] ∧ ((SqL K H p ys ∧ ∀ l, H l = none → Q (.ref l) (upd H l (.tup ys))) ∨ (SqT K H p ys ∧ Q (.ref p) H))
theorem c_tuple {X : Cx} : CallR X (.type "tuple") (rTupOf X.K) := call_tuple_of
/-! the same rules within a comprehension: the written part by its own name -/
section
variable {X : Cx}
theorem c_listK (K : PySem.W.Frag) (h : X.K = K) : CallR X (.type "list") (rListOf K) := by subst h; exact c_list
theorem c_tupleK (K : PySem.W.Frag) (h : X.K = K) : CallR X (.type "tuple") (rTupOf K) := by subst h; exact c_tuple
theorem c_lenK (K : PySem.W.Frag) (h : X.K = K) : CallR X (.builtin "len") (rLen K) := by subst h; exact c_len
theorem ix_listK (K : PySem.W.Frag) (h : X.K = K) : IxR X (rIxL K) := by subst h; exact ix_list
theorem ix_tupK (K : PySem.W.Frag) (h : X.K = K) : IxR X (rIxT K) := by subst h; exact ix_tup
theorem op_in_seqK (K : PySem.W.Frag) (h : X.K = K) : OpR X (compareOp .In) (rIn K false) := by subst h; exact op_in_seq
theorem op_notIn_seqK (K : PySem.W.Frag) (h : X.K = K) : OpR X (compareOp .NotIn) (rIn K true) := by subst h; exact op_notIn_seq
theorem pe_fldK (K : PySem.W.Frag) (h : X.K = K) {e : Expr} {f : Str} {pos : Pos} {ta : TE} (he : PE X e ta) (hb : attributeBase e f X.env (eval e X.env) = eval e X.env) : PE X (.Attribute e f pos) (tFld K ta f) := by subst h; exact pe_fld he hb
end
section
variable {σ : L2.St} {H : Hp} {D : Ends} {t u : TS} {te ta tb tc : TE} {g : TG} {c ct cu : TT} {Q : VK} {QB : Bool → Hp → Prop} {QS : L2.St → Hp → Prop} {QA : List V → Hp → Prop} {v x y : V} {K : PySem.W.Frag} {a p l : Addr} {xs ys : List V} {i j : Int} {b : Bool}
theorem r_seq (h : t { D with nx := u D } σ H) : tSeq t u D σ H := h
theorem r_cut (Mid : L2.St → Hp → Prop) (h1 : t { D with nx := Mid } σ H) (h2 : ∀ σ' H', Mid σ' H' → u D σ' H') : C8.tCut t u D σ H := ⟨Mid, h1, h2⟩
/-- a test with nothing kept behind it -/
theorem r_cutS (h1 : t { D with nx := fun σ' H' => σ = σ' ∧ H = H' } σ H) (h2 : u D σ H) : C8.tCut t u D σ H := ⟨_, h1, fun _ _ ⟨e1, e2⟩ => by subst e1; subst e2; exact h2⟩
/-- .. but a heap that grew -/
theorem r_cutH (h1 : t { D with nx := fun σ' H' => σ = σ' ∧ L2.Same H H' } σ H) (h2 : ∀ H', L2.Same H H' → u D σ H') : C8.tCut t u D σ H := ⟨_, h1, fun _ _ ⟨e1, e2⟩ => by subst e1; exact h2 _ e2⟩
theorem r_asg (h : te σ H fun x H1 => g x σ H1 D.nx) : tAsg te g D σ H := h
theorem r_drop (h : te σ H fun _ H1 => D.nx σ H1) : tDrop te D σ H := h
theorem r_ret (h : te σ H D.rt) : tRet te D σ H := h
theorem r_ifs (h : c σ H fun b H1 => if b = true then t D σ H1 else u D σ H1) : tIfS c t u D σ H := h
theorem r_next (h : D.nx σ H) : tNext D σ H := h
theorem r_gname {n : Nat} (h : QS (σ.set n (some v)) H) : gName n v σ H QS := h
theorem r_gtup {n : Nat} {t : TGs} (hx : SqT K H a xs) (hl : xs.length = n) (h : t xs σ H QS) : gTup K n t (.ref a) σ H QS := ⟨a, xs, rfl, hx, hl, h⟩
theorem r_gunl {n : Nat} {t : TGs} (hx : SqL K H a xs) (hl : xs.length = n) (h : t xs σ H QS) : gUnl K n t (.ref a) σ H QS := ⟨a, xs, rfl, hx, hl, h⟩
theorem r_chain {r r' : R2} (h : ta σ H fun x H1 => tb σ H1 fun y H2 => r x y H2 fun z H3 => ∃ k, z = .bl k ∧ (if k = true then tc σ H3 fun w' H4 => r' y w' H4 Q else Q (.bl false) H3)) : tChain r r' ta tb tc σ H Q := h
theorem r_sfldL {C dx : Addr} {fs : List (Str × V)} {f : Str} (h : H a = some (.ins C dx fs)) (hc : Cls K C) (hn : NoAttr K C f) (hl : fs.length < 1000) (q : D.nx σ (upd H a (.ins C dx (putF f y fs)))) : kSfld K D σ f y (.ref a) H := ⟨a, C, dx, fs, rfl, h, hc, hn, hl, q⟩
theorem r_gmap {α : Type} {f : α → V} {y : α} {r : List α} {t : TG} {u : TGs} (h : t (f y) σ H fun σ' H' => u (List.map f r) σ' H' QS) : gCons t u (List.map f (y :: r)) σ H QS := ⟨_, _, rfl, h⟩
theorem r_gmapn {α : Type} {f : α → V} (h : QS σ H) : gNil (List.map f []) σ H QS := ⟨rfl, h⟩
theorem r_gnil (h : QS σ H) : gNil [] σ H QS := ⟨rfl, h⟩
theorem r_gcons {t : TG} {u : TGs} {r : List V} (h : t v σ H fun σ' H' => u r σ' H' QS) : gCons t u (v :: r) σ H QS := ⟨v, r, rfl, h⟩
theorem r_gsub {t : TSet} (h : ta σ H fun o H1 => tb σ H1 fun i H2 => t o i v H2 fun H3 => QS σ H3) : gSub ta tb t v σ H QS := h
theorem r_setl {k : Int} {n : Nat} {R : Hp → Prop} (h1 : H p = some (.lst xs)) (h2 : ixN xs.length k = some n) (q : R (upd H p (.lst (xs.set n v)))) : rSetL (.ref p) (.int k) v H R := ⟨p, xs, k, n, rfl, rfl, h1, h2, q⟩
theorem r_var {n : Nat} (h : σ[n]? = some (some v)) (q : Q v H) : tVar n σ H Q := ⟨v, h, q⟩
theorem r_c (q : Q v H) : tC v σ H Q := q
theorem r_op {r : R2} (h : ta σ H fun x H1 => tb σ H1 fun y H2 => r x y H2 Q) : tOp r ta tb σ H Q := h
theorem r_un {r : V → Hp → VK → Prop} (h : ta σ H fun x H1 => r x H1 Q) : tUn r ta σ H Q := h
theorem r_rI {C : Int → Int → Prop} {g : Int → Int → V} (hc : C i j) (q : Q (g i j) H) : rI C g (.int i) (.int j) H Q := ⟨i, j, rfl, rfl, hc, q⟩
theorem r_mod (hc : 0 < j) (q : ∀ z : Int, z = i % j → 0 ≤ z → z < j → Q (.int z) H) : rI (fun _ j => 0 < j) (fun i j => .int (i % j)) (.int i) (.int j) H Q :=
  ⟨i, j, rfl, rfl, hc, q _ rfl (Int.emod_nonneg i (by omega)) (Int.emod_lt_of_pos i hc)⟩
theorem r_rI0 {g : Int → Int → V} (q : Q (g i j) H) : rI0 g (.int i) (.int j) H Q := ⟨i, j, rfl, rfl, q⟩
theorem r_rU {g : Int → V} (q : Q (g i) H) : rU g (.int i) H Q := ⟨i, rfl, q⟩
theorem r_eq (hs : scal x y = true) (q : Q (.bl (decide (x = y))) H) : rEq x y H Q := ⟨hs, q⟩
theorem r_ne (hs : scal x y = true) (q : Q (.bl (!decide (x = y))) H) : rNe x y H Q := ⟨hs, q⟩
theorem r_eqi (q : Q (.bl (decide (i = j))) H) : rEq (.int i) (.int j) H Q := ⟨rfl, by
  rw [show decide (V.int i = V.int j) = decide (i = j) from by by_cases e : i = j <;> simp [e]]; exact q⟩
theorem r_nei (q : Q (.bl (!decide (i = j))) H) : rNe (.int i) (.int j) H Q := ⟨rfl, by
  rw [show decide (V.int i = V.int j) = decide (i = j) from by by_cases e : i = j <;> simp [e]]; exact q⟩
theorem r_nonR {A B : Prop} (h : A) : if (!decide (V.ref a = V.non)) = true then A else B := iteT' h
theorem r_nonN {A B : Prop} (h : B) : if (!decide (V.non = V.non)) = true then A else B := iteF' h
theorem r_isR {A B : Prop} (h : B) : if decide (V.ref a = V.non) = true then A else B := iteF' h
theorem r_isNN {A B : Prop} (h : A) : if decide (V.non = V.non) = true then A else B := iteT' h
theorem r_nonI {A B : Prop} (h : A) : if (!decide (V.int i = V.non)) = true then A else B := iteT' h
theorem r_isI {A B : Prop} (h : B) : if decide (V.int i = V.non) = true then A else B := iteF' h
theorem r_nil (q : QA [] H) : tNil σ H QA := q
theorem r_cons {tr : TA} (h : ta σ H fun x H1 => tr σ H1 fun xs H2 => QA (x :: xs) H2) : tCons ta tr σ H QA := h
theorem r_cb {r : List V → Hp → VK → Prop} {t : TA} (h : t σ H fun vs H1 => r vs H1 Q) : tCB r t σ H Q := h
theorem r_call {sp : Sp} {dvs : List V} {E : XK} {t : TA} (h : t σ H fun vs H1 => sp (vs ++ dvs) H1 Q E) : tCall sp dvs E t σ H Q := h
theorem r_make {C : Addr} {sp : Sp} {dvs : List V} {E : XK} {t : TA} (h : t σ H fun vs H1 => ∀ x dx, H1 x = none → H1 dx = none → dx ≠ x →
  sp (.ref x :: (vs ++ dvs)) (upd (upd H1 dx (.own x)) x (.ins C dx [])) (fun v H2 => v = .non ∧ Q (.ref x) H2) E) : tMake C sp dvs E t σ H Q := h
theorem r_meth {C : Addr} {m : Str} {sp : Sp} {dvs : List V} {E : XK} {t : TA} (h : ta σ H (kMeth C m sp dvs E σ t Q)) : tMeth C m sp dvs E ta t σ H Q := h
theorem r_methL {C : Addr} {dx : Addr} {fs : List (Str × V)} {m : Str} {sp : Sp} {dvs : List V} {E : XK} {t : TA} (h : H a = some (.ins C dx fs)) (hl : fs.lookup m = none) (q : t σ H fun vs H2 => sp (.ref a :: (vs ++ dvs)) H2 Q E) : kMeth C m sp dvs E σ t Q (.ref a) H := ⟨a, dx, fs, rfl, h, hl, q⟩
theorem r_fld {f : Str} (h : ta σ H (kFld K f Q)) : tFld K ta f σ H Q := h
theorem r_fldL {C dx : Addr} {fs : List (Str × V)} {f : Str} (h : H a = some (.ins C dx fs)) (hc : Cls K C) (hn : NoAttr K C f) (hl : fs.lookup f = some v) (q : Q v H) : kFld K f Q (.ref a) H := ⟨a, C, dx, fs, v, rfl, h, hc, hn, hl, q⟩
theorem r_sfld {f : Str} (h : tb σ H fun y H1 => ta σ H1 (kSfld K D σ f y)) : sFld K ta tb f D σ H := h
theorem r_test (h : te σ H (kTest QB)) : tTest te σ H QB := h
theorem r_tB (h : te σ H (kTest QB)) : tB te σ H QB := h
theorem r_exb (q : QB b H) : kTest QB (.bl b) H := ⟨b, rfl, q⟩
theorem r_and (h : ct σ H fun c H1 => if c = true then cu σ H1 QB else QB false H1) : tAnd ct cu σ H QB := h
theorem r_or (h : ct σ H fun c H1 => if c = true then QB true H1 else cu σ H1 QB) : tOr ct cu σ H QB := h
theorem r_not (h : ct σ H fun c H1 => QB (!c) H1) : tNot ct σ H QB := h
theorem r_andV (h : ta σ H fun x H1 => ∃ c, x = .bl c ∧ if c = true then tb σ H1 Q else Q (.bl false) H1) : tAndV ta tb σ H Q := h
theorem r_orV (h : ta σ H fun x H1 => ∃ c, x = .bl c ∧ if c = true then Q (.bl true) H1 else tb σ H1 Q) : tOrV ta tb σ H Q := h
theorem r_exbP {A : Bool → Prop} (q : A b) : ∃ c, V.bl b = .bl c ∧ A c := ⟨b, rfl, q⟩
theorem r_notV (h : ta σ H fun x H1 => ∃ c, x = .bl c ∧ Q (.bl (!c)) H1) : tNotV ta σ H Q := h
theorem r_tif (h : c σ H fun b H1 => if b = true then ta σ H1 Q else tb σ H1 Q) : tIf c ta tb σ H Q := h
theorem r_isN (h : ta σ H fun x H1 => Q (.bl (decide (x = .non))) H1) : tIsN ta σ H Q := h
theorem r_notN (h : ta σ H fun x H1 => Q (.bl (!decide (x = .non))) H1) : tNotN ta σ H Q := h
theorem r_tup {t : TA} (h : t σ H (kTup Q)) : tTup t σ H Q := h
theorem r_lst {t : TA} (h : t σ H (kLst Q)) : tLst t σ H Q := h
theorem r_ktup (hl : xs.length ≤ sizeLine) (h : ∀ p, H p = none → Q (.ref p) (upd H p (.tup xs))) : kTup Q xs H := ⟨hl, h⟩
theorem r_klst (hl : xs.length ≤ sizeLine) (h : ∀ p, H p = none → Q (.ref p) (upd H p (.lst xs))) : kLst Q xs H := ⟨hl, h⟩
theorem r_ixl (h : SqL K H p xs) (e : atI xs i = some v) (q : Q v H) : rIxL K (.ref p) (.int i) H Q := ⟨p, xs, i, v, rfl, rfl, h, e, q⟩
theorem r_ixt (h : SqT K H p xs) (e : atI xs i = some v) (q : Q v H) : rIxT K (.ref p) (.int i) H Q := ⟨p, xs, i, v, rfl, rfl, h, e, q⟩
theorem r_int (q : Q (.int i) H) : rInt [V.int i] H Q := .inl ⟨i, rfl, q⟩
theorem r_lenl (h : SqL K H p xs) (q : Q (.int xs.length) H) : rLen K [V.ref p] H Q := ⟨p, xs, rfl, .inl h, q⟩
theorem r_lent (h : SqT K H p xs) (q : Q (.int xs.length) H) : rLen K [V.ref p] H Q := ⟨p, xs, rfl, .inr h, q⟩
theorem r_listl (h : SqL K H p xs) (q : ∀ l, H l = none → Q (.ref l) (upd H l (.lst xs))) : rListOf K [V.ref p] H Q := ⟨p, xs, rfl, .inl h, q⟩
theorem r_listt (h : SqT K H p xs) (q : ∀ l, H l = none → Q (.ref l) (upd H l (.lst xs))) : rListOf K [V.ref p] H Q := ⟨p, xs, rfl, .inr h, q⟩
theorem r_tupl (h : SqL K H p xs) (q : ∀ l, H l = none → Q (.ref l) (upd H l (.tup xs))) : rTupOf K [V.ref p] H Q := ⟨p, xs, rfl, .inl ⟨h, q⟩⟩
theorem r_tupt (h : SqT K H p xs) (q : Q (.ref p) H) : rTupOf K [V.ref p] H Q := ⟨p, xs, rfl, .inr ⟨h, q⟩⟩
theorem r_in {neg : Bool} (h : SqL K H p xs ∨ SqT K H p xs) (fx : flatV x = true) (fs : xs.all flatV = true) (q : Q (.bl (if neg = true then !inV x xs else inV x xs)) H) : rIn K neg x (.ref p) H Q := ⟨p, xs, rfl, h, fx, fs, q⟩
theorem r_bm {T : String} {r : V → List V → Hp → VK → Prop} {t : TA} (h : ta σ H fun x H1 => tyV K T x H1 ∧ t σ H1 fun xs H2 => r x xs H2 Q) : tBM K T r ta t σ H Q := h
theorem r_bm0 {T : String} {r : V → List V → Hp → VK → Prop} (h : ta σ H fun x H1 => tyV K T x H1 ∧ r x [] H1 Q) : tBM0 K T r ta σ H Q := h
theorem r_tyl {A : Prop} (h : SqL K H l xs) (q : A) : tyV K "list" (.ref l) H ∧ A := ⟨.inl ⟨rfl, _, h⟩, q⟩
theorem r_app (h : H l = some (.lst xs)) (hl : xs.length < sizeLine) (q : Q .non (upd H l (.lst (xs ++ [v])))) : rAppend (.ref l) [v] H Q := ⟨l, xs, v, rfl, rfl, h, hl, q⟩
theorem r_isi {c : V} {t u : Value} (hc : ClsV c u) (ht : TyX K H x t) (hk : PySem.W.kitOne K t u = some b) (q : Q (.bl b) H) : rIsi K [x, c] H Q := ⟨x, c, t, u, b, rfl, hc, ht, hk, q⟩
theorem r_isb {a b : Bool} (q : Q (.bl (decide (a = b))) H) : rIsB (.bl a) (.bl b) H Q := ⟨a, b, rfl, rfl, q⟩
theorem r_notb {a b : Bool} (q : Q (.bl (!decide (a = b))) H) : rNotB (.bl a) (.bl b) H Q := ⟨a, b, rfl, rfl, q⟩
theorem r_eqd {d e : PyData} (h1 : Dp K H x d) (h2 : Dp K H y e) (s1 : SeqAt.shaped d = true) (s2 : SeqAt.shaped e = true) (q : Q (.bl (PyData.eqv d e)) H) : rEqD K x y H Q := ⟨d, e, h1, h2, s1, s2, q⟩
theorem r_ned {d e : PyData} (h1 : Dp K H x d) (h2 : Dp K H y e) (s1 : SeqAt.shaped d = true) (s2 : SeqAt.shaped e = true) (q : Q (.bl (!PyData.eqv d e)) H) : rNeD K x y H Q := ⟨d, e, h1, h2, s1, s2, q⟩
theorem r_rep {k : Int} (h : H l = some (.lst xs)) (h1 : -(2 ^ 63) ≤ k) (h2 : k < 2 ^ 63) (hz : xs.length * k.toNat ≤ sizeLine) (q : ∀ p, H p = none → Q (.ref p) (upd H p (.lst (List.replicate k.toNat xs).flatten))) : rRep (.ref l) (.int k) H Q := ⟨l, k, xs, rfl, rfl, h, h1, h2, hz, q⟩
theorem r_cat (h : H l = some (.lst xs)) (h' : H p = some (.lst ys)) (hz : xs.length + ys.length ≤ sizeLine) (q : ∀ r, H r = none → Q (.ref r) (upd H r (.lst (xs ++ ys)))) : rCat (.ref l) (.ref p) H Q := ⟨l, p, xs, ys, rfl, rfl, h, h', hz, q⟩
theorem r_aug {n : Nat} {ti : TIp} (h : σ[n]? = some (some x)) (q : te σ H fun y H1 => ti x y H1 fun z H2 => D.nx (σ.set n (some z)) H2) : tAug n te ti D σ H := ⟨x, h, q⟩
theorem r_ipI {f : Int → Int → Int} (q : Q (.int (f i j)) H) : ipI f (.int i) (.int j) H Q := ⟨i, j, rfl, rfl, q⟩
theorem r_sorted {ns : List Int} (h : SqL K H a (ns.map V.int)) (h64 : ns.length < 64) (q : ∀ (ns' : List Int) (p : Addr), ns'.Perm ns → ns'.Pairwise (· ≤ ·) → H p = none → Q (.ref p) (upd H p (.lst (ns'.map V.int)))) : rSorted K [.ref a] H Q := ⟨a, ns, rfl, h, h64, q⟩
end
/-! slices, texts -/
def kPart (Q : Option Int → Hp → Prop) : V → Hp → Prop := fun x H => ∃ i, x = .int i ∧ Q (some i) H
section
variable {σ : L2.St} {H : Hp} {te : TE} {tl th : TO} {Q : V → Hp → Prop} {QO : Option Int → Hp → Prop} {K : PySem.W.Frag} {a : Addr} {xs : List V} {lo hi : Option Int} {i : Int} {z : Str}
theorem r_sl {r : V → Option Int → Option Int → Hp → VK → Prop} (h : te σ H fun x H1 => tl σ H1 fun l H2 => th σ H2 fun u H3 => r x l u H3 Q) : tSl r te tl th σ H Q := h
theorem r_noP (q : QO none H) : tNoPart σ H QO := q
theorem r_part (h : te σ H (kPart QO)) : tPart te σ H QO := h
theorem r_kPart (q : QO (some i) H) : kPart QO (.int i) H := ⟨i, rfl, q⟩
theorem r_slS (hl : z.length ≤ 1000000) (q : Q (.str (cutS z lo hi)) H) : rSlS (.str z) lo hi H Q := ⟨z, rfl, by rw [sz]; omega, q⟩
theorem r_slL (h : SqL K H a xs) (q : ∀ p, H p = none → Q (.ref p) (upd H p (.lst (cutV xs lo hi)))) : rSlL K (.ref a) lo hi H Q := ⟨a, xs, rfl, h, q⟩
end
/-! loops and comprehensions -/
def kLc (g : TG) (tt : TT) (te : TE) (vs : List Nat) (σ : L2.St) (Q : V → Hp → Prop) : It → Hp → Prop := fun J H1 => ∀ D, H1 D = none → ∃ W : Nat → Nat → Hp → Prop, (∃ m, W 0 m (upd H1 D (.lst []))) ∧ ∀ i m H, W i m H →
  (J.stop i H ∧ Q (.ref D) H) ∨ (J.go i H ∧ ∃ Nx : Hp → Prop, (∀ H', Nx H' → ∃ m', m' < m ∧ W (i + 1) m' H') ∧ ∀ x H', J.yld i H x H' → g x (wipe σ vs) H' fun σ2 H2 => wipe σ2 vs = wipe σ vs ∧ tt σ2 H2 fun b H3 =>
    if b = true then te σ2 H3 fun y H4 => ∃ acc, H4 D = some (.lst acc) ∧ acc.length < sizeLine ∧ Nx (upd H4 D (.lst (acc ++ [y]))) else Nx H3)
def kR1 (R : It → Hp → Prop) : List V → Hp → Prop := fun vs H1 => ∃ j : Int, vs = [.int j] ∧ -(2 ^ 62) ≤ j ∧ j < 2 ^ 62 ∧ R (Itr 0 j.toNat) H1
def kR2 (R : It → Hp → Prop) : List V → Hp → Prop := fun vs H1 => ∃ i j : Int, vs = [.int i, .int j] ∧ (-(2 ^ 62) ≤ i ∧ i < 2 ^ 62 ∧ -(2 ^ 62) ≤ j ∧ j < 2 ^ 62) ∧ R (Itr i (j - i).toNat) H1
def kIl (K : PySem.W.Frag) (R : It → Hp → Prop) : V → Hp → Prop := fun x H1 => ∃ a, x = .ref a ∧ (∃ xs, SqL K H1 a xs) ∧ R (Itl K a) H1
def kIt (K : PySem.W.Frag) (R : It → Hp → Prop) : V → Hp → Prop := fun x H1 => ∃ a, x = .ref a ∧ (∃ xs, SqT K H1 a xs) ∧ R (Itt K a) H1
def kFor (g : TG) (tb : TS) (D : Ends) (σ : L2.St) : It → Hp → Prop := fun J H1 => ∃ W : Nat → Nat → L2.St → Hp → Prop, (∃ m, W 0 m σ H1) ∧ ∀ i m σ H, W i m σ H →
  (J.stop i H ∧ D.nx σ H) ∨ (J.go i H ∧ ∃ N : L2.St → Hp → Prop, (∀ σ' H', N σ' H' → ∃ m', m' < m ∧ W (i + 1) m' σ' H') ∧ ∀ x H', J.yld i H x H' → g x σ H' fun σ2 H2 => tb { D with nx := N, ct := N, bk := D.nx } σ2 H2)
section
variable {σ : L2.St} {H : Hp} {D : Ends} {te : TE} {ta : TA} {g : TG} {tt : TT} {tb : TS} {wi : TI} {vs : List Nat} {Q : V → Hp → Prop} {R : It → Hp → Prop} {K : PySem.W.Frag} {a : Addr} {xs : List V} {i j : Int}
theorem r_lc (h : wi σ H (kLc g tt te vs σ Q)) : tLc wi g tt te vs σ H Q := h
theorem r_for (h : wi σ H (kFor g tb D σ)) : tFor wi g tb D σ H := h
theorem r_irng1 (h : ta σ H (kR1 R)) : iRng1 ta σ H R := h
theorem r_irng2 (h : ta σ H (kR2 R)) : iRng2 ta σ H R := h
theorem r_ilist (h : te σ H (kIl K R)) : iList K te σ H R := h
theorem r_itup (h : te σ H (kIt K R)) : iTup K te σ H R := h
theorem r_kR1 (h1 : -(2 ^ 62) ≤ j) (h2 : j < 2 ^ 62) (h : R (Itr 0 j.toNat) H) : kR1 R [.int j] H := ⟨j, rfl, h1, h2, h⟩
theorem r_kR2 (h1 : -(2 ^ 62) ≤ i ∧ i < 2 ^ 62 ∧ -(2 ^ 62) ≤ j ∧ j < 2 ^ 62) (h : R (Itr i (j - i).toNat) H) : kR2 R [.int i, .int j] H := ⟨i, j, rfl, h1, h⟩
theorem r_kIl (h1 : SqL K H a xs) (h : R (Itl K a) H) : kIl K R (.ref a) H := ⟨a, rfl, ⟨_, h1⟩, h⟩
theorem r_kIt (h1 : SqT K H a xs) (h : R (Itt K a) H) : kIt K R (.ref a) H := ⟨a, rfl, ⟨_, h1⟩, h⟩
theorem r_forR {lo : Int} {n : Nat} (Pv : Nat → L2.St → Hp → Prop) (h0 : Pv 0 σ H)
    (hs : ∀ i σ H, i < n → Pv i σ H → g (.int (lo + i)) σ H fun σ2 H2 => tb { D with nx := Pv (i + 1), ct := Pv (i + 1), bk := D.nx } σ2 H2) (hd : ∀ σ H, Pv n σ H → D.nx σ H) : kFor g tb D σ (Itr lo n) H := for_range Pv h0 hs hd
theorem r_forL (Pv : Nat → L2.St → Hp → Prop) (h0 : Pv 0 σ H) (hl : ∀ i σ H, i ≤ xs.length → Pv i σ H → SqL K H a xs)
    (hs : ∀ i x σ H, xs[i]? = some x → Pv i σ H → g x σ H fun σ2 H2 => tb { D with nx := Pv (i + 1), ct := Pv (i + 1), bk := D.nx } σ2 H2) (hd : ∀ σ H, Pv xs.length σ H → D.nx σ H) : kFor g tb D σ (Itl K a) H := for_list Pv h0 hl hs hd
theorem r_forT (Pv : Nat → L2.St → Hp → Prop) (h0 : Pv 0 σ H) (hl : ∀ i σ H, i ≤ xs.length → Pv i σ H → SqT K H a xs)
    (hs : ∀ i x σ H, xs[i]? = some x → Pv i σ H → g x σ H fun σ2 H2 => tb { D with nx := Pv (i + 1), ct := Pv (i + 1), bk := D.nx } σ2 H2) (hd : ∀ σ H, Pv xs.length σ H → D.nx σ H) : kFor g tb D σ (Itt K a) H := for_tup Pv h0 hl hs hd
/-- [e for x in range], e an int -/
theorem r_lcI {lo : Int} {n slot : Nat} (P : Nat → Int → Prop) (hn : n ≤ 100000) (hv : vs = [slot])
    (hs : ∀ (i : Nat) (H' : Hp), i < n → L2.Same H H' → ∀ R : V → Hp → Prop, (∀ z : Int, P i z → R (.int z) H') → te ((wipe σ vs).set slot (some (.int (lo + i)))) H' R)
    (q : ∀ (H' : Hp) (l : Addr) (zs : List Int), L2.Same H H' → H l = none → H' l = some (.lst (zs.map V.int)) → zs.length = n → (∀ (i : Nat) (z : Int), zs[i]? = some z → P i z) → Q (.ref l) H') :
    kLc (gName slot) tYes te vs σ Q (Itr lo n) H := by
  intro L hL
  have hw : ∀ (τ : L2.St) (x : V), wipe (τ.set slot (some x)) [slot] = wipe τ [slot] := fun τ x => by simp [wipe, List.set_set]
  have hw2 : wipe (wipe σ vs) vs = wipe σ vs := by subst hv; simp [wipe, List.set_set]
  refine lc_range (fun i H' => ∃ zs : List Int, zs.length = i ∧ H' L = some (.lst (zs.map V.int)) ∧ L2.Same H H' ∧ ∀ (k : Nat) (z : Int), zs[k]? = some z → P k z) ⟨[], rfl, upd_same, fun b o e => by rw [upd_ne (ne_of_none e hL)]; exact e, fun k z e => by simp at e⟩ ?_ ?_
  · rintro i H' hi ⟨zs, el, eL, s, hp⟩
    refine ⟨?_, ?_⟩
    · subst hv
      rw [hw]
      exact hw2
    · show te ((wipe σ vs).set slot (some (.int (lo + i)))) H' _
      refine hs i H' hi s _ fun z hz => ⟨_, eL, ?_, zs ++ [z], ?_, ?_, ?_, ?_⟩
      · rw [List.length_map, el]
        exact Nat.lt_of_lt_of_le (Nat.lt_of_lt_of_le hi hn) (by decide)
      · rw [List.length_append, el]; rfl
      · rw [upd_same, List.map_append]; rfl
      · intro b o e
        rw [upd_ne (ne_of_none e hL)]
        exact s _ _ e
      · intro k y e
        rw [List.getElem?_append] at e
        split at e
        · exact hp k y e
        · rename_i hk
          have ek : k = zs.length := by
            have := (List.getElem?_eq_some_iff.mp e).1
            simp at this
            omega
          subst ek
          simp at e
          rw [el, ← e]
          exact hz
  · rintro H' ⟨zs, el, eL, s, hp⟩
    exact q H' L zs s hL eL el hp
end
end Sg
/-! data behind values, as the heap grows -/
namespace Sg
open PySem L2
mutual
theorem Dp.mono {K : PySem.W.Frag} {H H' : Hp} (s : L2.Same H H') : ∀ (d : PyData) (v : V), Dp K H v d → Dp K H' v d
  | .none, _, h => by cases h; exact .non
  | .bool b, _, h => by cases h; exact .bl b
  | .int i, _, h => by cases h; exact .int i
  | .str x, _, h => by cases h; exact .str x
  | .list ds, _, h => by
    cases h with
    | lst hs ha => exact .lst (L2.Same.seq s hs) (DpAll.mono s ds _ ha)
  | .tuple ds, _, h => by
    cases h with
    | tup hs ha => exact .tup (Sg.Same.tup s hs) (DpAll.mono s ds _ ha)
  | .dict _, _, h => by cases h
theorem DpAll.mono {K : PySem.W.Frag} {H H' : Hp} (s : L2.Same H H') : ∀ (ds : List PyData) (vs : List V), DpAll K H vs ds → DpAll K H' vs ds
  | [], _, h => by cases h; exact .nil
  | d :: ds, _, h => by
    cases h with
    | cons h1 h2 => exact .cons (Dp.mono s d _ h1) (DpAll.mono s ds _ h2)
end
theorem DpAll.ints {K : PySem.W.Frag} {H : Hp} : ∀ ns : List Int, DpAll K H (ns.map V.int) (ns.map PyData.int)
  | [] => .nil
  | n :: ns => .cons (.int n) (DpAll.ints ns)
theorem DpAll.at {K : PySem.W.Frag} {H : Hp} : ∀ {vs : List V} {ds : List PyData}, DpAll K H vs ds → ∀ (i : Nat) (v : V), vs[i]? = some v → ∃ d, ds[i]? = some d ∧ Dp K H v d
  | _, _, .nil, i, v, e => by simp at e
  | _, _, .cons h t, 0, v, e => by simp at e; subst e; exact ⟨_, rfl, h⟩
  | _, _, .cons h t, i + 1, v, e => by
    obtain ⟨d, e1, h1⟩ := DpAll.at t i v (by simpa using e)
    exact ⟨d, by simpa using e1, h1⟩
theorem DpAll.length {K : PySem.W.Frag} {H : Hp} : ∀ {vs : List V} {ds : List PyData}, DpAll K H vs ds → vs.length = ds.length
  | _, _, .nil => rfl
  | _, _, .cons _ t => by simp [DpAll.length t]
/-- data that can be compared, at most n deep -/
def Fl (n : Nat) (d : PyData) : Prop := d.canLay0 = true ∧ d.depth ≤ n
theorem Fl.int (i : Int) (n : Nat) : Fl n (.int i) := ⟨by simp [PyData.canLay0], by simp [PyData.depth]⟩
theorem Fl.non (n : Nat) : Fl n .none := ⟨by simp [PyData.canLay0], by simp [PyData.depth]⟩
theorem Fl.bool (b : Bool) (n : Nat) : Fl n (.bool b) := ⟨by simp [PyData.canLay0], by simp [PyData.depth]⟩
theorem Fl.all {n : Nat} : ∀ {ds : List PyData}, (∀ d ∈ ds, Fl n d) → PyData.canLayAll0 ds = true ∧ PyData.depthAll ds ≤ n
  | [], _ => ⟨by simp [PyData.canLayAll0], by simp [PyData.depthAll]⟩
  | d :: ds, h => by
    obtain ⟨h1, h2⟩ := h d List.mem_cons_self
    obtain ⟨h3, h4⟩ := Fl.all (ds := ds) fun x hx => h x (List.mem_cons_of_mem _ hx)
    refine ⟨by simp [PyData.canLayAll0, h1, h3], ?_⟩
    simp only [PyData.depthAll]
    exact Nat.max_le.mpr ⟨h2, h4⟩
theorem Fl.tup {n : Nat} {ds : List PyData} (h : ∀ d ∈ ds, Fl n d) : Fl (n + 1) (.tuple ds) := by
  obtain ⟨h1, h2⟩ := Fl.all h
  exact ⟨by simp [PyData.canLay0, h1], by simp only [PyData.depth]; omega⟩
theorem Fl.lst {n : Nat} {ds : List PyData} (h : ∀ d ∈ ds, Fl n d) : Fl (n + 1) (.list ds) := by
  obtain ⟨h1, h2⟩ := Fl.all h
  exact ⟨by simp [PyData.canLay0, h1], by simp only [PyData.depth]; omega⟩
theorem Fl.mono {n m : Nat} {d : PyData} (h : Fl n d) (hm : n ≤ m) : Fl m d := ⟨h.1, Nat.le_trans h.2 hm⟩
theorem Fl.ints (ns : List Int) : Fl 1 (.tuple (ns.map PyData.int)) := Fl.tup fun d hd => by
  obtain ⟨i, _, rfl⟩ := List.mem_map.mp hd
  exact Fl.int i 0
theorem Fl.intl (ns : List Int) : Fl 1 (.list (ns.map PyData.int)) := Fl.lst fun d hd => by
  obtain ⟨i, _, rfl⟩ := List.mem_map.mp hd
  exact Fl.int i 0
theorem Fl.nil {n : Nat} : ∀ d ∈ ([] : List PyData), Fl n d := fun d h => by cases h
theorem Fl.cons {n : Nat} {d : PyData} {ds : List PyData} (h : Fl n d) (t : ∀ x ∈ ds, Fl n x) : ∀ x ∈ d :: ds, Fl n x := fun x hx => by
  rcases List.mem_cons.mp hx with rfl | hx
  · exact h
  · exact t x hx
theorem Fl.mapi {n : Nat} {ns : List Int} : ∀ d ∈ ns.map PyData.int, Fl n d := fun d hd => by
  obtain ⟨i, _, rfl⟩ := List.mem_map.mp hd
  exact Fl.int i n
theorem Fl.shaped {n : Nat} {d : PyData} (h : Fl n d) (hn : n ≤ 64 := by decide) : SeqAt.shaped d = true := by
  unfold SeqAt.shaped
  rw [h.1, decide_eq_true (Nat.le_trans h.2 hn)]
  rfl
theorem Fl.self {n : Nat} {d : PyData} (h : Fl n d) : PyData.eqv d d = true := SeqAt.eqv_refl d h.1
/-! lists of ints -/
theorem ixN_ok {n : Nat} {k : Int} (h0 : 0 ≤ k) (h1 : k < n) : ixN n k = some k.toNat := by unfold ixN; rw [if_pos h0, if_pos h1]
theorem at_ints {ts : List Int} {k : Int} (h0 : 0 ≤ k) (h1 : k < ts.length) : atI (ts.map V.int) k = some (.int (ts.getD k.toNat 0)) := by
  obtain ⟨n, rfl⟩ := Int.eq_ofNat_of_zero_le h0
  have hn : n < ts.length := by omega
  refine atI_nat ?_
  rw [List.getElem?_map, List.getElem?_eq_getElem hn, List.getD_eq_getElem?_getD, Int.toNat_natCast, List.getElem?_eq_getElem hn]
  rfl
theorem rep_ints (n : Nat) (z : Int) : (List.replicate n [V.int z]).flatten = (List.replicate n z).map V.int := by
  induction n with
  | zero => rfl
  | succ n ih => rw [List.replicate_succ, List.flatten_cons, ih, List.replicate_succ, List.map_cons]; rfl
theorem set_ints (ts : List Int) (n : Nat) (z : Int) : (ts.map V.int).set n (.int z) = (ts.set n z).map V.int := by rw [List.map_set]
theorem eqv_ints {as bs : List Int} : PyData.eqv (.list (as.map PyData.int)) (.list (bs.map PyData.int)) = decide (as = bs) := by
  rw [PyData.eqv]
  induction as generalizing bs with
  | nil => cases bs <;> simp [PyData.eqvAll]
  | cons a as ih =>
    cases bs with
    | nil => simp [PyData.eqvAll]
    | cons b bs =>
      rw [List.map_cons, List.map_cons, PyData.eqvAll, ih, PyData.eqv]
      by_cases e : a = b
      · subst e; simp
      · simp [e]
theorem Dp.ints {K : PySem.W.Frag} {H : Hp} {a : Addr} {ns : List Int} (h : SqL K H a (ns.map V.int)) : Dp K H (.ref a) (.list (ns.map PyData.int)) := .lst h (DpAll.ints ns)
theorem Fl.intlS (ns : List Int) : SeqAt.shaped (.list (ns.map PyData.int)) = true := (Fl.intl ns).shaped
/-! a comprehension over a list, its items anything -/
/-- the heap without the list that grows -/
def hid (D : Addr) (H : Hp) : Hp := fun b => if b = D then none else H b
theorem hid_ne {D b : Addr} {H : Hp} (h : b ≠ D) : hid D H b = H b := by unfold hid; rw [if_neg h]
theorem hid_at {D : Addr} {H : Hp} : hid D H D = none := by unfold hid; rw [if_pos rfl]
theorem hid_same {D : Addr} {H : Hp} : L2.Same (hid D H) H := fun b o e => by
  by_cases hb : b = D
  · rw [hb, hid_at] at e; cases e
  · rw [hid_ne hb] at e; exact e
theorem of_hid {D b : Addr} {H : Hp} {o : HO} (e : hid D H b = some o) : b ≠ D ∧ H b = some o := by
  by_cases hb : b = D
  · rw [hb, hid_at] at e; cases e
  · rw [hid_ne hb] at e; exact ⟨hb, e⟩
theorem same_hid {D : Addr} {H H' : Hp} (s : L2.Same H H') (n : H D = none) : L2.Same H (hid D H') := fun b o e => by
  rw [hid_ne (ne_of_none e n)]; exact s _ _ e
theorem hid_upd {D : Addr} {H : Hp} {o : HO} : hid D (upd H D o) = hid D H := by
  funext b
  by_cases hb : b = D
  · rw [hb, hid_at, hid_at]
  · rw [hid_ne hb, hid_ne hb, upd_ne hb]
theorem hid_none {D : Addr} {H : Hp} (n : H D = none) : hid D H = H := by
  funext b
  by_cases hb : b = D
  · rw [hb, hid_at, n]
  · rw [hid_ne hb]
theorem r_lcL {K : PySem.W.Frag} {a : Addr} {xs : List V} {slot : Nat} {vs : List Nat} {te : TE} {σ : L2.St} {H : Hp} {Q : V → Hp → Prop} (P : Nat → List V → Hp → Prop) (hx : SqL K H a xs) (hn : xs.length ≤ 100000) (hv : vs = [slot])
    (h0 : P 0 [] H)
    (hs : ∀ (i : Nat) (x : V) (acc : List V) (H0 H' : Hp), xs[i]? = some x → L2.Same H H0 → P i acc H0 → L2.Same H0 H' → ∀ R : V → Hp → Prop,
      (∀ (v : V) (H'' : Hp), L2.Same H' H'' → (∀ D, H0 D = none → H' D ≠ none → P (i + 1) (acc ++ [v]) (hid D H'')) → R v H'') → te ((wipe σ vs).set slot (some x)) H' R)
    (q : ∀ (H' : Hp) (l : Addr) (acc : List V), L2.Same H H' → H l = none → H' l = some (.lst acc) → acc.length = xs.length → P xs.length acc (hid l H') → Q (.ref l) H') :
    kLc (gName slot) tYes te vs σ Q (Itl K a) H := by
  intro L hL
  have hw : ∀ (τ : L2.St) (x : V), wipe (τ.set slot (some x)) [slot] = wipe τ [slot] := fun τ x => by simp [wipe, List.set_set]
  have hw2 : wipe (wipe σ vs) vs = wipe σ vs := by subst hv; simp [wipe, List.set_set]
  refine lc_list (xs := xs) (fun i H' => ∃ acc : List V, acc.length = i ∧ H' L = some (.lst acc) ∧ L2.Same H H' ∧ P i acc (hid L H')) ⟨[], rfl, upd_same, fun b o e => by rw [upd_ne (ne_of_none e hL)]; exact e, by rw [hid_upd, hid_none hL]; exact h0⟩ ?_ ?_ ?_
  · rintro i H' hi ⟨acc, _, _, s, _⟩
    exact s.seq hx
  · rintro i x H' hi ⟨acc, el, eL, s, hp⟩
    refine ⟨?_, ?_⟩
    · subst hv
      rw [hw]
      exact hw2
    · show te ((wipe σ vs).set slot (some x)) H' _
      refine hs i x acc (hid L H') H' hi (same_hid s hL) hp hid_same _ fun v H'' s2 hP => ⟨acc, s2 _ _ eL, ?_, acc ++ [v], ?_, upd_same, ?_, ?_⟩
      · have := (List.getElem?_eq_some_iff.mp hi).1
        rw [el, sz]
        omega
      · rw [List.length_append, el]; rfl
      · intro b o e
        rw [upd_ne (ne_of_none e hL)]
        exact s2 _ _ (s _ _ e)
      · rw [hid_upd]
        exact hP L hid_at (by rw [eL]; intro z; cases z)
  · rintro H' ⟨acc, el, eL, s, hp⟩
    exact q H' L acc s hL eL el hp
end Sg
namespace Sg
open PySem L2
def top (i : Nat) : Stmt := PySem.Challenge.pw_segmentfs_k33_store_by_a_plain_dict.main.body.getD i (.Pass ⟨0, 0, 0, 0⟩)
abbrev s_Store___init : Stmt := inClass (top 1) 0
abbrev s_Store_get : Stmt := inClass (top 1) 1
abbrev s_Store_put : Stmt := inClass (top 1) 2
abbrev s_Store_remove : Stmt := inClass (top 1) 3
abbrev s_Store_new_id : Stmt := inClass (top 1) 4
abbrev s_Store_fork : Stmt := inClass (top 1) 5
abbrev s_Store_block_count : Stmt := inClass (top 1) 6
abbrev s_Layout___init : Stmt := inClass (top 8) 0
abbrev s_parts_of : Stmt := top 9
abbrev s_law_row : Stmt := top 11
abbrev s_law_is_integer : Stmt := top 12
abbrev s_law_payload : Stmt := top 13
abbrev s_law_least : Stmt := top 14
abbrev s_law_copy : Stmt := top 15
abbrev s_law_agrees : Stmt := top 16
abbrev s_law_deed : Stmt := top 17
abbrev s_law : Stmt := top 18
abbrev n_Store___init : List Str := ["self", "layout", "blocks"]
theorem sc_Store___init : FnScope n_Store___init ["self", "layout", "blocks"] (defScope s_Store___init) := ⟨rfl, rfl, rfl, by decide +kernel, rfl, by decide +kernel, by decide +kernel⟩
abbrev n_Store_get : List Str := ["self", "ident"]
theorem sc_Store_get : FnScope n_Store_get ["self", "ident"] (defScope s_Store_get) := ⟨rfl, rfl, rfl, by decide +kernel, rfl, by decide +kernel, by decide +kernel⟩
abbrev n_Store_put : List Str := ["self", "ident", "payload"]
theorem sc_Store_put : FnScope n_Store_put ["self", "ident", "payload"] (defScope s_Store_put) := ⟨rfl, rfl, rfl, by decide +kernel, rfl, by decide +kernel, by decide +kernel⟩
abbrev n_Store_remove : List Str := ["self", "ident"]
theorem sc_Store_remove : FnScope n_Store_remove ["self", "ident"] (defScope s_Store_remove) := ⟨rfl, rfl, rfl, by decide +kernel, rfl, by decide +kernel, by decide +kernel⟩
abbrev n_Store_new_id : List Str := ["self"]
theorem sc_Store_new_id : FnScope n_Store_new_id ["self"] (defScope s_Store_new_id) := ⟨rfl, rfl, rfl, by decide +kernel, rfl, by decide +kernel, by decide +kernel⟩
abbrev n_Store_fork : List Str := ["self"]
theorem sc_Store_fork : FnScope n_Store_fork ["self"] (defScope s_Store_fork) := ⟨rfl, rfl, rfl, by decide +kernel, rfl, by decide +kernel, by decide +kernel⟩
abbrev n_Store_block_count : List Str := ["self"]
theorem sc_Store_block_count : FnScope n_Store_block_count ["self"] (defScope s_Store_block_count) := ⟨rfl, rfl, rfl, by decide +kernel, rfl, by decide +kernel, by decide +kernel⟩
abbrev n_Layout___init : List Str := ["self", "segments", "segment_blocks", "block_size"]
theorem sc_Layout___init : FnScope n_Layout___init ["self", "segments", "segment_blocks", "block_size"] (defScope s_Layout___init) := ⟨rfl, rfl, rfl, by decide +kernel, rfl, by decide +kernel, by decide +kernel⟩
abbrev n_parts_of : List Str := ["number", "size"]
theorem sc_parts_of : FnScope n_parts_of ["number", "size"] (defScope s_parts_of) := ⟨rfl, rfl, rfl, by decide +kernel, rfl, by decide +kernel, by decide +kernel⟩
abbrev n_law_row : List Str := ["script", "k", "cell", "low", "high"]
theorem sc_law_row : FnScope n_law_row ["script", "k"] (defScope s_law_row) := ⟨rfl, rfl, rfl, by decide +kernel, rfl, by decide +kernel, by decide +kernel⟩
abbrev n_law_is_integer : List Str := ["actual"]
theorem sc_law_is_integer : FnScope n_law_is_integer ["actual"] (defScope s_law_is_integer) := ⟨rfl, rfl, rfl, by decide +kernel, rfl, by decide +kernel, by decide +kernel⟩
abbrev n_law_payload : List Str := ["number", "rest"]
theorem sc_law_payload : FnScope n_law_payload ["number"] (defScope s_law_payload) := ⟨rfl, rfl, rfl, by decide +kernel, rfl, by decide +kernel, by decide +kernel⟩
abbrev n_law_least : List Str := ["model", "ident", "k"]
theorem sc_law_least : FnScope n_law_least ["model"] (defScope s_law_least) := ⟨rfl, rfl, rfl, by decide +kernel, rfl, by decide +kernel, by decide +kernel⟩
abbrev n_law_copy : List Str := ["model", "copied", "ident"]
theorem sc_law_copy : FnScope n_law_copy ["model"] (defScope s_law_copy) := ⟨rfl, rfl, rfl, by decide +kernel, rfl, by decide +kernel, by decide +kernel⟩
abbrev n_law_agrees : List Str := ["store", "model", "other", "found", "ident"]
theorem sc_law_agrees : FnScope n_law_agrees ["store", "model", "other"] (defScope s_law_agrees) := ⟨rfl, rfl, rfl, by decide +kernel, rfl, by decide +kernel, by decide +kernel⟩
abbrev n_law_deed : List Str := ["store", "model", "number", "kind", "rest", "ident", "payload"]
theorem sc_law_deed : FnScope n_law_deed ["store", "model", "number"] (defScope s_law_deed) := ⟨rfl, rfl, rfl, by decide +kernel, rfl, by decide +kernel, by decide +kernel⟩
abbrev n_law : List Str := ["script", "number", "passed", "k", "stores", "models", "at", "other"]
theorem sc_law : FnScope n_law ["script"] (defScope s_law) := ⟨rfl, rfl, rfl, by decide +kernel, rfl, by decide +kernel, by decide +kernel⟩
structure Txt (K : PySem.W.Frag) (mg : Str → Option Value) where
  a_Store___init : Addr
  fd_Store___init : FuncData
  a_Store_get : Addr
  fd_Store_get : FuncData
  a_Store_put : Addr
  fd_Store_put : FuncData
  a_Store_remove : Addr
  fd_Store_remove : FuncData
  a_Store_new_id : Addr
  fd_Store_new_id : FuncData
  a_Store_fork : Addr
  fd_Store_fork : FuncData
  a_Store_block_count : Addr
  fd_Store_block_count : FuncData
  a_Layout___init : Addr
  fd_Layout___init : FuncData
  a_parts_of : Addr
  fd_parts_of : FuncData
  a_law_row : Addr
  fd_law_row : FuncData
  a_law_is_integer : Addr
  fd_law_is_integer : FuncData
  a_law_payload : Addr
  fd_law_payload : FuncData
  a_law_least : Addr
  fd_law_least : FuncData
  a_law_copy : Addr
  fd_law_copy : FuncData
  a_law_agrees : Addr
  fd_law_agrees : FuncData
  a_law_deed : Addr
  fd_law_deed : FuncData
  a_law : Addr
  fd_law : FuncData
  A_Store : Addr
  A_Layout : Addr
  a_BLOCK_SIZES : Addr
  t_SUMMARY_HEAD : Tok
  F_Store___init : Fun K "__init__" "Store.__init__" s_Store___init a_Store___init fd_Store___init
  b_Store___init : Binds K fd_Store___init ["self", "layout", "blocks"] []
  F_Store_get : Fun K "get" "Store.get" s_Store_get a_Store_get fd_Store_get
  b_Store_get : Binds K fd_Store_get ["self", "ident"] []
  me_Store_get : Meth K A_Store "get" a_Store_get
  F_Store_put : Fun K "put" "Store.put" s_Store_put a_Store_put fd_Store_put
  b_Store_put : Binds K fd_Store_put ["self", "ident", "payload"] []
  me_Store_put : Meth K A_Store "put" a_Store_put
  F_Store_remove : Fun K "remove" "Store.remove" s_Store_remove a_Store_remove fd_Store_remove
  b_Store_remove : Binds K fd_Store_remove ["self", "ident"] []
  me_Store_remove : Meth K A_Store "remove" a_Store_remove
  F_Store_new_id : Fun K "new_id" "Store.new_id" s_Store_new_id a_Store_new_id fd_Store_new_id
  b_Store_new_id : Binds K fd_Store_new_id ["self"] []
  me_Store_new_id : Meth K A_Store "new_id" a_Store_new_id
  F_Store_fork : Fun K "fork" "Store.fork" s_Store_fork a_Store_fork fd_Store_fork
  b_Store_fork : Binds K fd_Store_fork ["self"] []
  me_Store_fork : Meth K A_Store "fork" a_Store_fork
  F_Store_block_count : Fun K "block_count" "Store.block_count" s_Store_block_count a_Store_block_count fd_Store_block_count
  b_Store_block_count : Binds K fd_Store_block_count ["self"] []
  p_Store_block_count : Addr
  pr_Store_block_count : PropOf K A_Store "block_count" p_Store_block_count a_Store_block_count
  F_Layout___init : Fun K "__init__" "Layout.__init__" s_Layout___init a_Layout___init fd_Layout___init
  b_Layout___init : Binds K fd_Layout___init ["self", "segments", "segment_blocks", "block_size"] []
  F_parts_of : Fun K "parts_of" "parts_of" s_parts_of a_parts_of fd_parts_of
  b_parts_of : Binds K fd_parts_of ["number", "size"] []
  m_parts_of : mg "parts_of" = some (.ref a_parts_of)
  F_law_row : Fun K "_law_row" "_law_row" s_law_row a_law_row fd_law_row
  b_law_row : Binds K fd_law_row ["script", "k"] []
  m_law_row : mg "_law_row" = some (.ref a_law_row)
  F_law_is_integer : Fun K "_law_is_integer" "_law_is_integer" s_law_is_integer a_law_is_integer fd_law_is_integer
  b_law_is_integer : Binds K fd_law_is_integer ["actual"] []
  m_law_is_integer : mg "_law_is_integer" = some (.ref a_law_is_integer)
  F_law_payload : Fun K "_law_payload" "_law_payload" s_law_payload a_law_payload fd_law_payload
  b_law_payload : Binds K fd_law_payload ["number"] []
  m_law_payload : mg "_law_payload" = some (.ref a_law_payload)
  F_law_least : Fun K "_law_least" "_law_least" s_law_least a_law_least fd_law_least
  b_law_least : Binds K fd_law_least ["model"] []
  m_law_least : mg "_law_least" = some (.ref a_law_least)
  F_law_copy : Fun K "_law_copy" "_law_copy" s_law_copy a_law_copy fd_law_copy
  b_law_copy : Binds K fd_law_copy ["model"] []
  m_law_copy : mg "_law_copy" = some (.ref a_law_copy)
  F_law_agrees : Fun K "_law_agrees" "_law_agrees" s_law_agrees a_law_agrees fd_law_agrees
  b_law_agrees : Binds K fd_law_agrees ["store", "model", "other"] []
  m_law_agrees : mg "_law_agrees" = some (.ref a_law_agrees)
  F_law_deed : Fun K "_law_deed" "_law_deed" s_law_deed a_law_deed fd_law_deed
  b_law_deed : Binds K fd_law_deed ["store", "model", "number"] []
  m_law_deed : mg "_law_deed" = some (.ref a_law_deed)
  F_law : Fun K "law" "law" s_law a_law fd_law
  b_law : Binds K fd_law ["script"] []
  m_law : mg "law" = some (.ref a_law)
  m_Store : mg "Store" = some (.ref A_Store)
  cl_Store : Cls K A_Store
  M_Store : Mk K A_Store a_Store___init
  na_Store_layout : NoAttr K A_Store "layout"
  na_Store_blocks : NoAttr K A_Store "blocks"
  na_Store__least_candidate : NoAttr K A_Store "_least_candidate"
  m_Layout : mg "Layout" = some (.ref A_Layout)
  cl_Layout : Cls K A_Layout
  M_Layout : Mk K A_Layout a_Layout___init
  na_Layout_segments : NoAttr K A_Layout "segments"
  na_Layout_segment_blocks : NoAttr K A_Layout "segment_blocks"
  na_Layout_block_size : NoAttr K A_Layout "block_size"
  na_Layout_payload : NoAttr K A_Layout "payload"
  na_Layout_limit : NoAttr K A_Layout "limit"
  na_Layout_last_id : NoAttr K A_Layout "last_id"
  na_Layout_fan : NoAttr K A_Layout "fan"
  na_Layout_region_blocks : NoAttr K A_Layout "region_blocks"
  na_Layout_device_blocks : NoAttr K A_Layout "device_blocks"
  c_BLOCK_SIZES : mg "BLOCK_SIZES" = some (.ref a_BLOCK_SIZES)
  r_BLOCK_SIZES : RelV (.ref a_BLOCK_SIZES) (.ref a_BLOCK_SIZES)
  v_BLOCK_SIZES : ∀ H : Hp, SqT K H a_BLOCK_SIZES [.int 64, .int 128, .int 256]
  c_SUMMARY_HEAD : mg "SUMMARY_HEAD" = some (.int 16 t_SUMMARY_HEAD)
  r_SUMMARY_HEAD : RelV (.int 16) (.int 16 t_SUMMARY_HEAD)
  n_bool : mg "bool" = none
  n_dict : mg "dict" = none
  n_int : mg "int" = none
  n_isinstance : mg "isinstance" = none
  n_len : mg "len" = none
  n_min : mg "min" = none
  n_range : mg "range" = none
  n_sorted : mg "sorted" = none
end Sg
namespace Sg
open PySem L2
local macro_rules | `(tactic| walk_at "size") => `(tactic| first | ((simp only [List.length_append, List.length_cons, List.length_nil, List.length_map, Sg.sz]) <;> omega) | (rw [Sg.sz]; simp <;> omega))
local macro_rules | `(tactic| walk_at "side") => `(tactic| first | with_reducible rfl | with_reducible assumption | (show (_ : Int) < _; omega) | omega | (simp only [List.length_map]; omega) | assumption | rfl | decide | exact Or.inr ⟨by decide, by decide⟩ | exact Or.inl ⟨by decide, by decide⟩ | exact Or.inr ⟨by omega, by omega⟩ | exact Or.inl ⟨by omega, by omega⟩ | exact ⟨by omega, by omega⟩ | exact ⟨by decide, by decide, by decide⟩ | (simp; done))
local macro_rules | `(tactic| walk_at "hp") => `(tactic| first | assumption | (refine' L2.SqT.of ?h1; (case h1 => walk_at "hp")) | (refine' L2.SqL.of ?h1; (case h1 => walk_at "hp")) | (refine' Sg.Same.tup ?h1 ?h2; (case h1 => assumption); (case h2 => walk_at "hp")) | (refine' L2.Same.seq ?h1 ?h2; (case h1 => assumption); (case h2 => walk_at "hp")) | (refine' (show L2.Same _ _ from ?h1) _ _ ?h2; (case h1 => assumption); (case h2 => walk_at "hp")) | (refine' Sg.at_keep ?he ?h1 ?h2 ?h3; (case he => assumption); (case h1 => walk_at "hp"); (case h2 => walk_at "hp"); (case h3 => (intro z; cases z))))
local macro_rules | `(tactic| walk_at "al") => `(tactic| (intro p hn; generalize hH : upd _ _ _ = H'; have hs := Sg.Same.of_new hH hn; have ho := Sg.at_new hH; clear hH))
local macro_rules | `(tactic| walk_at "sm1") => `(tactic| first | (refine' L2.Same.trans ?ha ?hb; (case hb => assumption)) | (refine' Sg.Same.old ?ha ?hb ?hc; (case hc => assumption); (case hb => walk_at "nn")))
local macro_rules | `(tactic| walk_at "sm") => `(tactic| first | exact L2.Same.refl _ | assumption | (walk_at "sm1"; walk_at "sm"))
local macro_rules | `(tactic| walk_at "nn") => `(tactic| first | assumption | ((refine' L2.Same.free ?ha ?hb; (case hb => assumption)); walk_at "sm"))
local macro_rules | `(tactic| walk_at "dp") => `(tactic| first | assumption | exact L2.Dp.int _ | exact L2.Dp.non | exact L2.Dp.bl _ | exact L2.Dp.str _ | (refine' L2.Dp.tup ?ha ?hb; (case ha => walk_at "hp"); (case hb => walk_at "dpa")) | (refine' L2.Dp.lst ?ha ?hb; (case ha => walk_at "hp"); (case hb => walk_at "dpa")))
local macro_rules | `(tactic| walk_at "dpa") => `(tactic| first | assumption | exact L2.DpAll.nil | exact Sg.DpAll.ints _ | (refine' L2.DpAll.cons ?ha ?hb; (case ha => walk_at "dp"); (case hb => walk_at "dpa")))
local macro_rules | `(tactic| walk_at "fl") => `(tactic| first | assumption | exact Sg.Fl.int _ _ | exact Sg.Fl.non _ | exact Sg.Fl.bool _ _ | (refine' Sg.Fl.tup ?ha; (case ha => walk_at "fla")) | (refine' Sg.Fl.lst ?ha; (case ha => walk_at "fla")))
local macro_rules | `(tactic| walk_at "fla") => `(tactic| first | assumption | exact Sg.Fl.nil | exact Sg.Fl.mapi | (refine' Sg.Fl.cons ?ha ?hb; (case ha => walk_at "fl"); (case hb => walk_at "fla")))
local macro_rules | `(tactic| walk_at "tyx") => `(tactic| first | exact L2.TyX.base (L2.TyOf.int _) | exact L2.TyX.base (L2.TyOf.bl _) | exact L2.TyX.base L2.TyOf.non | exact L2.TyX.base (L2.TyOf.str _) | (refine' L2.TyX.base (L2.TyOf.tup ?ha); (case ha => walk_at "hp")) | (refine' L2.TyX.base (L2.TyOf.lst ?ha); (case ha => walk_at "hp")) | (refine' L2.TyX.base (L2.TyOf.frz ?ha); (case ha => walk_at "hp")))
local macro_rules | `(tactic| walk_at "up") => `(tactic| (generalize hH : upd _ _ _ = H'; have ho := Sg.at_new hH))
local macro_rules | `(tactic| walk_at "lk") => `(tactic| first | with_reducible assumption | with_reducible exact Sg.lk_eq | (refine' Sg.lk_ne ?ha ?hb; (case ha => decide +kernel); (case hb => walk_at "lk")) | (refine' Sg.lk_no ?ha ?hb; (case ha => decide +kernel); (case hb => walk_at "lk")) | rfl)
local macro_rules | `(tactic| walk_at "few") => `(tactic| first | assumption | omega | decide | (refine' Nat.lt_of_le_of_lt (Sg.putF_len ?ha) ?hb; (case ha => walk_at "fewi"); (case hb => decide)))
local macro_rules | `(tactic| walk_at "fewi") => `(tactic| first | assumption | (refine' Sg.putF_len ?ha; (case ha => walk_at "fewi")) | exact Nat.le_refl _)
local macro_rules | `(tactic| walk_at "rd1") => `(tactic| with_reducible (first | refine' Sg.r_seq ?_ | refine' Sg.r_asg ?_ | refine' Sg.r_gname ?_ | (refine' Sg.r_var (by with_unfolding_all rfl) ?_) | refine' Sg.r_c ?_ | refine' Sg.r_op ?_ | refine' Sg.r_un ?_ | refine' Sg.r_cb ?_ | refine' Sg.r_cons ?_ | refine' Sg.r_nil ?_ | (refine' Sg.r_mod ?hc ?_; (case hc => (with_unfolding_all walk_at "side")); (intro z hz z0 z1)) | (refine' Sg.r_rI ?hc ?_; (case hc => (with_unfolding_all walk_at "side"))) | refine' Sg.r_rI0 ?_ | refine' Sg.r_rU ?_ | refine' Sg.r_int ?_ | refine' Sg.r_eqi ?_ | refine' Sg.r_nei ?_ | (refine' Sg.r_ixl ?h ?e ?_; (case h => (with_unfolding_all walk_at "hp")); (case e => (with_unfolding_all rfl))) | (refine' Sg.r_ixt ?h ?e ?_; (case h => (with_unfolding_all walk_at "hp")); (case e => (with_unfolding_all rfl))) | (refine' Sg.r_lenl ?h ?_; (case h => (with_unfolding_all walk_at "hp"))) | (refine' Sg.r_lent ?h ?_; (case h => (with_unfolding_all walk_at "hp"))) | refine' Sg.r_test ?_ | refine' Sg.r_exb ?_ | refine' Sg.r_tB ?_ | refine' Sg.r_exbP ?_ | refine' Sg.r_ifs ?_ | refine' Sg.r_and ?_ | refine' Sg.r_or ?_ | refine' Sg.r_not ?_ | refine' Sg.r_andV ?_ | refine' Sg.r_orV ?_ | refine' Sg.r_notV ?_ | refine' Sg.r_tif ?_ | refine' Sg.r_isN ?_ | refine' Sg.r_notN ?_ | refine' Sg.r_ret ?_ | refine' Sg.r_drop ?_ | refine' Sg.r_next ?_ | refine' Sg.r_call ?_ | refine' Sg.r_make ?_ | refine' Sg.r_meth ?_ | refine' Sg.r_fld ?_ | refine' Sg.r_sfld ?_ | refine' Sg.r_chain ?_ | (refine' Sg.r_fldL ?h ?hc ?hn ?hl ?_; (case h => (with_unfolding_all walk_at "hp")); (case hc => assumption); (case hn => assumption); (case hl => (with_unfolding_all walk_at "lk"))) | (refine' Sg.r_sfldL ?h ?hc ?hn ?hl ?_; (case h => (with_unfolding_all walk_at "hp")); (case hc => assumption); (case hn => assumption); (case hl => (with_unfolding_all walk_at "few")); (with_unfolding_all walk_at "up")) | (refine' Sg.r_gunl ?h ?hl ?_; (case h => (with_unfolding_all walk_at "hp")); (case hl => (with_unfolding_all walk_at "side"))) | (refine' Sg.r_gtup ?h ?hl ?_; (case h => (with_unfolding_all walk_at "hp")); (case hl => (with_unfolding_all walk_at "side"))) | (refine' Sg.r_methL ?h ?hl ?_; (case h => (with_unfolding_all walk_at "hp")); (case hl => (with_unfolding_all walk_at "lk"))) | refine' Sg.r_tup ?_ | refine' Sg.r_lst ?_ | (refine' Sg.r_ktup ?hl ?_; (case hl => (with_unfolding_all first | exact Nat.le_of_ble_eq_true rfl | decide)); (with_unfolding_all walk_at "al")) | (refine' Sg.r_klst ?hl ?_; (case hl => (with_unfolding_all first | exact Nat.le_of_ble_eq_true rfl | decide)); (with_unfolding_all walk_at "al")) | (refine' Sg.r_listl ?h ?_; (case h => (with_unfolding_all walk_at "hp")); (with_unfolding_all walk_at "al")) | (refine' Sg.r_listt ?h ?_; (case h => (with_unfolding_all walk_at "hp")); (with_unfolding_all walk_at "al")) | (refine' Sg.r_tupl ?h ?_; (case h => (with_unfolding_all walk_at "hp")); (with_unfolding_all walk_at "al")) | (refine' Sg.r_tupt ?h ?_; (case h => (with_unfolding_all walk_at "hp"))) | (refine' Sg.r_in (.inr ?h) ?fx ?fs ?_; (case h => (with_unfolding_all walk_at "hp")); (case fx => (with_unfolding_all rfl)); (case fs => (with_unfolding_all rfl))) | (refine' Sg.r_in (.inl ?h) ?fx ?fs ?_; (case h => (with_unfolding_all walk_at "hp")); (case fx => (with_unfolding_all rfl)); (case fs => (with_unfolding_all rfl))) | (refine' Sg.r_sorted ?h ?h64 ?_; (case h => (with_unfolding_all walk_at "hp")); (case h64 => (with_unfolding_all walk_at "side")); (intro ns' p perm rising; revert p; (with_unfolding_all walk_at "al"))) | (refine' Sg.r_app ?h ?hl ?_; (case h => (with_unfolding_all walk_at "hp")); (case hl => (with_unfolding_all walk_at "size")); (with_unfolding_all walk_at "up")) | refine' Sg.r_lc ?_ | refine' Sg.r_for ?_ | refine' Sg.r_irng1 ?_ | refine' Sg.r_irng2 ?_ | refine' Sg.r_ilist ?_ | refine' Sg.r_itup ?_ | (refine' Sg.r_kR1 ?h1 ?h2 ?_; (case h1 => (with_unfolding_all walk_at "side")); (case h2 => (with_unfolding_all walk_at "side"))) | (refine' Sg.r_kR2 ?h1 ?_; (case h1 => (with_unfolding_all refine ⟨?_, ?_, ?_, ?_⟩ <;> walk_at "side"))) | (refine' Sg.r_kIl ?h ?_; (case h => (with_unfolding_all walk_at "hp"))) | (refine' Sg.r_kIt ?h ?_; (case h => (with_unfolding_all walk_at "hp"))) | refine' Sg.r_bm ?_ | refine' Sg.r_bm0 ?_ | (refine' Sg.r_tyl ?h ?_; (case h => (with_unfolding_all walk_at "hp"))) | refine' Sg.r_nonR ?_ | refine' Sg.r_nonN ?_ | refine' Sg.r_isR ?_ | refine' Sg.r_isNN ?_ | refine' Sg.r_nonI ?_ | refine' Sg.r_isI ?_ | refine' L2.iteT ?_ | refine' L2.iteF ?_ | refine' Sg.r_gcons ?_ | refine' Sg.r_gnil ?_ | refine' Sg.r_gsub ?_ | refine' Sg.r_isb ?_ | refine' Sg.r_notb ?_ | (refine' Sg.r_aug (by with_unfolding_all rfl) ?_) | refine' Sg.r_ipI ?_ | (refine' Sg.r_isi (b := true) (L2.ClsV.ty _) ?ht ?hk ?_; (case ht => (with_unfolding_all walk_at "tyx")); (case hk => (with_unfolding_all exact L2.kit_ty (by decide +kernel)))) | (refine' Sg.r_isi (b := false) (L2.ClsV.ty _) ?ht ?hk ?_; (case ht => (with_unfolding_all walk_at "tyx")); (case hk => (with_unfolding_all exact L2.kit_ty (by decide +kernel)))) | refine' Sg.r_gmap ?_ | refine' Sg.r_gmapn ?_ | (refine' Sg.r_iteb ?hb ?_; (case hb => (with_unfolding_all rfl))) | (refine' Sg.r_iteB ?hb ?_; (case hb => (with_unfolding_all rfl)))))
local macro_rules | `(tactic| walk_at "rd") => `(tactic| repeat walk_at "rd1")
local macro_rules | `(tactic| walk_at "rdo") => `(tactic| repeat (first | walk_at "rd1" | (with_reducible refine' Sg.r_iteD ?hc ?_; (case hc => first | assumption | omega)) | (with_reducible refine' Sg.r_iteDn ?hc ?_; (case hc => first | assumption | omega)) | (with_reducible refine' Sg.r_iteND ?hc ?_; (case hc => first | assumption | omega)) | (with_reducible refine' Sg.r_iteNDn ?hc ?_; (case hc => first | assumption | omega))))
local macro_rules | `(tactic| walk_at "rd1") => `(tactic| with_reducible (first | refine' Sg.r_sl ?_ | refine' Sg.r_noP ?_ | refine' Sg.r_part ?_ | refine' Sg.r_kPart ?_ | (refine' Sg.r_slL ?h ?_; (case h => (with_unfolding_all walk_at "hp")); (with_unfolding_all walk_at "al"))))
-- imports: HandS.NoneIn HandS.Defaults HandS.TupMul HandS.Zip HandS.SetFor HandS.SetKeys HandS.Walk HandS.Codes HandS.Property HandS.MakeKw HandS.More HandS.Dict HandS.Iter HandS.WordsDict KE.GoesEnum
section
variable {P : Program} {w : World} {K : PySem.W.Frag} {mg : Str → Option Value} {base : Heap}
theorem made_same {H H1 : Hp} {x dx : Addr} {o : HO} (nx : H x = none) (nd : H dx = none) (k : ∀ q, q ≠ x → H1 q = upd (upd H dx (.own x)) x o q) : Same H H1 := fun b u e => by
  rw [k b (ne_of_none e nx), upd_ne (ne_of_none e nx), upd_ne (ne_of_none e nd)]
  exact e

/-! ### numbers drawn from the script (the cell of an empty script is its number) -/
def sp_row (K : PySem.W.Frag) : Sp := fun vs H Q _ => ∃ (a : Addr) (ns : List Int) (k : Int), vs = [.ref a, .int k] ∧ SqL K H a (ns.map V.int) ∧ ns.length ≤ 63 ∧ 0 ≤ k ∧ k ≤ 1000 ∧ ∀ z : Int, 0 ≤ z → Q (.int z) H
theorem ok_law_row (T : Txt K mg) : FnOk P w K mg base CX0 1 T.a_law_row T.fd_law_row ["script", "k"] (sp_row K) := by
  refine T.F_law_row.ok sc_law_row (fun vs H Q E h => ?_) (fun cdv A outer s H vs Q E hr h => ?_)
  · obtain ⟨a, ns, k, rfl, _⟩ := h
    rfl
  · refine ⟨_, (pss_cons (ps_set (i := 2) sc_law_row.nd rfl (Or.inl rfl) (pv 1))
       (C8.pss_cut (ps_if (pt_cmpR op_gt (pe_callB (c_len) (by rfl) T.n_len (by decide +kernel) (pa_cons (pv 0) pa_nil)) pe_int (nomark _))
       (pss_one (ps_set (i := 2) sc_law_row.nd rfl (Or.inl rfl) (pe_callTy c_int (by rfl) T.n_int (by decide +kernel) (pa_cons (pe_ix ix_list (pv 0) (pe_op op_mod (pv 1) (pe_callB (c_len) (by rfl) T.n_len (by decide +kernel) (pa_cons (pv 0) pa_nil))) (fun _ _ => rfl)) pa_nil))))
       pss_nil)
       (C8.pss_cut (ps_if (pt_cmpR op_lt (pv 2) pe_int (nomark _))
       (pss_one (ps_set (i := 2) sc_law_row.nd rfl (Or.inl rfl) (pe_op op_sub (pe_op op_mul (pe_un un_neg pe_int) (pv 2)) pe_int)))
       pss_nil)
       (C8.pss_cut (ps_if (PW.pt (pw_and (pt_cmpR op_lt (pv 1) (pe_callB (c_len) (by rfl) T.n_len (by decide +kernel) (pa_cons (pv 0) pa_nil)) (nomark _)) (pw_and1 (pt_cmpR op_ge (pv 2) (pe_op op_pow pe_int pe_int) (nomark _)))))
       (pss_one (ps_ret (pv 2)))
       pss_nil)
       (pss_cons (ps_set (i := 3) sc_law_row.nd rfl (Or.inl rfl) (pe_op op_mod (pe_callTy c_int (by rfl) T.n_int (by decide +kernel) (pa_cons (pe_op op_add (pe_op op_add (pe_op op_mul (pv 2) pe_int) (pe_op op_mul (pv 1) pe_int)) pe_int) pa_nil)) pe_int))
       (pss_cons (ps_set (i := 4) sc_law_row.nd rfl (Or.inl rfl) (pe_op op_mod (pe_callTy c_int (by rfl) T.n_int (by decide +kernel) (pa_cons (pe_op op_add (pe_op op_add (pe_op op_add (pe_op op_mul (pv 3) pe_int) (pv 2)) (pe_op op_mul (pv 1) pe_int)) pe_int) pa_nil)) pe_int))
       (pss_cons (ps_set (i := 3) sc_law_row.nd rfl (Or.inl rfl) (pe_op op_mod (pe_callTy c_int (by rfl) T.n_int (by decide +kernel) (pa_cons (pe_op op_add (pe_op op_add (pe_op op_mul (pv 3) pe_int) (pe_op op_mul (pv 4) pe_int)) (pv 1)) pa_nil)) pe_int))
       (pss_one (ps_ret (pe_op op_add (pe_op op_mul (pv 4) pe_int) (pv 3))))))))))), ?_⟩
    try dsimp only [cxOf, Cx.nox, Cx.wish]
    obtain ⟨a, ns, k, rfl, hS, h63, k0, k1, q⟩ := h
    walk_at "rd"
    refine r_cut (fun σ' H' => ∃ z : Int, σ' = [some (.ref a), some (.int k), some (.int z), none, none] ∧ H = H') ?_ ?_
    · walk_at "rd"
      refine r_ite (fun hlen => ?_) (fun _ => ?_)
      · rw [List.length_map] at hlen
        walk_at "rd"
        rename_i z hz z0 z1
        rw [List.length_map] at z1
        refine r_ixl hS (v := .int (ns.getD z.toNat 0)) ?_ ?_
        · obtain ⟨n, rfl⟩ := Int.eq_ofNat_of_zero_le z0
          refine atI_nat ?_
          have hn : n < ns.length := by omega
          rw [List.getElem?_map, List.getElem?_eq_getElem hn, List.getD_eq_getElem?_getD, Int.toNat_natCast, List.getElem?_eq_getElem hn]
          rfl
        · walk_at "rd"
          exact ⟨_, rfl, rfl⟩
      · exact ⟨_, rfl, rfl⟩
    · rintro _ _ ⟨z, rfl, rfl⟩
      walk_at "rd"
      refine r_cut (fun σ' H' => ∃ z : Int, 0 ≤ z ∧ σ' = [some (.ref a), some (.int k), some (.int z), none, none] ∧ H = H') ?_ ?_
      · walk_at "rd"
        refine r_ite (fun _ => ?_) (fun _ => ?_)
        · walk_at "rd"
          exact ⟨_, by omega, rfl, rfl⟩
        · exact ⟨_, by omega, rfl, rfl⟩
      · rintro _ _ ⟨y, y0, rfl, rfl⟩
        walk_at "rd"
        refine r_cutS ?_ ?_
        · walk_at "rd"
          refine r_ite (fun _ => ?_) (fun _ => ?_)
          · walk_at "rd"
            refine r_ite (fun _ => ?_) (fun _ => ?_)
            · walk_at "rd"
              exact q _ y0
            · exact ⟨rfl, rfl⟩
          · walk_at "rd"
            exact ⟨rfl, rfl⟩
        · walk_at "rd"
          exact q _ (by omega)

def sp_parts_of : Sp := fun vs H Q _ => ∃ n s : Int, vs = [.int n, .int s] ∧ 0 < s ∧ s < 1073741824 ∧ Q (.int ((n + s - 1) / s)) H
theorem ok_parts_of (T : Txt K mg) : FnOk P w K mg base CX0 1 T.a_parts_of T.fd_parts_of ["number", "size"] sp_parts_of := by
  refine T.F_parts_of.ok sc_parts_of (fun vs H Q E h => ?_) (fun cdv A outer s H vs Q E hr h => ?_)
  · obtain ⟨n, s, rfl, _⟩ := h
    rfl
  · refine ⟨_, (pss_one (ps_ret (pe_op op_fdiv (pe_op op_sub (pe_op op_add (pv 0) (pv 1)) pe_int) (pv 1)))), ?_⟩
    try dsimp only [cxOf, Cx.nox, Cx.wish]
    obtain ⟨n, s, rfl, h1, h2, q⟩ := h
    walk_at "rd"
    exact q
/-! ### layouts -/
/-- the numbers of a layout -/
structure Lay where
  seg : Int
  blk : Int
  size : Int
  pay : Int
  lim : Int
  last : Int
  fan : Int
  reg : Int
  dev : Int
def layOf (s b z : Int) : Lay := ⟨s, b, z, b - 1, (s - 2) * (b - 1), (s - 2) * (b - 1) + (b - 1), z / 2, (2 * (4 * ((s - 2) * (b - 1) + (b - 1)) + 6 + s) + z - 1) / z, 2 * ((2 * (4 * ((s - 2) * (b - 1) + (b - 1)) + 6 + s) + z - 1) / z) + s * b⟩
/-- three sizes that a layout can have -/
structure Fits (s b z : Int) : Prop where
  s0 : 4 ≤ s
  s1 : s ≤ 16
  b0 : 16 ≤ b
  b1 : b ≤ 32
  zz : z = 64 ∨ z = 128 ∨ z = 256
  fit : 16 + 2 * (b - 1) + ((s - 2) * (b - 1) + (b - 1) + 8 - 1) / 8 ≤ z
/-- the fields of a layout -/
structure LayFs (L : Lay) (fs : List (Str × V)) : Prop where
  seg : fs.lookup ("segments" : Str) = some (V.int L.seg)
  blk : fs.lookup ("segment_blocks" : Str) = some (V.int L.blk)
  size : fs.lookup ("block_size" : Str) = some (V.int L.size)
  pay : fs.lookup ("payload" : Str) = some (V.int L.pay)
  lim : fs.lookup ("limit" : Str) = some (V.int L.lim)
  last : fs.lookup ("last_id" : Str) = some (V.int L.last)
  fan : fs.lookup ("fan" : Str) = some (V.int L.fan)
  reg : fs.lookup ("region_blocks" : Str) = some (V.int L.reg)
  dev : fs.lookup ("device_blocks" : Str) = some (V.int L.dev)
def LayAt (C : Addr) (L : Lay) (H : Hp) (p : Addr) : Prop := ∃ dx fs, H p = some (.ins C dx fs) ∧ LayFs L fs
theorem LayAt.mono {C : Addr} {L : Lay} {H H' : Hp} {p : Addr} (s : Same H H') (h : LayAt C L H p) : LayAt C L H' p := by
  obtain ⟨dx, fs, h1, h2⟩ := h
  exact ⟨dx, fs, s _ _ h1, h2⟩
def sp_layout (C : Addr) : Sp := fun vs H Q _ => ∃ (p dx : Addr) (s b z : Int), vs = [.ref p, .int s, .int b, .int z] ∧ H p = some (.ins C dx []) ∧ Fits s b z ∧
  ∀ H' fs, (∀ q, q ≠ p → H' q = H q) → H' p = some (.ins C dx fs) → LayFs (layOf s b z) fs → Q .non H'
theorem in_sizes {z : Int} (h : z = 64 ∨ z = 128 ∨ z = 256) : (!inV (V.int z) [V.int 64, V.int 128, V.int 256]) = false := by
  rcases h with rfl | rfl | rfl <;> decide
theorem keep1 {H H1 H' : Hp} {p : Addr} {o : HO} (h : ∀ q, q ≠ p → H1 q = H q) (e : upd H1 p o = H') : ∀ q, q ≠ p → H' q = H q := fun q hq => by
  rw [← e, upd_ne hq]
  exact h q hq
theorem ok_Layout___init (T : Txt K mg) : FnOk P w K mg base CX0 2 T.a_Layout___init T.fd_Layout___init ["self", "segments", "segment_blocks", "block_size"] (sp_layout T.A_Layout) := by
  refine T.F_Layout___init.ok sc_Layout___init (fun vs H Q E h => ?_) (fun cdv A outer s H vs Q E hr h => ?_)
  · obtain ⟨p, dx, s, b, z, rfl, _⟩ := h
    rfl
  · refine ⟨_, (pss_cons (ps_if (pt_not (pt_chain op_le op_le pe_int (pv 1) pe_int))
       (pss_one ps_never)
       pss_nil)
       (pss_cons (ps_if (pt_not (pt_chain op_le op_le pe_int (pv 2) pe_int))
       (pss_one ps_never)
       pss_nil)
       (pss_cons (ps_if (pt_cmpR op_notIn_seq (pv 3) (pe_glob rfl T.c_BLOCK_SIZES T.r_BLOCK_SIZES) (by with_unfolding_all rfl))
       (pss_one ps_never)
       pss_nil)
       (pss_cons (ps_fld (pv 0) (pv 1) rfl)
       (pss_cons (ps_fld (pv 0) (pv 2) rfl)
       (pss_cons (ps_fld (pv 0) (pv 3) rfl)
       (pss_cons (ps_fld (pv 0) (pe_op op_sub (pv 2) pe_int) rfl)
       (pss_cons (ps_fld (pv 0) (pe_op op_mul (pe_op op_sub (pv 1) pe_int) (pe_fld (pv 0) rfl)) rfl)
       (pss_cons (ps_fld (pv 0) (pe_op op_add (pe_fld (pv 0) rfl) (pe_fld (pv 0) rfl)) rfl)
       (pss_cons (ps_fld (pv 0) (pe_op op_fdiv (pv 3) pe_int) rfl)
       (pss_cons (ps_fld (pv 0) (pe_call (ok_parts_of T) (hr.mono (by decide)) rfl T.m_parts_of T.F_parts_of.kp T.b_parts_of .nil pass0 (pa_cons (pe_op op_mul pe_int (pe_op op_add (pe_op op_add (pe_op op_mul pe_int (pe_fld (pv 0) rfl)) pe_int) (pv 1))) (pa_cons (pv 3) pa_nil))) rfl)
       (pss_cons (ps_fld (pv 0) (pe_op op_add (pe_op op_mul pe_int (pe_fld (pv 0) rfl)) (pe_op op_mul (pv 1) (pv 2))) rfl)
       (pss_one (ps_if (pt_cmpR op_gt (pe_op op_add (pe_op op_add (pe_glob rfl T.c_SUMMARY_HEAD T.r_SUMMARY_HEAD) (pe_op op_mul pe_int (pe_fld (pv 0) rfl))) (pe_call (ok_parts_of T) (hr.mono (by decide)) rfl T.m_parts_of T.F_parts_of.kp T.b_parts_of .nil pass0 (pa_cons (pe_fld (pv 0) rfl) (pa_cons pe_int pa_nil)))) (pv 3) (nomark _))
       (pss_one ps_never)
       pss_nil)))))))))))))), ?_⟩
    try dsimp only [cxOf, Cx.nox, Cx.wish]
    obtain ⟨p, dx, s, b, z, rfl, hp, hF, q⟩ := h
    obtain ⟨s0, s1, b0, b1, hz, fit⟩ := hF
    have cl := T.cl_Layout
    have na1 := T.na_Layout_segments
    have na2 := T.na_Layout_segment_blocks
    have na3 := T.na_Layout_block_size
    have na4 := T.na_Layout_payload
    have na5 := T.na_Layout_limit
    have na6 := T.na_Layout_last_id
    have na7 := T.na_Layout_fan
    have na8 := T.na_Layout_region_blocks
    have na9 := T.na_Layout_device_blocks
    walk_at "rdo"
    refine r_in (.inr (T.v_BLOCK_SIZES _)) rfl rfl ?_
    walk_at "rd"
    refine r_iteB (in_sizes hz) ?_
    walk_at "rdo"
    refine ⟨_, _, rfl, by omega, by omega, ?_⟩
    walk_at "rdo"
    refine ⟨_, _, rfl, by omega, by omega, ?_⟩
    walk_at "rdo"
    refine q _ _ ?kk (by walk_at "hp") ⟨by walk_at "lk", by walk_at "lk", by walk_at "lk", by walk_at "lk", by walk_at "lk", by walk_at "lk", by walk_at "lk", by walk_at "lk", by walk_at "lk"⟩
    case kk =>
      repeat (refine keep1 ?_ (by assumption))
      exact fun _ _ => rfl

/-! ### enumerate of a list -/
def kIe (K : PySem.W.Frag) (R : It → Hp → Prop) : List V → Hp → Prop := fun vs H1 => ∃ a xs, vs = [.ref a] ∧ SqL K H1 a xs ∧ R (Ite K a) H1
theorem r_ienum {K : PySem.W.Frag} {ta : TA} {σ : L2.St} {H : Hp} {R : It → Hp → Prop} (h : ta σ H (kIe K R)) : iEnum K ta σ H R := h
theorem r_kIe {K : PySem.W.Frag} {a : Addr} {xs : List V} {H : Hp} {R : It → Hp → Prop} (h1 : SqL K H a xs) (h : R (Ite K a) H) : kIe K R [.ref a] H := ⟨a, xs, rfl, h1, h⟩
theorem r_forE {K : PySem.W.Frag} {a : Addr} {xs : List V} {σ : L2.St} {H : Hp} {D : Ends} {g : TG} {tb : TS} (Pv : Nat → L2.St → Hp → Prop) (h0 : Pv 0 σ H) (hl : ∀ i σ H, i ≤ xs.length → Pv i σ H → SqL K H a xs)
    (hs : ∀ (i : Nat) (x : V) (σ : L2.St) (H H' : Hp) (T : Addr), xs[i]? = some x → Pv i σ H → H T = none → upd H T (.tup [.int (i : Nat), x]) = H' → g (.ref T) σ H' fun σ2 H2 => tb { D with nx := Pv (i + 1), ct := Pv (i + 1), bk := D.nx } σ2 H2)
    (hd : ∀ σ H, Pv xs.length σ H → D.nx σ H) : kFor g tb D σ (Ite K a) H :=
  for_it walk_enum Pv h0 hl (fun i x σ H H' hlt p y => by
    obtain ⟨T, z, w, e1, e2, e3, e4, e5⟩ := y
    cases e4
    rw [e1]
    exact hs i w σ H H' T e5 p e2 e3.symm) hd
def SqI (K : PySem.W.Frag) (H : Hp) (l : Addr) (ns : List Int) : Prop := SqL K H l (ns.map V.int) ∨ SqT K H l (ns.map V.int)
theorem SqI.mono {K : PySem.W.Frag} {H H' : Hp} {l : Addr} {ns : List Int} (s : Same H H') (h : SqI K H l ns) : SqI K H' l ns := h.imp (fun h => s.seq h) (fun h => Same.tup s h)
theorem inV_ints (k : Int) : ∀ ns : List Int, inV (.int k) (ns.map V.int) = decide (k ∈ ns)
  | [] => rfl
  | n :: ns => by
    have ih := inV_ints k ns
    unfold inV at ih ⊢
    rw [List.map_cons, List.any_cons, ih]
    by_cases e : k = n
    · subst e
      simp [eqV]
    · have e' : ¬ n = k := fun z => e z.symm
      simp [eqV, e, e']
theorem flat_ints : ∀ ns : List Int, (ns.map V.int).all flatV = true
  | [] => rfl
  | n :: ns => by rw [List.map_cons, List.all_cons, flat_ints ns]; rfl

theorem r_neI {K : PySem.W.Frag} {H : Hp} {a b : Addr} {ns : List Int} {Q : V → Hp → Prop} (ha : SqL K H a (ns.map V.int)) (hb : SqL K H b (ns.map V.int)) (q : Q (.bl false) H) : rNeD K (.ref a) (.ref b) H Q := by
  refine r_ned (Dp.ints ha) (Dp.ints hb) (Fl.intlS ns) (Fl.intlS ns) ?_
  rw [(Fl.intl ns).self]
  exact q
theorem r_eqI {K : PySem.W.Frag} {H : Hp} {a b : Addr} {ns : List Int} {Q : V → Hp → Prop} (ha : SqL K H a (ns.map V.int)) (hb : SqL K H b (ns.map V.int)) (q : Q (.bl true) H) : rEqD K (.ref a) (.ref b) H Q := by
  refine r_eqd (Dp.ints ha) (Dp.ints hb) (Fl.intlS ns) (Fl.intlS ns) ?_
  rw [(Fl.intl ns).self]
  exact q

/-! ### while, by a word with a measure -/
theorem r_while {c : TT} {tb : TS} {D : Ends} {σ : L2.St} {H : Hp} (Pv : Nat → L2.St → Hp → Prop) (m : Nat) (h0 : Pv m σ H)
    (hs : ∀ m σ H, Pv m σ H → c σ H fun b H1 => if b = true then ∃ N : L2.St → Hp → Prop, (∀ σ' H', N σ' H' → ∃ m', m' < m ∧ Pv m' σ' H') ∧ tb { D with nx := N, ct := N, bk := D.nx } σ H1 else D.nx σ H1) : tWhile c tb D σ H :=
  ⟨Pv, ⟨m, h0⟩, hs⟩

/-! ### dicts with int keys: readings by name -/
def kDI2 (y : V) (Q : V → Hp → Prop) : V → Hp → Prop := fun x H2 => ∃ a o, x = .ref a ∧ DGet H2 a y o ∧ Q (.bl o.isSome) H2
def kDI (td : TE) (σ : L2.St) (Q : V → Hp → Prop) : V → Hp → Prop := fun y H1 => td σ H1 (kDI2 y Q)
def kDN2 (y : V) (Q : V → Hp → Prop) : V → Hp → Prop := fun x H2 => ∃ a o, x = .ref a ∧ DGet H2 a y o ∧ Q (.bl (!o.isSome)) H2
def kDN (td : TE) (σ : L2.St) (Q : V → Hp → Prop) : V → Hp → Prop := fun y H1 => td σ H1 (kDN2 y Q)
def kDG2 (x : V) (Q : V → Hp → Prop) : V → Hp → Prop := fun y H2 => ∃ a v, x = .ref a ∧ DGet H2 a y (some v) ∧ Q v H2
def kDG (ty : TE) (σ : L2.St) (Q : V → Hp → Prop) : V → Hp → Prop := fun x H1 => ty σ H1 (kDG2 x Q)
def kDT2 (a : Addr) (Q : V → Hp → Prop) : V → Hp → Prop := fun y H2 => ∃ o, DGet H2 a y o ∧ Q (o.getD .non) H2
def kDT (ty : TE) (σ : L2.St) (Q : V → Hp → Prop) : V → Hp → Prop := fun x H1 => ∃ a, x = .ref a ∧ IsD H1 a ∧ ty σ H1 (kDT2 a Q)
def kDP3 (D : Ends) (σ : L2.St) (v x : V) : V → Hp → Prop := fun y H3 => ∃ a H4, x = .ref a ∧ DPut H3 a y v H4 ∧ D.nx σ H4
def kDP2 (D : Ends) (σ : L2.St) (ty : TE) (v : V) : V → Hp → Prop := fun x H2 => ty σ H2 (kDP3 D σ v x)
def kDP (D : Ends) (σ : L2.St) (td ty : TE) : V → Hp → Prop := fun v H1 => td σ H1 (kDP2 D σ ty v)
def kDD2 (D : Ends) (σ : L2.St) (x : V) : V → Hp → Prop := fun y H2 => ∃ a kvs k, x = .ref a ∧ H2 a = some (.dK kvs) ∧ y = kV k ∧ (valV kvs k).isSome = true ∧ D.nx σ (upd H2 a (.dK (dropK kvs k)))
def kDD (D : Ends) (σ : L2.St) (ty : TE) : V → Hp → Prop := fun x H1 => ty σ H1 (kDD2 D σ x)
def kDO2 (a : Addr) (Q : V → Hp → Prop) : V → Hp → Prop := fun y H2 => ∃ kvs k v, H2 a = some (.dK kvs) ∧ y = kV k ∧ valV kvs k = some v ∧ Q v (upd H2 a (.dK (dropK kvs k)))
def kDO (ty : TE) (σ : L2.St) (Q : V → Hp → Prop) : V → Hp → Prop := fun x H1 => ∃ a, x = .ref a ∧ IsD H1 a ∧ ty σ H1 (kDO2 a Q)
def kIk (R : It → Hp → Prop) : V → Hp → Prop := fun x H1 => ∃ d o, x = .ref d ∧ ((∃ kvs, H1 d = some (.frz o (.dK kvs)) ∧ R (Itk d o kvs) H1) ∨ ∃ kvs, H1 d = some (.frz o (.dT kvs)) ∧ R (Itkt d o kvs) H1)
def rLenD : List V → Hp → (V → Hp → Prop) → Prop := fun xs H Q => ∃ a kvs, xs = [V.ref a] ∧ H a = some (.dK kvs) ∧ Q (.int kvs.length) H
def rDictD : List V → Hp → (V → Hp → Prop) → Prop := fun xs H Q => ∃ (a : Addr) (kvs : List (Key × V)), xs = [.ref a] ∧ Rd H a (.dK kvs) ∧ ∀ p, H p = none → Q (.ref p) (upd H p (.dK kvs))
section
variable {σ : L2.St} {H : Hp} {D : Ends} {td ty tv : TE} {Q : V → Hp → Prop} {a : Addr} {kvs : List (Key × V)} {i : Int} {v y : V} {R : It → Hp → Prop} {o : Obj}
theorem r_din (h : ty σ H (kDI td σ Q)) : tDIn ty td σ H Q := h
theorem r_kdi (h : td σ H (kDI2 y Q)) : kDI td σ Q y H := h
theorem r_kdi2 (h : H a = some (.dK kvs)) (q : Q (.bl (valV kvs (.inl i)).isSome) H) : kDI2 (.int i) Q (.ref a) H := ⟨a, _, rfl, DGet.k (k := .inl i) h, q⟩
theorem r_kdi2f (h : H a = some (.frz o (.dK kvs))) (q : Q (.bl (valV kvs (.inl i)).isSome) H) : kDI2 (.int i) Q (.ref a) H := ⟨a, _, rfl, .inl ⟨kvs, .inl i, .inr ⟨o, h⟩, rfl, rfl⟩, q⟩
theorem r_dnotin (h : ty σ H (kDN td σ Q)) : tDNotIn ty td σ H Q := h
theorem r_kdn (h : td σ H (kDN2 y Q)) : kDN td σ Q y H := h
theorem r_kdn2 (h : H a = some (.dK kvs)) (q : Q (.bl (!(valV kvs (.inl i)).isSome)) H) : kDN2 (.int i) Q (.ref a) H := ⟨a, _, rfl, DGet.k (k := .inl i) h, q⟩
theorem r_dget (h : td σ H (kDG ty σ Q)) : tDGet td ty σ H Q := h
theorem r_kdg (h : ty σ H (kDG2 y Q)) : kDG ty σ Q y H := h
theorem r_kdg2 (h : H a = some (.dK kvs)) (e : valV kvs (.inl i) = some v) (q : Q v H) : kDG2 (.ref a) Q (.int i) H := ⟨a, v, rfl, by rw [← e]; exact DGet.k (k := .inl i) h, q⟩
theorem r_kdg2f (h : H a = some (.frz o (.dK kvs))) (e : valV kvs (.inl i) = some v) (q : Q v H) : kDG2 (.ref a) Q (.int i) H := ⟨a, v, rfl, by rw [← e]; exact .inl ⟨kvs, .inl i, .inr ⟨o, h⟩, rfl, rfl⟩, q⟩
theorem r_dget1 (h : td σ H (kDT ty σ Q)) : tDGet1 td ty σ H Q := h
theorem r_kdt (h : H a = some (.dK kvs)) (q : ty σ H (kDT2 a Q)) : kDT ty σ Q (.ref a) H := ⟨a, rfl, .inl ⟨kvs, .inl h⟩, q⟩
theorem r_kdt2 (h : H a = some (.dK kvs)) (q : Q ((valV kvs (.inl i)).getD .non) H) : kDT2 a Q (.int i) H := ⟨_, DGet.k (k := .inl i) h, q⟩
theorem r_dput (h : tv σ H (kDP D σ td ty)) : sDPut td ty tv D σ H := h
theorem r_kdp (h : td σ H (kDP2 D σ ty v)) : kDP D σ td ty v H := h
theorem r_kdp2 (h : ty σ H (kDP3 D σ v y)) : kDP2 D σ ty v y H := h
theorem r_kdp3 (h : H a = some (.dK kvs)) (hl : kvs.length ≤ 100000) (q : D.nx σ (upd H a (.dK (putK kvs (.inl i) v)))) : kDP3 D σ v (.ref a) (.int i) H := ⟨a, _, rfl, DPut.k (k := .inl i) h (by rw [sz]; omega), q⟩
theorem r_ddel (h : td σ H (kDD D σ ty)) : sDDel td ty D σ H := h
theorem r_kdd (h : ty σ H (kDD2 D σ y)) : kDD D σ ty y H := h
theorem r_kdd2 (h : H a = some (.dK kvs)) (e : (valV kvs (.inl i)).isSome = true) (q : D.nx σ (upd H a (.dK (dropK kvs (.inl i))))) : kDD2 D σ (.ref a) (.int i) H := ⟨a, kvs, .inl i, rfl, h, rfl, e, q⟩
theorem r_dpop1 (h : td σ H (kDO ty σ Q)) : tDPop1 td ty σ H Q := h
theorem r_kdo (h : H a = some (.dK kvs)) (q : ty σ H (kDO2 a Q)) : kDO ty σ Q (.ref a) H := ⟨a, rfl, .inl ⟨kvs, .inl h⟩, q⟩
theorem r_kdo2 (h : H a = some (.dK kvs)) (e : valV kvs (.inl i) = some v) (q : Q v (upd H a (.dK (dropK kvs (.inl i))))) : kDO2 a Q (.int i) H := ⟨kvs, .inl i, v, h, rfl, e, q⟩
theorem r_ikeys (h : td σ H (kIk R)) : iKeys td σ H R := h
theorem r_kIk (h : H a = some (.frz o (.dK kvs))) (q : R (Itk a o kvs) H) : kIk R (.ref a) H := ⟨a, o, rfl, .inl ⟨kvs, h, q⟩⟩
theorem r_dnew (h : ∀ p, H p = none → Q (.ref p) (upd H p (.dK []))) : tDNewK σ H Q := h
theorem r_lenD (h : H a = some (.dK kvs)) (q : Q (.int kvs.length) H) : rLenD [.ref a] H Q := ⟨a, kvs, rfl, h, q⟩
theorem r_dictD (h : H a = some (.dK kvs)) (q : ∀ p, H p = none → Q (.ref p) (upd H p (.dK kvs))) : rDictD [.ref a] H Q := ⟨a, kvs, rfl, .inl h, q⟩
theorem c_lenD {X : Cx} : CallR X (.builtin "len") rLenD := call_lenD
theorem c_dictD {X : Cx} : CallR X (.type "dict") rDictD := call_dictD
/-- a for over a locked dict with int keys -/
theorem r_forKeys {g : TG} {tb : TS} (Pv : Nat → L2.St → Hp → Prop) (h0 : Pv 0 σ H) (hG : ∀ i σ H, i ≤ kvs.length → Pv i σ H → H a = some (.frz o (.dK kvs)))
    (hs : ∀ (j : Nat) (k : Key) (v : V) (σ : L2.St) (H : Hp), kvs[j]? = some (k, v) → Pv j σ H → g (kV k) σ H fun σ2 H2 => tb { D with nx := Pv (j + 1), ct := Pv (j + 1), bk := D.nx } σ2 H2) (hd : ∀ σ H, Pv kvs.length σ H → D.nx σ H) : kFor g tb D σ (Itk a o kvs) H :=
  for_it walk_keys Pv h0 hG (fun j x σ H H' hj p ⟨e, k, v, hk, hx⟩ => by subst e; rw [hx]; exact hs j k v σ _ hk p) hd
end
/-! ### the mathematics of such dicts -/
structure Dk (kvs : List (Key × V)) (ks : List Int) : Prop where
  keys : kvs.map (·.1) = ks.map Sum.inl
  nd : ks.Nodup
theorem Dk.len {kvs : List (Key × V)} {ks : List Int} (h : Dk kvs ks) : kvs.length = ks.length := by
  have := congrArg List.length h.keys
  rwa [List.length_map, List.length_map] at this
theorem Dk.has {kvs : List (Key × V)} {ks : List Int} (h : Dk kvs ks) (i : Int) : (valV kvs (Sum.inl i : Key)).isSome = decide (i ∈ ks) := by
  rw [← valV_any]
  have e : (kvs.any fun kv => decide (kv.1 = (Sum.inl i : Key))) = (kvs.map (·.1)).any fun k => decide (k = (Sum.inl i : Key)) := by rw [List.any_map]; rfl
  rw [e, h.keys, List.any_map, Bool.eq_iff_iff]
  simp [List.any_eq_true]
theorem Dk.nil : Dk [] [] := ⟨rfl, List.nodup_nil⟩
theorem Dk.put {kvs : List (Key × V)} {ks : List Int} (h : Dk kvs ks) (i : Int) (v : V) : Dk (putK kvs (Sum.inl i) v) (if i ∈ ks then ks else ks ++ [i]) := by
  have e := h.has i
  rw [← valV_any] at e
  unfold putK
  rw [e]
  by_cases c : i ∈ ks
  · rw [if_pos c, if_pos (decide_eq_true c)]
    refine ⟨?_, h.nd⟩
    rw [← h.keys, List.map_map]
    refine List.map_congr_left fun kv _ => ?_
    show (if kv.1 = _ then (kv.1, v) else kv).1 = kv.1
    split <;> rfl
  · rw [if_neg c, if_neg (by simpa using c)]
    refine ⟨by rw [List.map_append, List.map_append, h.keys]; rfl, ?_⟩
    rw [List.nodup_append]
    refine ⟨h.nd, by simp, fun x hx y hy => ?_⟩
    rw [List.mem_singleton.mp hy]
    intro z
    exact c (z ▸ hx)
theorem Dk.drop {kvs : List (Key × V)} {ks : List Int} (h : Dk kvs ks) (i : Int) : Dk (dropK kvs (Sum.inl i)) (ks.filter fun k => decide (k ≠ i)) := by
  refine ⟨?_, h.nd.filter _⟩
  unfold dropK
  have gen : ∀ (kvs : List (Key × V)) (ks : List Int), kvs.map (·.1) = ks.map Sum.inl → (kvs.filter fun kv => decide (kv.1 ≠ (Sum.inl i : Key))).map (·.1) = (ks.filter fun k => decide (k ≠ i)).map Sum.inl := by
    intro kvs
    induction kvs with
    | nil => intro ks e; cases ks with | nil => rfl | cons k r => cases e
    | cons kv r ih =>
      intro ks e
      cases ks with
      | nil => cases e
      | cons k r' =>
        rw [List.map_cons, List.map_cons] at e
        injection e with e1 e2
        by_cases c : k = i
        · have c1 : kv.1 = (Sum.inl i : Key) := by rw [e1, c]
          rw [List.filter_cons_of_neg (by simpa using c1), List.filter_cons_of_neg (by simpa using c)]
          exact ih r' e2
        · have c1 : kv.1 ≠ (Sum.inl i : Key) := by rw [e1]; intro z; cases z; exact c rfl
          rw [List.filter_cons_of_pos (by simpa using c1), List.filter_cons_of_pos (by simpa using c), List.map_cons, List.map_cons, e1, ih r' e2]
  exact gen kvs ks h.keys
theorem Dk.val {kvs : List (Key × V)} {ks : List Int} (h : Dk kvs ks) {j : Nat} {k : Key} {v : V} (e : kvs[j]? = some (k, v)) : ∃ i : Int, ks[j]? = some i ∧ k = Sum.inl i ∧ valV kvs k = some v := by
  have e1 : (kvs.map (·.1))[j]? = some k := by rw [List.getElem?_map, e]; rfl
  rw [h.keys, List.getElem?_map] at e1
  obtain ⟨i, hi, rfl⟩ := Option.map_eq_some_iff.mp e1
  refine ⟨i, hi, rfl, ?_⟩
  have gen : ∀ (kvs : List (Key × V)) (ks : List Int) (j : Nat), kvs.map (·.1) = ks.map Sum.inl → ks.Nodup → ks[j]? = some i → kvs[j]? = some (Sum.inl i, v) → valV kvs (Sum.inl i : Key) = some v := by
    intro kvs
    induction kvs with
    | nil => intro ks j _ _ _ z; simp at z
    | cons kv r ih =>
      intro ks j e nd hi hv
      cases ks with
      | nil => cases e
      | cons k r' =>
        rw [List.map_cons, List.map_cons] at e
        injection e with e1 e2
        cases j with
        | zero =>
          simp at hi hv
          rw [valV_pos (by rw [hv]), hv]
        | succ j =>
          simp at hi hv
          have nd' := List.nodup_cons.mp nd
          have : ¬ kv.1 = (Sum.inl i : Key) := by
            rw [e1]
            intro z
            cases z
            exact nd'.1 (List.mem_of_getElem? hi)
          rw [valV_neg this]
          exact ih r' j e2 nd'.2 hi hv
  exact gen kvs ks j h.keys h.nd hi e
theorem Dk.take {kvs : List (Key × V)} {ks : List Int} (h : Dk kvs ks) (j : Nat) : Dk (kvs.take j) (ks.take j) := ⟨by rw [List.map_take, List.map_take, h.keys], h.nd.sublist (List.take_sublist ..)⟩
/-- one pair more is copied -/
theorem Dk.copy {kvs : List (Key × V)} {ks : List Int} (h : Dk kvs ks) {j : Nat} {k : Key} {v : V} (e : kvs[j]? = some (k, v)) : putK (kvs.take j) k v = kvs.take (j + 1) := by
  obtain ⟨i, hi, rfl, _⟩ := h.val e
  have h1 := (h.take j).has i
  rw [← valV_any] at h1
  have hn : i ∉ ks.take j := fun m => by
    obtain ⟨n, hn, en⟩ := List.mem_iff_getElem.mp m
    have hn' : n < j := by rw [List.length_take] at hn; omega
    rw [List.getElem_take] at en
    obtain ⟨hj, ej⟩ := List.getElem?_eq_some_iff.mp hi
    exact (List.pairwise_iff_getElem.mp h.nd) n j (by omega) hj hn' (en.trans ej.symm)
  unfold putK
  rw [h1, if_neg (by simpa using hn), List.take_add_one, e]
  rfl

local macro_rules | `(tactic| walk_at "rx1") => `(tactic| with_reducible (first | refine' Sg.r_prop ?_ | (refine' Sg.r_kprop ?h ?_; (case h => (with_unfolding_all walk_at "hp"))) | refine' Sg.r_irev ?_ | (refine' Sg.r_kIv ?h ?_; (case h => (with_unfolding_all walk_at "hp"))) | refine' Sg.r_makeN ?_ | refine' Sg.r_callN ?_ | refine' Sg.r_makeSD ?_ | refine' Sg.r_callSD ?_ | refine' Sg.r_methSD ?_ | (refine' Sg.r_kmethSD ?h ?hl ?_; (case h => (with_unfolding_all walk_at "hp")); (case hl => (with_unfolding_all walk_at "lk"))) | refine' Sg.r_tryA ?_ | refine' Sg.r_din ?_ | refine' Sg.r_kdi ?_ | (refine' Sg.r_kdi2 ?h ?_; (case h => (with_unfolding_all walk_at "hp"))) | (refine' Sg.r_kdi2f ?h ?_; (case h => assumption)) | refine' Sg.r_dnotin ?_ | refine' Sg.r_kdn ?_ | (refine' Sg.r_kdn2 ?h ?_; (case h => (with_unfolding_all walk_at "hp"))) | refine' Sg.r_dget ?_ | refine' Sg.r_kdg ?_ | refine' Sg.r_dget1 ?_ | (refine' Sg.r_kdt ?h ?_; (case h => (with_unfolding_all walk_at "hp"))) | (refine' Sg.r_kdt2 ?h ?_; (case h => (with_unfolding_all walk_at "hp"))) | refine' Sg.r_dput ?_ | refine' Sg.r_kdp ?_ | refine' Sg.r_kdp2 ?_ | (refine' Sg.r_kdp3 ?h ?hl ?_; (case h => (with_unfolding_all walk_at "hp")); (case hl => (with_unfolding_all walk_at "side")); (with_unfolding_all walk_at "up")) | refine' Sg.r_ddel ?_ | refine' Sg.r_kdd ?_ | refine' Sg.r_dpop1 ?_ | (refine' Sg.r_kdo ?h ?_; (case h => (with_unfolding_all walk_at "hp"))) | refine' Sg.r_ikeys ?_ | (refine' Sg.r_kIk ?h ?_; (case h => assumption)) | (refine' Sg.r_dnew ?_; (with_unfolding_all walk_at "al")) | (refine' Sg.r_lenD ?h ?_; (case h => (with_unfolding_all walk_at "hp"))) | (refine' Sg.r_dictD ?h ?_; (case h => (with_unfolding_all walk_at "hp")); (with_unfolding_all walk_at "al"))))
local macro_rules | `(tactic| walk_at "rx") => `(tactic| repeat (first | walk_at "rd1" | walk_at "rx1"))
def IsLeast (ks : List Int) (L : Int) : Prop := 1 ≤ L ∧ L ∉ ks ∧ ∀ i, 1 ≤ i → i < L → i ∈ ks
theorem IsLeast.uniq {ks : List Int} {a b : Int} (h : IsLeast ks a) (h' : IsLeast ks b) : a = b := by
  rcases Int.lt_trichotomy a b with c | c | c
  · exact absurd (h'.2.2 a h.1 c) h.2.1
  · exact c
  · exact absurd (h.2.2 b h'.1 c) h'.2.1
theorem pigeon : ∀ (n : Nat) (ks : List Int), (∀ i : Int, 1 ≤ i → i ≤ n → i ∈ ks) → n ≤ ks.length
  | 0, _, _ => Nat.zero_le _
  | n + 1, ks, h => by
    have hm : ((n + 1 : Nat) : Int) ∈ ks := h _ (by omega) (Int.le_refl _)
    have ih := pigeon n (ks.erase ((n + 1 : Nat) : Int)) fun i h1 h2 => (List.mem_erase_of_ne (by omega)).mpr (h i h1 (by omega))
    rw [List.length_erase_of_mem hm] at ih
    have : 0 < ks.length := List.length_pos_of_mem hm
    omega
/-- all below are there -/
def Below (ks : List Int) (l : Int) : Prop := 1 ≤ l ∧ ∀ i, 1 ≤ i → i < l → i ∈ ks
theorem Below.room {ks : List Int} {l : Int} (h : Below ks l) : l ≤ ks.length + 1 := by
  have := pigeon (l - 1).toNat ks fun i h1 h2 => h.2 i h1 (by omega)
  have := h.1
  omega
theorem Below.step {ks : List Int} {l : Int} (h : Below ks l) (hm : l ∈ ks) : Below ks (l + 1) := ⟨by have := h.1; omega, fun i h1 h2 => by
  by_cases e : i = l
  · rw [e]; exact hm
  · exact h.2 i h1 (by omega)⟩
structure StoFs (fs : List (Str × V)) (lay d : Addr) (lc : Int) : Prop where
  few : fs.length ≤ 20
  lay : fs.lookup ("layout" : Str) = some (.ref lay)
  blocks : fs.lookup ("blocks" : Str) = some (.ref d)
  lc : fs.lookup ("_least_candidate" : Str) = some (.int lc)
  n1 : fs.lookup ("get" : Str) = none
  n2 : fs.lookup ("put" : Str) = none
  n3 : fs.lookup ("remove" : Str) = none
  n4 : fs.lookup ("new_id" : Str) = none
  n5 : fs.lookup ("fork" : Str) = none
def StoAt (C : Addr) (H : Hp) (s lay d : Addr) (lc : Int) : Prop := ∃ dx fs, H s = some (.ins C dx fs) ∧ StoFs fs lay d lc
theorem putF_len1 {f : Str} {x v : V} : ∀ {fs : List (Str × V)}, fs.lookup f = some v → (putF f x fs).length = fs.length
  | [], h => by simp at h
  | (g, y) :: r, h => by
    unfold putF
    by_cases e : g = f
    · rw [if_pos e]
      rfl
    · rw [if_neg e]
      rw [List.lookup_cons] at h
      have hb : (f == g) = false := by
        cases hb : f == g with
        | false => rfl
        | true => exact absurd (eq_of_beq hb).symm e
      rw [hb] at h
      rw [List.length_cons, List.length_cons, putF_len1 h]
theorem StoFs.lc' {fs : List (Str × V)} {lay d : Addr} {lc : Int} (h : StoFs fs lay d lc) (l : Int) : StoFs (putF "_least_candidate" (.int l) fs) lay d l := by
  obtain ⟨h1, h2, h3, h4, g1, g2, g3, g4, g5⟩ := h
  exact ⟨by rw [putF_len1 h4]; exact h1, by walk_at "lk", by walk_at "lk", by walk_at "lk", by walk_at "lk", by walk_at "lk", by walk_at "lk", by walk_at "lk", by walk_at "lk"⟩
def sp_sto (C : Addr) : Sp := fun vs H Q _ => ∃ (s dx lay b : Addr) (kvs : List (Key × V)), vs = [.ref s, .ref lay, .ref b] ∧ H s = some (.ins C dx []) ∧ H b = some (.dK kvs) ∧
  ∀ H' d, (∀ a o, H a = some o → a ≠ s → H' a = some o) → H d = none → H' d = some (.dK kvs) → StoAt C H' s lay d 1 → Q .non H'
theorem ok_Store___init (T : Txt K mg) : FnOk P w K mg base CX0 1 T.a_Store___init T.fd_Store___init ["self", "layout", "blocks"] (sp_sto T.A_Store) := by
  refine T.F_Store___init.ok sc_Store___init (fun vs H Q E h => ?_) (fun cdv A outer s H vs Q E hr h => ?_)
  · obtain ⟨s, dx, lay, b, kvs, rfl, _⟩ := h
    rfl
  · refine ⟨_, (pss_cons (ps_fld (pv 0) (pv 1) rfl)
       (pss_cons (ps_fld (pv 0) (pe_callTy c_dictD (by rfl) T.n_dict (by decide +kernel) (pa_cons (pv 2) pa_nil)) rfl)
       (pss_one (ps_fld (pv 0) pe_int rfl)))), ?_⟩
    try dsimp only [cxOf, Cx.nox, Cx.wish]
    obtain ⟨s, dx, lay, b, kvs, rfl, hs, hb, q⟩ := h
    have cl := T.cl_Store
    have na1 := T.na_Store_layout
    have na2 := T.na_Store_blocks
    have na3 := T.na_Store__least_candidate
    walk_at "rx"
    rename_i H1 e1 h1 d nd H2 s2 h2 H3 e3 h3 H4 e4 h4
    have hne : d ≠ s := fun z => by rw [z, h1] at nd; cases nd
    refine q _ d ?_ ?_ ?_ ⟨dx, _, h4, Sg.putF_len (Sg.putF_len (Sg.putF_len (Nat.zero_le _))), by walk_at "lk", by walk_at "lk", by walk_at "lk", by walk_at "lk", by walk_at "lk", by walk_at "lk", by walk_at "lk", by walk_at "lk"⟩
    · intro a o ha hne
      rw [← e4, upd_ne hne, ← e3, upd_ne hne]
      refine s2 _ _ ?_
      rw [← e1, upd_ne hne]
      exact ha
    · rw [← e1, upd_ne hne] at nd
      exact nd
    · rw [← e4, upd_ne hne, ← e3, upd_ne hne]
      exact h2
def sp_get (C : Addr) : Sp := fun vs H Q _ => ∃ (s lay d : Addr) (lc i : Int) (kvs : List (Key × V)), vs = [.ref s, .int i] ∧ StoAt C H s lay d lc ∧ H d = some (.dK kvs) ∧ Q ((valV kvs (.inl i)).getD .non) H
theorem ok_Store_get (T : Txt K mg) : FnOk P w K mg base CX0 1 T.a_Store_get T.fd_Store_get ["self", "ident"] (sp_get T.A_Store) := by
  refine T.F_Store_get.ok sc_Store_get (fun vs H Q E h => ?_) (fun cdv A outer s H vs Q E hr h => ?_)
  · obtain ⟨s, lay, d, lc, i, kvs, rfl, _⟩ := h
    rfl
  · refine ⟨_, (pss_one (ps_ret (pe_dget1 (hu_of hr) (pe_fld (pv 0) rfl) (pv 1) ⟨rfl, rfl, rfl, rfl⟩))), ?_⟩
    try dsimp only [cxOf, Cx.nox, Cx.wish]
    obtain ⟨s, lay, d, lc, i, kvs, rfl, ⟨dx, fs, hs, F⟩, hd, q⟩ := h
    have cl := T.cl_Store
    have na2 := T.na_Store_blocks
    have f1 := F.blocks
    walk_at "rx"
    exact q
def sp_put (C : Addr) : Sp := fun vs H Q _ => ∃ (s lay d : Addr) (lc i : Int) (v : V) (kvs : List (Key × V)), vs = [.ref s, .int i, v] ∧ StoAt C H s lay d lc ∧ H d = some (.dK kvs) ∧ kvs.length ≤ 1000 ∧ ∀ H', upd H d (.dK (putK kvs (.inl i) v)) = H' → Q .non H'
theorem ok_Store_put (T : Txt K mg) : FnOk P w K mg base CX0 1 T.a_Store_put T.fd_Store_put ["self", "ident", "payload"] (sp_put T.A_Store) := by
  refine T.F_Store_put.ok sc_Store_put (fun vs H Q E h => ?_) (fun cdv A outer s H vs Q E hr h => ?_)
  · obtain ⟨s, lay, d, lc, i, v, kvs, rfl, _⟩ := h
    rfl
  · refine ⟨_, (pss_one (ps_dput (hu_of hr) (pe_fld (pv 0) rfl) (pv 1) (pv 2) rfl)), ?_⟩
    try dsimp only [cxOf, Cx.nox, Cx.wish]
    obtain ⟨s, lay, d, lc, i, v, kvs, rfl, ⟨dx, fs, hs, F⟩, hd, hl, q⟩ := h
    have cl := T.cl_Store
    have na2 := T.na_Store_blocks
    have f1 := F.blocks
    walk_at "rx"
    rename_i H1 e1 h1
    exact q _ e1
def sp_remove (C : Addr) : Sp := fun vs H Q _ => ∃ (s lay d : Addr) (lc i : Int) (kvs : List (Key × V)), vs = [.ref s, .int i] ∧ StoAt C H s lay d lc ∧ H d = some (.dK kvs) ∧ (valV kvs (.inl i)).isSome = true ∧
  ∀ H', (∀ a, a ≠ s → a ≠ d → H' a = H a) → H' d = some (.dK (dropK kvs (.inl i))) → StoAt C H' s lay d (if i < lc then i else lc) → Q .non H'
theorem ok_Store_remove (T : Txt K mg) : FnOk P w K mg base CX0 1 T.a_Store_remove T.fd_Store_remove ["self", "ident"] (sp_remove T.A_Store) := by
  refine T.F_Store_remove.ok sc_Store_remove (fun vs H Q E h => ?_) (fun cdv A outer s H vs Q E hr h => ?_)
  · obtain ⟨s, lay, d, lc, i, kvs, rfl, _⟩ := h
    rfl
  · refine ⟨_, (pss_cons (ps_ddel (pe_fld (pv 0) rfl) (pv 1))
       (pss_one (ps_fld (pv 0) (pe_callB (call_min2 rfl) (by rfl) T.n_min (by decide +kernel) (pa_cons (pe_fld (pv 0) rfl) (pa_cons (pv 1) pa_nil))) rfl))), ?_⟩
    try dsimp only [cxOf, Cx.nox, Cx.wish]
    obtain ⟨s, lay, d, lc, i, kvs, rfl, ⟨dx, fs, hs, F⟩, hd, hh, q⟩ := h
    have cl := T.cl_Store
    have na2 := T.na_Store_blocks
    have na3 := T.na_Store__least_candidate
    have f1 := F.blocks
    have f2 := F.lc
    have few := F.few
    have hne : d ≠ s := ne_of hd hs (by intro z; cases z)
    walk_at "rx"
    refine r_kdd2 hd hh ?_
    generalize e1 : upd _ _ _ = H1
    have hs1 : H1 s = some (.ins T.A_Store dx fs) := by rw [← e1, upd_ne hne.symm]; exact hs
    have hd1 := at_new e1
    walk_at "rx"
    refine ⟨_, _, rfl, ?_⟩
    walk_at "rx"
    rename_i H2 e2 h2
    refine q _ (fun a h1 h2 => by rw [← e2, upd_ne h1, ← e1, upd_ne h2]) (by rw [← e2, upd_ne hne]; exact hd1) ⟨dx, _, h2, F.lc' _⟩
def sp_new_id (C : Addr) : Sp := fun vs H Q _ => ∃ (s lay d : Addr) (lc : Int) (kvs : List (Key × V)) (ks : List Int), vs = [.ref s] ∧ StoAt C H s lay d lc ∧ H d = some (.dK kvs) ∧ Dk kvs ks ∧ Below ks lc ∧
  ∀ H' L, IsLeast ks L → (∀ a, a ≠ s → H' a = H a) → StoAt C H' s lay d L → Q (.int L) H'
theorem ok_Store_new_id (T : Txt K mg) : FnOk P w K mg base CX0 1 T.a_Store_new_id T.fd_Store_new_id ["self"] (sp_new_id T.A_Store) := by
  refine T.F_Store_new_id.ok sc_Store_new_id (fun vs H Q E h => ?_) (fun cdv A outer s H vs Q E hr h => ?_)
  · obtain ⟨s, lay, d, lc, kvs, ks, rfl, _⟩ := h
    rfl
  · refine ⟨_, (pss_cons (ps_while PassesOwn.never (pt_cmp (pc_din (hu_of hr) (pe_fld (pv 0) rfl) (pe_fld (pv 0) rfl)) rfl)
       (pss_one (ps_fldaug (pv 0) pe_int in_add)))
       (pss_one (ps_ret (pe_fld (pv 0) rfl)))), ?_⟩
    try dsimp only [cxOf, Cx.nox, Cx.wish]
    obtain ⟨s, lay, d, lc, kvs, ks, rfl, hS, hd, hk, hB, q⟩ := h
    have cl := T.cl_Store
    have na2 := T.na_Store_blocks
    have na3 := T.na_Store__least_candidate
    walk_at "rx"
    have hne : d ≠ s := by
      obtain ⟨dx, fs, hs, F⟩ := hS
      exact ne_of hd hs (by intro z; cases z)
    refine r_while (fun m σ' H' => ∃ l : Int, σ' = [some (.ref s)] ∧ Below ks l ∧ (m : Int) = ks.length + 1 - l ∧ (∀ a, a ≠ s → H' a = H a) ∧ StoAt T.A_Store H' s lay d l) (ks.length + 1 - lc).toNat ⟨lc, rfl, hB, by have := hB.room; omega, fun _ _ => rfl, hS⟩ ?_
    rintro m σ' H' ⟨l, rfl, hB', hm, hf, dx, fs, hs, F⟩
    have f1 := F.blocks
    have f2 := F.lc
    have few := F.few
    have hd' : H' d = some (.dK kvs) := by rw [hf _ hne]; exact hd
    walk_at "rx"
    rw [hk.has]
    refine r_ite (fun hl => ?_) (fun hl => ?_)
    · refine ⟨fun σ' H' => σ' = [some (.ref s)] ∧ (∀ a, a ≠ s → H' a = H a) ∧ StoAt T.A_Store H' s lay d (l + 1), ?_, ?_⟩
      · rintro σ' H' ⟨rfl, hf, hS⟩
        exact ⟨m - 1, by have := hB'.room; have := (hB'.step hl).room; omega, l + 1, rfl, hB'.step hl, by have := (hB'.step hl).room; omega, hf, hS⟩
      · walk_at "rx"
        refine ⟨_, rfl, s, T.A_Store, dx, fs, .int l, rfl, hs, cl, na3, f2, ?_⟩
        refine ⟨_, _, rfl, rfl, dx, fs, hs, by omega, ?_⟩
        generalize e2 : upd _ _ _ = H2
        exact ⟨rfl, fun a ha => by rw [← e2, upd_ne ha]; exact hf a ha, dx, _, at_new e2, F.lc' _⟩
    · walk_at "rx"
      exact q _ _ ⟨hB'.1, hl, hB'.2⟩ hf ⟨dx, fs, hs, F⟩
def sp_fork (C : Addr) : Sp := fun vs H Q _ => ∃ (s lay d : Addr) (lc : Int) (kvs : List (Key × V)), vs = [.ref s] ∧ StoAt C H s lay d lc ∧ H d = some (.dK kvs) ∧
  ∀ H' s' d', Same H H' → H s' = none → H d' = none → H' d' = some (.dK kvs) → StoAt C H' s' lay d' 1 → Q (.ref s') H'
theorem ok_Store_fork (T : Txt K mg) : FnOk P w K mg base CX0 3 T.a_Store_fork T.fd_Store_fork ["self"] (sp_fork T.A_Store) := by
  refine T.F_Store_fork.ok sc_Store_fork (fun vs H Q E h => ?_) (fun cdv A outer s H vs Q E hr h => ?_)
  · obtain ⟨s, lay, d, lc, kvs, rfl, _⟩ := h
    rfl
  · refine ⟨_, (pss_one (ps_ret (pe_make T.M_Store (ok_Store___init T) (hr.mono (by decide)) rfl T.m_Store T.b_Store___init .nil pass0 (pa_cons (pe_fld (pv 0) rfl) (pa_cons (pe_fld (pv 0) rfl) pa_nil))))), ?_⟩
    try dsimp only [cxOf, Cx.nox, Cx.wish]
    obtain ⟨s, lay, d, lc, kvs, rfl, ⟨dx, fs, hs, F⟩, hd, q⟩ := h
    have cl := T.cl_Store
    have na1 := T.na_Store_layout
    have na2 := T.na_Store_blocks
    have f1 := F.blocks
    have f2 := F.lay
    walk_at "rx"
    intro x dx2 nx nd ne
    refine ⟨x, dx2, lay, d, kvs, rfl, upd_same, ?_, fun H1 d1 k n1 h1 hS => ⟨rfl, ?_⟩⟩
    · rw [upd_ne (ne_of_none hd nx), upd_ne (ne_of_none hd nd)]
      exact hd
    · have s1 : Same H H1 := fun b u e => k _ _ (by rw [upd_ne (ne_of_none e nx), upd_ne (ne_of_none e nd)]; exact e) (ne_of_none e nx)
      refine q _ _ _ s1 nx ?_ h1 hS
      by_cases e : d1 = x
      · rw [e]; exact nx
      by_cases e' : d1 = dx2
      · rw [e']; exact nd
      rw [upd_ne e, upd_ne e'] at n1
      exact n1
def sp_bcount (C : Addr) : Sp := fun vs H Q _ => ∃ (s lay d : Addr) (lc : Int) (kvs : List (Key × V)), vs = [.ref s] ∧ StoAt C H s lay d lc ∧ H d = some (.dK kvs) ∧ Q (.int kvs.length) H
theorem ok_Store_block_count (T : Txt K mg) : FnOk P w K mg base CX0 1 T.a_Store_block_count T.fd_Store_block_count ["self"] (sp_bcount T.A_Store) := by
  refine T.F_Store_block_count.ok sc_Store_block_count (fun vs H Q E h => ?_) (fun cdv A outer s H vs Q E hr h => ?_)
  · obtain ⟨s, lay, d, lc, kvs, rfl, _⟩ := h
    rfl
  · refine ⟨_, (pss_one (ps_ret (pe_callB (c_lenD) (by rfl) T.n_len (by decide +kernel) (pa_cons (pe_fld (pv 0) rfl) pa_nil)))), ?_⟩
    try dsimp only [cxOf, Cx.nox, Cx.wish]
    obtain ⟨s, lay, d, lc, kvs, rfl, ⟨dx, fs, hs, F⟩, hd, q⟩ := h
    have cl := T.cl_Store
    have na2 := T.na_Store_blocks
    have f1 := F.blocks
    walk_at "rx"
    exact q
theorem paired_at {α β : Type} {F : α → β → Prop} : ∀ {xs : List α} {ys : List β} {i : Nat} {x : α}, Paired F xs ys → xs[i]? = some x → ∃ y, ys[i]? = some y ∧ F x y
  | _, _, _, _, .nil, e => by simp at e
  | _, _, 0, _, .cons r t, e => by simp at e; subst e; exact ⟨_, rfl, r⟩
  | _, _, i + 1, _, .cons r t, e => by
    obtain ⟨y, e1, h1⟩ := paired_at (i := i) t (by simpa using e)
    exact ⟨y, by simpa using e1, h1⟩
/-! ### what stays: tuples, and what is frozen -/
def Fixed : HO → Prop
  | .tup _ => True
  | .frz _ _ => True
  | _ => False
def Keeps (H H' : Hp) : Prop := ∀ b o, Fixed o → H b = some o → H' b = some o
theorem Keeps.refl (H : Hp) : Keeps H H := fun _ _ _ h => h
theorem Keeps.trans {H H1 H2 : Hp} (a : Keeps H H1) (b : Keeps H1 H2) : Keeps H H2 := fun c o f h => b c o f (a c o f h)
theorem Keeps.of {H H' : Hp} (s : Same H H') : Keeps H H' := fun b o _ h => s b o h
theorem Keeps.upd {H H' : Hp} {l : Addr} {o ol : HO} (h : H l = some ol) (n : ¬ Fixed ol) (e : L2.upd H l o = H') : Keeps H H' := fun b u f q => by
  rw [← e, upd_ne]
  · exact q
  · rintro rfl
    rw [h] at q
    cases q
    exact n f
theorem Keeps.tup {K : PySem.W.Frag} {H H' : Hp} {a : Addr} {xs : List V} (s : Keeps H H') (h : SqT K H a xs) : SqT K H' a xs := by
  rcases h with (h | ⟨o, h⟩) | h
  · exact .inl (.inl (s _ _ trivial h))
  · exact .inl (.inr ⟨o, s _ _ trivial h⟩)
  · exact .inr h
/-- the script, and what stands written -/
theorem Keeps.script {K : PySem.W.Frag} {H H' : Hp} {a : Addr} {o : Obj} {xs : List V} (s : Keeps H H') (h : H a = some (.frz o (.lst xs))) : SqL K H' a xs := .inl (.inr ⟨o, s _ _ trivial h⟩)
theorem SqL.keep {K : PySem.W.Frag} {H H' : Hp} {a d C dx : Addr} {fs : List (Str × V)} {o : HO} {xs : List V} (h : SqL K H a xs) (hd : H d = some (.ins C dx fs)) (e : L2.upd H d o = H') : SqL K H' a xs := by
  rcases h with (h | ⟨o', h⟩) | h
  · exact .inl (.inl (at_keep e h hd (by intro z; cases z)))
  · exact .inl (.inr ⟨o', at_keep e h hd (by intro z; cases z)⟩)
  · exact .inr h
/-- the script: a list that is read for as long as what is fixed stays -/
def Scr (K : PySem.W.Frag) (H : Hp) (a : Addr) (ns : List Int) : Prop := ∀ H', Keeps H H' → SqL K H' a (ns.map V.int)
theorem scr_of {K : PySem.W.Frag} {H : Hp} {a : Addr} {ns : List Int} (hO : Only H) (h : SqL K H a (ns.map V.int)) : Scr K H a ns := fun H' k => by
  rcases h with (h | ⟨o', h⟩) | h
  · rcases hO a with z | ⟨o, xs, z⟩ <;> rw [h] at z <;> cases z
  · exact .inl (.inr ⟨o', k _ _ trivial h⟩)
  · exact .inr h
/-- [e for x in range], its items anything -/
theorem r_lcR {lo : Int} {n slot : Nat} {vs : List Nat} {te : TE} {σ : L2.St} {H : Hp} {Q : V → Hp → Prop} (P : Nat → List V → Hp → Prop) (hn : n ≤ 100000) (hv : vs = [slot])
    (h0 : P 0 [] H)
    (hs : ∀ (i : Nat) (acc : List V) (H0 H' : Hp), i < n → L2.Same H H0 → P i acc H0 → L2.Same H0 H' → ∀ R : V → Hp → Prop,
      (∀ (v : V) (H'' : Hp), L2.Same H' H'' → (∀ D, H0 D = none → H' D = some (.lst acc) → P (i + 1) (acc ++ [v]) (hid D H'')) → R v H'') → te ((wipe σ vs).set slot (some (.int (lo + i)))) H' R)
    (q : ∀ (H' : Hp) (l : Addr) (acc : List V), L2.Same H H' → H l = none → H' l = some (.lst acc) → acc.length = n → P n acc (hid l H') → Q (.ref l) H') :
    kLc (gName slot) tYes te vs σ Q (Itr lo n) H := by
  intro L hL
  have hw : ∀ (τ : L2.St) (x : V), wipe (τ.set slot (some x)) [slot] = wipe τ [slot] := fun τ x => by simp [wipe, List.set_set]
  have hw2 : wipe (wipe σ vs) vs = wipe σ vs := by subst hv; simp [wipe, List.set_set]
  refine lc_range (fun i H' => ∃ acc : List V, acc.length = i ∧ H' L = some (.lst acc) ∧ L2.Same H H' ∧ P i acc (hid L H')) ⟨[], rfl, upd_same, fun b o e => by rw [upd_ne (ne_of_none e hL)]; exact e, by rw [hid_upd, hid_none hL]; exact h0⟩ ?_ ?_
  · rintro i H' hi ⟨acc, el, eL, s, hp⟩
    refine ⟨?_, ?_⟩
    · subst hv
      rw [hw]
      exact hw2
    · show te ((wipe σ vs).set slot (some (.int (lo + i)))) H' _
      refine hs i acc (hid L H') H' hi (same_hid s hL) hp hid_same _ fun v H'' s2 hP => ⟨acc, s2 _ _ eL, ?_, acc ++ [v], ?_, upd_same, ?_, ?_⟩
      · rw [el, sz]
        omega
      · rw [List.length_append, el]; rfl
      · intro b o e
        rw [upd_ne (ne_of_none e hL)]
        exact s2 _ _ (s _ _ e)
      · rw [hid_upd]
        exact hP L hid_at eL
  · rintro H' ⟨acc, el, eL, s, hp⟩
    exact q H' L acc s hL eL el hp
theorem keeps_hid {H : Hp} {D : Addr} {xs : List V} (h : H D = some (.lst xs)) : Keeps H (hid D H) := fun b o f e => by
  rw [hid_ne (ne_of e h (by rintro rfl; exact f))]
  exact e
theorem Keeps.hid {H H' : Hp} {D : Addr} (k : Keeps H H') (n : H D = none) : Keeps H (hid D H') := fun b o f e => by
  rw [hid_ne (ne_of_none e n)]
  exact k _ _ f e
mutual
/-- data of tuples alone -/
def tOnly : PyData → Bool
  | .none => true
  | .bool _ => true
  | .int _ => true
  | .str _ => true
  | .tuple ds => tOnlyAll ds
  | _ => false
def tOnlyAll : List PyData → Bool
  | [] => true
  | d :: ds => tOnly d && tOnlyAll ds
end
mutual
theorem Dp.keeps {K : PySem.W.Frag} {H H' : Hp} (s : Keeps H H') : ∀ (d : PyData) (v : V), tOnly d = true → Dp K H v d → Dp K H' v d
  | .none, _, _, h => by cases h; exact .non
  | .bool b, _, _, h => by cases h; exact .bl b
  | .int i, _, _, h => by cases h; exact .int i
  | .str x, _, _, h => by cases h; exact .str x
  | .list ds, _, t, _ => by simp [tOnly] at t
  | .tuple ds, _, t, h => by
    cases h with
    | tup hs ha => exact .tup (s.tup hs) (DpAll.keeps s ds _ (by simpa [tOnly] using t) ha)
  | .dict _, _, _, h => by cases h
theorem DpAll.keeps {K : PySem.W.Frag} {H H' : Hp} (s : Keeps H H') : ∀ (ds : List PyData) (vs : List V), tOnlyAll ds = true → DpAll K H vs ds → DpAll K H' vs ds
  | [], _, _, h => by cases h; exact .nil
  | d :: ds, _, t, h => by
    cases h with
    | cons h1 h2 =>
      have t' : tOnly d = true ∧ tOnlyAll ds = true := by simpa [tOnlyAll] using t
      exact .cons (Dp.keeps s d _ t'.1 h1) (DpAll.keeps s ds _ t'.2 h2)
end
/-- a block's value: data of tuples, not deep -/
def Bk (K : PySem.W.Frag) (H : Hp) (v : V) : Prop := ∃ d, Dp K H v d ∧ Fl 3 d ∧ tOnly d = true
theorem Bk.keeps {K : PySem.W.Frag} {H H' : Hp} {v : V} (s : Keeps H H') (h : Bk K H v) : Bk K H' v := by
  obtain ⟨d, h1, h2, h3⟩ := h
  exact ⟨d, Dp.keeps s d v h3 h1, h2, h3⟩
theorem Bk.non {K : PySem.W.Frag} {H : Hp} : Bk K H .non := ⟨.none, .non, Fl.non 3, rfl⟩
theorem tOnly_ints : ∀ ns : List Int, tOnlyAll (ns.map PyData.int) = true
  | [] => rfl
  | n :: ns => by rw [List.map_cons, tOnlyAll, tOnly, tOnly_ints ns]; rfl
/-- a block that the text writes: (kind, sequence, rank, body), the body a tuple of ints -/
theorem Bk.mk {K : PySem.W.Frag} {H : Hp} {t b : Addr} {i j k : Int} {ns : List Int} (h : H t = some (.tup [.int i, .int j, .int k, .ref b])) (hb : SqT K H b (ns.map V.int)) : Bk K H (.ref t) :=
  ⟨.tuple [.int i, .int j, .int k, .tuple (ns.map PyData.int)], .tup (.of h) (.cons (.int _) (.cons (.int _) (.cons (.int _) (.cons (.tup hb (DpAll.ints ns)) .nil)))), (Fl.tup (Fl.cons (Fl.int _ _) (Fl.cons (Fl.int _ _) (Fl.cons (Fl.int _ _) (Fl.cons (Fl.ints ns) Fl.nil))))).mono (by decide),
    by simp [tOnly, tOnlyAll, tOnly_ints]⟩
/-- equal values are equal -/
theorem r_neB {K : PySem.W.Frag} {H : Hp} {v : V} {Q : V → Hp → Prop} (h : Bk K H v) (q : Q (.bl false) H) : rNeD K v v H Q := by
  obtain ⟨d, h1, h2, _⟩ := h
  refine r_ned h1 h1 h2.shaped h2.shaped ?_
  rw [h2.self]
  exact q
/-! ### the device -/
structure DevM where
  lay : Addr
  sure : List V
  shown : List V
  wait : List (Int × V)
  left : Option Int
  off : Bool
def leftV : Option Int → V
  | none => .non
  | some n => .int n
structure DevFs (fs : List (Str × V)) (m : DevM) (su sh un : Addr) : Prop where
  few : fs.length ≤ 20
  lay : fs.lookup ("layout" : Str) = some (.ref m.lay)
  sure : fs.lookup ("_sure" : Str) = some (.ref su)
  shown : fs.lookup ("_shown" : Str) = some (.ref sh)
  uns : fs.lookup ("_unsure" : Str) = some (.ref un)
  left : fs.lookup ("_commands_left" : Str) = some (leftV m.left)
  off : fs.lookup ("_power_is_off" : Str) = some (.bl m.off)
  nT : fs.lookup ("_takes_place" : Str) = none
  nR : fs.lookup ("read" : Str) = none
  nW : fs.lookup ("write" : Str) = none
  nB : fs.lookup ("barrier" : Str) = none
  nC : fs.lookup ("cut_after" : Str) = none
  nP : fs.lookup ("pending" : Str) = none
  nS : fs.lookup ("sure_blocks" : Str) = none
  nU : fs.lookup ("was_cut" : Str) = none
  nL : fs.lookup ("left" : Str) = none
  nK : fs.lookup ("fork" : Str) = none
  nG : fs.lookup ("written_blocks" : Str) = none
theorem DevFs.to {fs : List (Str × V)} {m m' : DevM} {su sh un : Addr} (h : DevFs fs m su sh un) (e1 : m'.lay = m.lay) (e2 : m'.left = m.left) (e3 : m'.off = m.off) : DevFs fs m' su sh un := by
  obtain ⟨h1, h2, h3, h4, h5, h6, h7, g1, g2, g3, g4, g5, g6, g7, g8, g9, g10, g11⟩ := h
  exact ⟨h1, by rw [e1]; exact h2, h3, h4, h5, by rw [e2]; exact h6, by rw [e3]; exact h7, g1, g2, g3, g4, g5, g6, g7, g8, g9, g10, g11⟩
/-- a device over what stood ahead of it -/
structure DevIn (C : Addr) (H0 H : Hp) (d : Addr) (m : DevM) : Prop where
  same : Same H0 H
  new : H0 d = none
  at_ : ∃ (dx : Addr) (fs : List (Str × V)) (su sh un : Addr) (us : List Addr), H d = some (.ins C dx fs) ∧ DevFs fs m su sh un ∧ H0 su = none ∧ H0 sh = none ∧ H0 un = none ∧ su ≠ sh ∧ su ≠ un ∧ sh ≠ un ∧
    H su = some (.lst m.sure) ∧ H sh = some (.lst m.shown) ∧ H un = some (.lst (us.map V.ref)) ∧ Paired (fun (u : Addr) (p : Int × V) => H u = some (.tup [.int p.1, p.2])) us m.wait
theorem pairs_keeps {H H' : Hp} (s : Keeps H H') : ∀ {us : List Addr} {ps : List (Int × V)}, Paired (fun (u : Addr) (p : Int × V) => H u = some (.tup [.int p.1, p.2])) us ps → Paired (fun (u : Addr) (p : Int × V) => H' u = some (.tup [.int p.1, p.2])) us ps
  | _, _, .nil => .nil
  | _, _, .cons h t => .cons (s _ _ trivial h) (pairs_keeps s t)
theorem DevIn.mono {C : Addr} {H0 H H' : Hp} {d : Addr} {m : DevM} (s : Same H H') (h : DevIn C H0 H d m) : DevIn C H0 H' d m := by
  obtain ⟨s0, n0, dx, fs, su, sh, un, us, h1, h2, h3, h4, h5, h6, h7, h8, h9, h10, h11, h12⟩ := h
  exact ⟨s0.trans s, n0, dx, fs, su, sh, un, us, s _ _ h1, h2, h3, h4, h5, h6, h7, h8, s _ _ h9, s _ _ h10, s _ _ h11, pairs_keeps (Keeps.of s) h12⟩
/-- what stood ahead of it is changed -/
theorem DevIn.rebase {C : Addr} {H0 H : Hp} {d e : Addr} {m : DevM} {o ol : HO} (h : DevIn C H0 H d m) (he : H0 e = some ol) (hn : ¬ Fixed ol) : DevIn C (upd H0 e o) (upd H e o) d m := by
  obtain ⟨s0, n0, dx, fs, su, sh, un, us, h1, h2, h3, h4, h5, h6, h7, h8, h9, h10, h11, h12⟩ := h
  have ne : ∀ {x : Addr}, H0 x = none → x ≠ e := fun h z => by rw [z, he] at h; cases h
  refine ⟨fun b u q => ?_, by rw [upd_ne (ne n0)]; exact n0, dx, fs, su, sh, un, us, by rw [upd_ne (ne n0)]; exact h1, h2, by rw [upd_ne (ne h3)]; exact h3, by rw [upd_ne (ne h4)]; exact h4, by rw [upd_ne (ne h5)]; exact h5, h6, h7, h8,
    by rw [upd_ne (ne h3)]; exact h9, by rw [upd_ne (ne h4)]; exact h10, by rw [upd_ne (ne h5)]; exact h11, pairs_keeps (Keeps.upd (s0 _ _ he) hn rfl) h12⟩
  by_cases hb : b = e
  · rw [hb, upd_same] at q
    rw [hb, upd_same]
    exact q
  · rw [upd_ne hb] at q
    rw [upd_ne hb]
    exact s0 _ _ q

/-! ### properties, calls with keywords, extend, min of two -/
def kProp (C : Addr) (sp : Sp) (dvs : List V) (E : XK) (Q : V → Hp → Prop) : V → Hp → Prop := fun x H1 => ∃ a dx fs, x = .ref a ∧ H1 a = some (.ins C dx fs) ∧ sp (.ref a :: dvs) H1 Q E
theorem r_prop {C : Addr} {sp : Sp} {dvs : List V} {E : XK} {ta : TE} {σ : L2.St} {H : Hp} {Q : V → Hp → Prop} (h : ta σ H (kProp C sp dvs E Q)) : tProp C sp dvs E ta σ H Q := h
theorem r_kprop {C a dx : Addr} {fs : List (Str × V)} {sp : Sp} {dvs : List V} {E : XK} {H : Hp} {Q : V → Hp → Prop} (h : H a = some (.ins C dx fs)) (q : sp (.ref a :: dvs) H Q E) : kProp C sp dvs E Q (.ref a) H := ⟨a, dx, fs, rfl, h, q⟩
theorem r_makeN {C : Addr} {n m : Nat} {sp : Sp} {gV : List V → List V → List V} {E : XK} {t tk : TA} {σ : L2.St} {H : Hp} {Q : V → Hp → Prop} (h : t σ H fun vs H1 => tk σ H1 fun zs H2 => vs.length = n ∧ zs.length = m ∧ ∀ x dx, H2 x = none → H2 dx = none → dx ≠ x →
    sp (gV (.ref x :: vs) zs) (upd (upd H2 dx (.own x)) x (.ins C dx [])) (fun v H3 => v = .non ∧ Q (.ref x) H3) E) : tMakeN C n m sp gV E t tk σ H Q := h
theorem r_callN {n m : Nat} {sp : Sp} {gV : List V → List V → List V} {E : XK} {t tk : TA} {σ : L2.St} {H : Hp} {Q : V → Hp → Prop} (h : t σ H fun vs H1 => tk σ H1 fun zs H2 => vs.length = n ∧ zs.length = m ∧ sp (gV vs zs) H2 Q E) : tCallN n m sp gV E t tk σ H Q := h
theorem r_ext {l b : Addr} {xs zs : List V} {H : Hp} {Q : V → Hp → Prop} (h : H l = some (.lst xs)) (hb : H b = some (.lst zs)) (hz : xs.length + zs.length ≤ 1000000) (q : Q .non (upd H l (.lst (xs ++ zs)))) : rExtend (.ref l) [.ref b] H Q :=
  ⟨l, b, xs, zs, rfl, rfl, h, hb, by rw [sz]; omega, q⟩

local macro_rules | `(tactic| walk_at "rx1") => `(tactic| with_reducible (first | refine' Sg.r_prop ?_ | (refine' Sg.r_kprop ?h ?_; (case h => (with_unfolding_all walk_at "hp"))) | refine' Sg.r_irev ?_ | (refine' Sg.r_kIv ?h ?_; (case h => (with_unfolding_all walk_at "hp"))) | refine' Sg.r_makeN ?_ | refine' Sg.r_callN ?_ | refine' Sg.r_makeSD ?_ | refine' Sg.r_callSD ?_ | refine' Sg.r_methSD ?_ | (refine' Sg.r_kmethSD ?h ?hl ?_; (case h => (with_unfolding_all walk_at "hp")); (case hl => (with_unfolding_all walk_at "lk"))) | refine' Sg.r_tryA ?_ | refine' Sg.r_din ?_ | refine' Sg.r_kdi ?_ | (refine' Sg.r_kdi2 ?h ?_; (case h => (with_unfolding_all walk_at "hp"))) | (refine' Sg.r_kdi2f ?h ?_; (case h => assumption)) | refine' Sg.r_dnotin ?_ | refine' Sg.r_kdn ?_ | (refine' Sg.r_kdn2 ?h ?_; (case h => (with_unfolding_all walk_at "hp"))) | refine' Sg.r_dget ?_ | refine' Sg.r_kdg ?_ | refine' Sg.r_dget1 ?_ | (refine' Sg.r_kdt ?h ?_; (case h => (with_unfolding_all walk_at "hp"))) | (refine' Sg.r_kdt2 ?h ?_; (case h => (with_unfolding_all walk_at "hp"))) | refine' Sg.r_dput ?_ | refine' Sg.r_kdp ?_ | refine' Sg.r_kdp2 ?_ | (refine' Sg.r_kdp3 ?h ?hl ?_; (case h => (with_unfolding_all walk_at "hp")); (case hl => (with_unfolding_all walk_at "side")); (with_unfolding_all walk_at "up")) | refine' Sg.r_ddel ?_ | refine' Sg.r_kdd ?_ | refine' Sg.r_dpop1 ?_ | (refine' Sg.r_kdo ?h ?_; (case h => (with_unfolding_all walk_at "hp"))) | refine' Sg.r_ikeys ?_ | (refine' Sg.r_kIk ?h ?_; (case h => assumption)) | (refine' Sg.r_dnew ?_; (with_unfolding_all walk_at "al")) | (refine' Sg.r_lenD ?h ?_; (case h => (with_unfolding_all walk_at "hp"))) | (refine' Sg.r_dictD ?h ?_; (case h => (with_unfolding_all walk_at "hp")); (with_unfolding_all walk_at "al"))))
local macro_rules | `(tactic| walk_at "rx") => `(tactic| repeat (first | walk_at "rd1" | walk_at "rx1"))
def sp_isint : Sp := fun vs H Q _ => ∃ i : Int, vs = [.int i] ∧ Q (.bl true) H
theorem ok_law_is_integer (T : Txt K mg) : FnOk P w K mg base CX0 1 T.a_law_is_integer T.fd_law_is_integer ["actual"] sp_isint := by
  refine T.F_law_is_integer.ok sc_law_is_integer (fun vs H Q E h => ?_) (fun cdv A outer s H vs Q E hr h => ?_)
  · obtain ⟨i, rfl, _⟩ := h
    rfl
  · refine ⟨_, (pss_one (ps_ret (pe_and (pe_callB (call_isi) (by rfl) T.n_isinstance (by decide +kernel) (pa_cons (pv 0) (pa_cons (pe_bltn (v := .ty "int") (by rfl) T.n_int (by decide +kernel) rfl) pa_nil))) (pe_one (pe_not (pe_callB (call_isi) (by rfl) T.n_isinstance (by decide +kernel) (pa_cons (pv 0) (pa_cons (pe_bltn (v := .ty "bool") (by rfl) T.n_bool (by decide +kernel) rfl) pa_nil)))))))), ?_⟩
    try dsimp only [cxOf, Cx.nox, Cx.wish]
    obtain ⟨i, rfl, q⟩ := h
    walk_at "rd"
    exact q
theorem Bk.pay {K : PySem.W.Frag} {H : Hp} {t b : Addr} {i : Int} {ns : List Int} (h : H t = some (.tup [.int i, .ref b])) (hb : SqT K H b (ns.map V.int)) : Bk K H (.ref t) :=
  ⟨.tuple [.int i, .tuple (ns.map PyData.int)], .tup (.of h) (.cons (.int _) (.cons (.tup hb (DpAll.ints ns)) .nil)), (Fl.tup (Fl.cons (Fl.int _ _) (Fl.cons (Fl.ints ns) Fl.nil))).mono (by decide), by simp [tOnly, tOnlyAll, tOnly_ints]⟩
def sp_payload (K : PySem.W.Frag) : Sp := fun vs H Q _ => ∃ n : Int, vs = [.int n] ∧ ∀ H' v, Same H H' → Bk K H' v → Q v H'
theorem ok_law_payload (T : Txt K mg) : FnOk P w K mg base CX0 1 T.a_law_payload T.fd_law_payload ["number"] (sp_payload K) := by
  refine T.F_law_payload.ok sc_law_payload (fun vs H Q E h => ?_) (fun cdv A outer s H vs Q E hr h => ?_)
  · obtain ⟨n, rfl, _⟩ := h
    rfl
  · refine ⟨_, (pss_cons (ps_set (i := 1) sc_law_payload.nd rfl (Or.inl rfl) (pe_op op_fdiv (pe_callTy c_int (by rfl) T.n_int (by decide +kernel) (pa_cons (pv 0) pa_nil)) pe_int))
       (pss_cons (ps_if (pt_cmpR op_eq (pe_op op_mod (pe_callTy c_int (by rfl) T.n_int (by decide +kernel) (pa_cons (pv 0) pa_nil)) pe_int) pe_int (nomark _))
       (pss_one (ps_ret (pe_tup (pa_cons pe_int (pa_cons (pe_op op_catT (pe_op op_repT (pe_tup (pa_cons (pe_op op_mod (pv 1) pe_int) pa_nil)) pe_int) (pe_tup (pa_cons (pe_op op_mod (pe_op op_fdiv (pv 1) pe_int) pe_int) pa_nil))) pa_nil)))))
       pss_nil)
       (pss_one (ps_ret (pe_tup (pa_cons pe_int (pa_cons (pe_op op_catT (pe_op op_repT (pe_tup (pa_cons (pe_op op_mod (pv 1) pe_int) pa_nil)) pe_int) (pe_tup (pa_cons (pe_op op_mod (pe_op op_fdiv (pv 1) pe_int) pe_int) pa_nil))) pa_nil))))))), ?_⟩
    try dsimp only [cxOf, Cx.nox, Cx.wish]
    obtain ⟨n, rfl, q⟩ := h
    walk_at "rd"
    refine r_ite (fun _ => ?_) (fun _ => ?_)
    · walk_at "rd"
      rename_i za hza za0 za1 pt1 npt1 Hpt1 spt1 hpt1
      refine ⟨_, _, _, rfl, rfl, by walk_at "hp", by simp, by decide, by decide, by simp, ?_⟩
      rw [rep_ints]
      walk_at "al"
      walk_at "rd"
      rename_i pr npr Hr sr hpr zb hzb zb0 zb1 pq npq Hq sq' hpq
      refine ⟨_, _, _, _, rfl, rfl, by walk_at "hp", by walk_at "hp", ?_, ?_, fun z => absurd z (by simp), fun _ => ?_⟩
      · intro z
        have z' := congrArg List.length z
        rw [List.length_map, List.length_replicate] at z'
        exact absurd z' (by decide)
      · rw [List.length_map, List.length_replicate, sz]
        exact Nat.le_of_ble_eq_true rfl
      walk_at "al"
      walk_at "rd"
      rename_i pb _ Hb _ hpb pt _ Ht _ hpt
      refine q _ _ (by walk_at "sm") (Bk.pay (ns := List.replicate (31 : Int).toNat za ++ [zb]) (by walk_at "hp") ?_)
      rw [List.map_append]
      walk_at "hp"
    · walk_at "rd"
      rename_i za hza za0 za1 pt1 npt1 Hpt1 spt1 hpt1
      refine ⟨_, _, _, rfl, rfl, by walk_at "hp", by simp, by decide, by decide, by simp, ?_⟩
      rw [rep_ints]
      walk_at "al"
      walk_at "rd"
      rename_i pr npr Hr sr hpr zb hzb zb0 zb1 pq npq Hq sq' hpq
      refine ⟨_, _, _, _, rfl, rfl, by walk_at "hp", by walk_at "hp", ?_, ?_, fun z => absurd z (by simp), fun _ => ?_⟩
      · intro z
        have z' := congrArg List.length z
        rw [List.length_map, List.length_replicate] at z'
        exact absurd z' (by decide)
      · rw [List.length_map, List.length_replicate, sz]
        exact Nat.le_of_ble_eq_true rfl
      walk_at "al"
      walk_at "rd"
      rename_i pb _ Hb _ hpb pt _ Ht _ hpt
      refine q _ _ (by walk_at "sm") (Bk.pay (ns := List.replicate (63 : Int).toNat za ++ [zb]) (by walk_at "hp") ?_)
      rw [List.map_append]
      walk_at "hp"
def sp_least : Sp := fun vs H Q _ => ∃ (m : Addr) (kvs : List (Key × V)) (ks : List Int), vs = [.ref m] ∧ H m = some (.dK kvs) ∧ Dk kvs ks ∧ ks.length ≤ 1000 ∧ ∀ L, IsLeast ks L → Q (.int L) H
theorem ok_law_least (T : Txt K mg) : FnOk P w K mg base CX0 1 T.a_law_least T.fd_law_least ["model"] sp_least := by
  refine T.F_law_least.ok sc_law_least (fun vs H Q E h => ?_) (fun cdv A outer s H vs Q E hr h => ?_)
  · obtain ⟨m, kvs, ks, rfl, _⟩ := h
    rfl
  · refine ⟨_, (pss_cons (ps_set (i := 1) sc_law_least.nd rfl (Or.inl rfl) pe_int)
       (pss_cons (ps_for PassesOwn.never rfl (pi_range1 rfl T.n_range (pa_cons (pe_op op_add (pe_callB (c_lenD) (by rfl) T.n_len (by decide +kernel) (pa_cons (pv 0) pa_nil)) pe_int) pa_nil)) (pg_name (i := 2) sc_law_least.nd rfl (Or.inl rfl))
       (pss_one (ps_if (pt_cmp (pc_din (hu_of hr) (pv 1) (pv 0)) rfl)
       (pss_one (ps_set (i := 1) sc_law_least.nd rfl (Or.inl rfl) (pe_op op_add (pv 1) pe_int)))
       pss_nil)))
       (pss_one (ps_ret (pv 1))))), ?_⟩
    try dsimp only [cxOf, Cx.nox, Cx.wish]
    obtain ⟨m, kvs, ks, rfl, hm, hk, hl, q⟩ := h
    have hkl := hk.len
    walk_at "rx"
    refine r_forR (fun j σ' H' => ∃ (l : Int) (v2 : Option V), σ' = [some (.ref m), some (.int l), v2] ∧ H = H' ∧ Below ks l ∧ (l = j + 1 ∨ l ∉ ks)) ⟨1, _, rfl, rfl, ⟨by decide, fun i h1 h2 => by omega⟩, .inl rfl⟩ ?_ ?_
    · rintro j σ' H' hj ⟨l, v2, rfl, rfl, hB, hc⟩
      walk_at "rx"
      rw [hk.has]
      refine r_ite (fun hi => ?_) (fun hi => ?_)
      · walk_at "rx"
        refine ⟨_, _, rfl, rfl, hB.step hi, .inl ?_⟩
        rcases hc with hc | hc
        · omega
        · exact absurd hi hc
      · walk_at "rx"
        exact ⟨_, _, rfl, rfl, hB, .inr hi⟩
    · rintro σ' H' ⟨l, v2, rfl, rfl, hB, hc⟩
      walk_at "rx"
      have hr := hB.room
      exact q _ ⟨hB.1, hc.resolve_left (by omega), hB.2⟩
def sp_copy : Sp := fun vs H Q _ => ∃ (m : Addr) (kvs : List (Key × V)) (ks : List Int), vs = [.ref m] ∧ H m = some (.dK kvs) ∧ Dk kvs ks ∧ ks.length ≤ 1000 ∧ ∀ H' c, Same H H' → H c = none → H' c = some (.dK kvs) → Q (.ref c) H'
theorem ok_law_copy (T : Txt K mg) : FnOk P w K mg base CX0 1 T.a_law_copy T.fd_law_copy ["model"] sp_copy := by
  refine T.F_law_copy.ok sc_law_copy (fun vs H Q E h => ?_) (fun cdv A outer s H vs Q E hr h => ?_)
  · obtain ⟨m, kvs, ks, rfl, _⟩ := h
    rfl
  · refine ⟨_, (pss_cons (ps_set (i := 1) sc_law_copy.nd rfl (Or.inl rfl) pe_dnewK)
       (pss_cons (ps_lock (ps_for PassesOwn.never rfl (pi_keys (pv 0)) (pg_name (i := 2) sc_law_copy.nd rfl (Or.inl rfl))
       (pss_one (ps_dput (hu_of hr) (pv 1) (pv 2) (pe_dget (hu_of hr) (pv 0) (pv 2) (fun _ _ => rfl)) rfl))))
       (pss_one (ps_ret (pv 1))))), ?_⟩
    try dsimp only [cxOf, Cx.nox, Cx.wish]
    obtain ⟨m, kvs, ks, rfl, hm, hk, hl, q⟩ := h
    walk_at "rx"
    rename_i c nc H1 s1 h1
    have hkl := hk.len
    have hm1 := s1 _ _ hm
    have hne : c ≠ m := fun z => by rw [z, hm] at nc; cases nc
    refine ⟨m, .dK kvs, hm1, trivial, fun od => ?_⟩
    generalize e2 : upd H1 m _ = H2
    have h2 := at_new e2
    have c2 : H2 c = some (.dK []) := by rw [← e2, upd_ne hne]; exact h1
    walk_at "rx"
    refine r_forKeys (fun j σ' H' => ∃ v2 : Option V, σ' = [some (.ref m), some (.ref c), v2] ∧ (∀ a, a ≠ c → H' a = H2 a) ∧ H' c = some (.dK (kvs.take j))) ⟨_, rfl, fun _ _ => rfl, c2⟩ (fun _ _ H' _ ⟨_, _, hf, _⟩ => by rw [hf _ hne.symm]; exact h2) ?_ ?_
    · rintro j k v σ' H' hj ⟨v2, rfl, hf, hc⟩
      have hcp := hk.copy hj
      obtain ⟨i, hi, rfl, hv⟩ := hk.val hj
      have hm' : H' m = some (.frz od (.dK kvs)) := by rw [hf _ hne.symm]; exact h2
      have hlt : (kvs.take j).length ≤ 1000 := by rw [List.length_take]; omega
      show gName 2 (.int i) _ _ _
      walk_at "rx"
      refine r_kdg2f hm' hv ?_
      walk_at "rx"
      rename_i H3 e3 h3
      exact ⟨_, rfl, fun a ha => by rw [← e3, upd_ne ha]; exact hf a ha, by rw [h3, hcp]⟩
    · rintro σ' H' ⟨v2, rfl, hf, hc⟩
      rw [List.take_length] at hc
      refine ⟨by rw [hf _ hne.symm]; exact h2, ?_⟩
      generalize e3 : upd H' m _ = H3
      walk_at "rx"
      refine q _ c (fun a o ha => ?_) nc (by rw [← e3, upd_ne hne]; exact hc)
      have hac : a ≠ c := ne_of_none ha nc
      by_cases ham : a = m
      · rw [ham] at ha ⊢
        rw [hm] at ha
        cases ha
        exact at_new e3
      · rw [← e3, upd_ne ham, hf _ hac, ← e2, upd_ne ham]
        exact s1 _ _ ha
/-- a store and its model -/
structure SM (K : PySem.W.Frag) (C : Addr) (H : Hp) (s d m : Addr) (kvs : List (Key × V)) (ks : List Int) (lc : Int) : Prop where
  sto : ∃ lay, StoAt C H s lay d lc
  hd : H d = some (.dK kvs)
  hm : H m = some (.dK kvs)
  dk : Dk kvs ks
  below : Below ks lc
  pos : ∀ k ∈ ks, 1 ≤ k
  bk : ∀ kv ∈ kvs, Bk K H kv.2
  dm : d ≠ m
def sp_agrees (K : PySem.W.Frag) (C : Addr) : Sp := fun vs H Q _ => ∃ (s d m : Addr) (kvs : List (Key × V)) (ks : List Int) (lc o : Int), vs = [.ref s, .ref m, .int o] ∧ SM K C H s d m kvs ks lc ∧ ks.length ≤ 1000 ∧
  ∀ H' lc', (∀ a u, H a = some u → a ≠ s → H' a = some u) → SM K C H' s d m kvs ks lc' → Q (.bl true) H'
theorem Bk.of_get {K : PySem.W.Frag} {H : Hp} {kvs : List (Key × V)} {j : Nat} {k : Key} {v : V} (h : ∀ kv ∈ kvs, Bk K H kv.2) (e : kvs[j]? = some (k, v)) : Bk K H v := h _ (List.mem_of_getElem? e)
theorem ok_law_agrees (T : Txt K mg) : FnOk P w K mg base CX0 3 T.a_law_agrees T.fd_law_agrees ["store", "model", "other"] (sp_agrees K T.A_Store) := by
  refine T.F_law_agrees.ok sc_law_agrees (fun vs H Q E h => ?_) (fun cdv A outer s H vs Q E hr h => ?_)
  · obtain ⟨s, d, m, kvs, ks, lc, o, rfl, _⟩ := h
    rfl
  · refine ⟨_, (C8.pss_cut (ps_if (PW.pt (pw_or (pt_not (pt_val (pe_call (ok_law_is_integer T) (hr.mono (by decide)) rfl T.m_law_is_integer T.F_law_is_integer.kp T.b_law_is_integer .nil pass0 (pa_cons (pe_prop (pv 0) T.cl_Store T.pr_Store_block_count (ok_Store_block_count T) (hr.mono (by decide)) T.b_Store_block_count .nil pass0 rfl) pa_nil)))) (pw_or1 (pt_cmpR op_ne (pe_prop (pv 0) T.cl_Store T.pr_Store_block_count (ok_Store_block_count T) (hr.mono (by decide)) T.b_Store_block_count .nil pass0 rfl) (pe_callB (c_lenD) (by rfl) T.n_len (by decide +kernel) (pa_cons (pv 1) pa_nil)) (nomark _)))))
       (pss_one (ps_ret pe_bl))
       pss_nil)
       (pss_cons (ps_set (i := 3) sc_law_agrees.nd rfl (Or.inl rfl) (pe_meth0 (pv 0) T.cl_Store T.me_Store_new_id (ok_Store_new_id T) (hr.mono (by decide)) T.b_Store_new_id .nil pass0))
       (C8.pss_cut (ps_if (PW.pt (pw_or (pt_not (pt_val (pe_call (ok_law_is_integer T) (hr.mono (by decide)) rfl T.m_law_is_integer T.F_law_is_integer.kp T.b_law_is_integer .nil pass0 (pa_cons (pv 3) pa_nil)))) (pw_or1 (pt_cmpR op_ne (pv 3) (pe_call (ok_law_least T) (hr.mono (by decide)) rfl T.m_law_least T.F_law_least.kp T.b_law_least .nil pass0 (pa_cons (pv 1) pa_nil)) (nomark _)))))
       (pss_one (ps_ret pe_bl))
       pss_nil)
       (C8.pss_cut (ps_if (PW.pt (pw_or (pt_not (pt_val (pe_callB (call_isi) (by rfl) T.n_isinstance (by decide +kernel) (pa_cons (pe_fld (pv 0) rfl) (pa_cons (pe_bltn (v := .ty "dict") (by rfl) T.n_dict (by decide +kernel) rfl) pa_nil))))) (pw_or1 (pt_cmpR op_ne (pe_callB (c_lenD) (by rfl) T.n_len (by decide +kernel) (pa_cons (pe_fld (pv 0) rfl) pa_nil)) (pe_callB (c_lenD) (by rfl) T.n_len (by decide +kernel) (pa_cons (pv 1) pa_nil)) (nomark _)))))
       (pss_one (ps_ret pe_bl))
       pss_nil)
       (pss_cons (ps_lock (ps_for PassesOwn.never rfl (pi_keys (pv 1)) (pg_name (i := 4) sc_law_agrees.nd rfl (Or.inl rfl))
       (pss_one (ps_if (PW.pt (pw_or (pt_cmpR (op_neD hr.units) (pe_meth (pv 0) T.cl_Store T.me_Store_get (ok_Store_get T) (hr.mono (by decide)) T.b_Store_get .nil pass0 (pa_cons (pv 4) pa_nil)) (pe_dget (hu_of hr) (pv 1) (pv 4) (fun _ _ => rfl)) (nomark _)) (pw_or (pt_cmp (pc_dnotin (hu_of hr) (pv 4) (pe_fld (pv 0) rfl)) rfl) (pw_or1 (pt_cmpR (op_neD hr.units) (pe_dget (hu_of hr) (pe_fld (pv 0) rfl) (pv 4) (fun _ _ => rfl)) (pe_dget (hu_of hr) (pv 1) (pv 4) (fun _ _ => rfl)) (nomark _))))))
       (pss_one (ps_ret pe_bl))
       pss_nil))))
       (pss_cons (ps_for PassesOwn.never rfl (pi_list (pe_lst (pa_cons (pe_call (ok_law_least T) (hr.mono (by decide)) rfl T.m_law_least T.F_law_least.kp T.b_law_least .nil pass0 (pa_cons (pv 1) pa_nil)) (pa_cons (pv 2) (pa_cons pe_int pa_nil))))) (pg_name (i := 4) sc_law_agrees.nd rfl (Or.inl rfl))
       (pss_one (ps_if (PW.pt (pw_and (pt_cmp (pc_dnotin (hu_of hr) (pv 4) (pv 1)) rfl) (pw_and1 (pt_cmp (pc_notN (pe_meth (pv 0) T.cl_Store T.me_Store_get (ok_Store_get T) (hr.mono (by decide)) T.b_Store_get .nil pass0 (pa_cons (pv 4) pa_nil))) rfl))))
       (pss_one (ps_ret pe_bl))
       pss_nil)))
       (pss_one (ps_ret pe_bl)))))))), ?_⟩
    try dsimp only [cxOf, Cx.nox, Cx.wish]
    obtain ⟨s, d, m, kvs, ks, lc, o, rfl, ⟨⟨lay, hS⟩, hd, hm, hk, hB, hpos, hbk, hdm⟩, hl, q⟩ := h
    have hkl := hk.len
    have cl := T.cl_Store
    have na2 := T.na_Store_blocks
    obtain ⟨dx, fs, hs, F⟩ := id hS
    have hds : d ≠ s := ne_of hd hs (by intro z; cases z)
    have hms : m ≠ s := ne_of hm hs (by intro z; cases z)
    refine r_cutS ?_ ?_
    · walk_at "rx"
      refine ⟨s, lay, d, lc, kvs, rfl, hS, hd, ?_⟩
      walk_at "rx"
      refine ⟨_, rfl, ?_⟩
      walk_at "rx"
      refine ⟨s, lay, d, lc, kvs, rfl, hS, hd, ?_⟩
      walk_at "rx"
      refine r_iteNDn rfl ?_
      walk_at "rx"
      exact ⟨rfl, rfl⟩
    have n4 := F.n4
    walk_at "rx"
    refine ⟨s, lay, d, lc, kvs, ks, rfl, hS, hd, hk, hB, fun H1 L hL hf hS1 => ?_⟩
    have hd1 : H1 d = some (.dK kvs) := by rw [hf _ hds]; exact hd
    have hm1 : H1 m = some (.dK kvs) := by rw [hf _ hms]; exact hm
    have hs0 := hs
    clear hS hs F n4
    obtain ⟨dx1, fs, hs, F⟩ := id hS1
    have f1 := F.blocks
    have n1 := F.n1
    walk_at "rx"
    refine r_cutS ?_ ?_
    · walk_at "rx"
      refine ⟨_, rfl, ?_⟩
      walk_at "rx"
      refine ⟨m, kvs, ks, rfl, hm1, hk, hl, fun L' hL' => ?_⟩
      cases hL.uniq hL'
      walk_at "rx"
      refine r_iteNDn rfl ?_
      walk_at "rx"
      exact ⟨rfl, rfl⟩
    refine r_cutS ?_ ?_
    · walk_at "rx"
      refine r_isi (b := true) (ClsV.ty _) (TyX.base (TyOf.dK hd1)) (kit_ty (by decide +kernel)) ?_
      walk_at "rx"
      refine r_iteNDn rfl ?_
      walk_at "rx"
      exact ⟨rfl, rfl⟩
    walk_at "rx"
    refine ⟨m, .dK kvs, hm1, trivial, fun od => ?_⟩
    generalize e2 : upd H1 m _ = H2
    have hm2 := at_new e2
    have hd2 : H2 d = some (.dK kvs) := by rw [← e2, upd_ne hdm]; exact hd1
    have hs2 : H2 s = some (.ins T.A_Store dx1 fs) := by rw [← e2, upd_ne hms.symm]; exact hs
    have hS2 : StoAt T.A_Store H2 s lay d L := ⟨dx1, fs, hs2, F⟩
    have kp : Keeps H H2 := fun a u hu ha => by
      have h1 : a ≠ s := ne_of ha hs0 (by rintro rfl; exact hu)
      have h2 : a ≠ m := ne_of ha hm (by rintro rfl; exact hu)
      rw [← e2, upd_ne h2, hf _ h1]
      exact ha
    walk_at "rx"
    refine r_forKeys (fun j σ' H' => ∃ v4 : Option V, σ' = [some (.ref s), some (.ref m), some (.int o), some (.int L), v4] ∧ H2 = H') ⟨_, rfl, rfl⟩ (fun _ _ H' _ ⟨_, _, e⟩ => e ▸ hm2) ?_ ?_
    · rintro j k v σ' H' hj ⟨v4, rfl, rfl⟩
      have hbv := (Bk.of_get hbk hj).keeps kp
      obtain ⟨i, hi, rfl, hv⟩ := hk.val hj
      show gName 4 (.int i) _ _ _
      walk_at "rx"
      refine ⟨s, lay, d, L, i, kvs, rfl, hS2, hd2, ?_⟩
      rw [hv]
      walk_at "rx"
      refine r_kdg2f hm2 hv ?_
      refine r_neB hbv ?_
      walk_at "rx"
      rw [hv]
      walk_at "rx"
      refine r_kdg2 hd2 hv ?_
      walk_at "rx"
      refine r_kdg2f hm2 hv ?_
      refine r_neB hbv ?_
      walk_at "rx"
      exact ⟨_, rfl, rfl⟩
    · rintro σ' H' ⟨v4, rfl, rfl⟩
      refine ⟨hm2, ?_⟩
      have e3 : upd H2 m (.dK kvs) = H1 := by
        rw [← e2]
        funext a
        by_cases ha : a = m
        · rw [ha, upd_same, hm1]
        · rw [upd_ne ha, upd_ne ha]
      rw [e3]
      walk_at "rx"
      refine ⟨m, kvs, ks, rfl, hm1, hk, hl, fun L' hL' => ?_⟩
      walk_at "rx"
      rename_i l3 n3 H3 s3 h3
      have hd3 := s3 _ _ hd1
      have hm3 := s3 _ _ hm1
      have hs3 := s3 _ _ hs
      refine r_forL (xs := ([L', o, 65535] : List Int).map V.int) (fun j σ' H' => ∃ v4 : Option V, σ' = [some (.ref s), some (.ref m), some (.int o), some (.int L), v4] ∧ H3 = H') ⟨_, rfl, rfl⟩ (fun _ _ _ _ ⟨_, _, e⟩ => e ▸ .of h3) ?_ ?_
      · rintro j x σ' H' hj ⟨v4, rfl, rfl⟩
        rw [List.getElem?_map] at hj
        obtain ⟨y, hy, rfl⟩ := Option.map_eq_some_iff.mp hj
        walk_at "rx"
        refine to_ite (fun hn => ?_) (fun hn => ?_)
        · walk_at "rx"
          refine ⟨s, lay, d, L, y, kvs, rfl, ⟨dx1, fs, hs3, F⟩, hd3, ?_⟩
          have hv : valV kvs (Sum.inl y : Key) = none := by
            cases e : valV kvs (Sum.inl y : Key) with
            | none => rfl
            | some v => rw [e] at hn; simp at hn
          rw [hv]
          walk_at "rx"
          exact ⟨_, rfl, rfl⟩
        · walk_at "rx"
          exact ⟨_, rfl, rfl⟩
      · rintro σ' H' ⟨v4, rfl, rfl⟩
        walk_at "rx"
        refine q _ L (fun a u ha hne => s3 _ _ (by rw [hf _ hne]; exact ha)) ⟨⟨lay, dx1, fs, hs3, F⟩, hd3, hm3, hk, ⟨hL.1, hL.2.2⟩, hpos, fun kv hkv => (hbk kv hkv).keeps ?_, hdm⟩
        exact fun a u hu ha => s3 _ _ (by rw [hf _ (ne_of ha hs0 (by rintro rfl; exact hu))]; exact ha)
theorem getD_mem {l : List Int} {i : Nat} (h : i < l.length) : l.getD i 0 ∈ l := by
  rw [List.getD_eq_getElem?_getD, List.getElem?_eq_getElem h]
  exact List.getElem_mem h
theorem putK_mem {kvs : List (Key × V)} {k : Key} {v : V} {kv : Key × V} (h : kv ∈ putK kvs k v) : kv ∈ kvs ∨ kv.2 = v := by
  unfold putK at h
  split at h
  · obtain ⟨kv', h1, h2⟩ := List.mem_map.mp h
    split at h2
    · rw [← h2]; exact .inr rfl
    · rw [← h2]; exact .inl h1
  · rcases List.mem_append.mp h with h | h
    · exact .inl h
    · rw [List.mem_singleton.mp h]; exact .inr rfl
def sp_deed (K : PySem.W.Frag) (C : Addr) : Sp := fun vs H Q _ => ∃ (s d m : Addr) (kvs : List (Key × V)) (ks : List Int) (lc n : Int), vs = [.ref s, .ref m, .int n] ∧ SM K C H s d m kvs ks lc ∧ ks.length ≤ 60 ∧ 0 ≤ n ∧
  ∀ H' kvs' ks' lc', (∀ a u, H a = some u → a ≠ s → a ≠ d → a ≠ m → H' a = some u) → SM K C H' s d m kvs' ks' lc' → ks'.length ≤ ks.length + 1 → Q .non H'
theorem ok_law_deed (T : Txt K mg) : FnOk P w K mg base CX0 2 T.a_law_deed T.fd_law_deed ["store", "model", "number"] (sp_deed K T.A_Store) := by
  refine T.F_law_deed.ok sc_law_deed (fun vs H Q E h => ?_) (fun cdv A outer s H vs Q E hr h => ?_)
  · obtain ⟨s, d, m, kvs, ks, lc, n, rfl, _⟩ := h
    rfl
  · refine ⟨_, (pss_cons (ps_set (i := 3) sc_law_deed.nd rfl (Or.inl rfl) (pe_op op_mod (pe_callTy c_int (by rfl) T.n_int (by decide +kernel) (pa_cons (pv 2) pa_nil)) pe_int))
       (pss_cons (ps_set (i := 4) sc_law_deed.nd rfl (Or.inl rfl) (pe_op op_fdiv (pe_callTy c_int (by rfl) T.n_int (by decide +kernel) (pa_cons (pv 2) pa_nil)) pe_int))
       (pss_cons (ps_set (i := 5) sc_law_deed.nd rfl (Or.inl rfl) (pe_op op_add pe_int (pe_op op_mod (pv 4) pe_int)))
       (C8.pss_cut (ps_if (pt_cmpR op_eq (pv 3) pe_int (nomark _))
       (pss_one (ps_set (i := 5) sc_law_deed.nd rfl (Or.inl rfl) (pe_op op_add pe_int (pe_op op_mod (pv 4) pe_int))))
       pss_nil)
       (C8.pss_cut (ps_if (PW.pt (pw_or (pt_cmpR op_eq (pv 3) pe_int (nomark _)) (pw_or1 (pt_cmpR op_eq (pv 3) pe_int (nomark _)))))
       (pss_one (ps_set (i := 5) sc_law_deed.nd rfl (Or.inl rfl) (pe_meth0 (pv 0) T.cl_Store T.me_Store_new_id (ok_Store_new_id T) (hr.mono (by decide)) T.b_Store_new_id .nil pass0)))
       pss_nil)
       (C8.pss_cut (ps_if (PW.pt (pw_and (pt_cmpR op_gt (pv 3) pe_int (nomark _)) (pw_and1 (pt_cmpR op_gt (pe_callB (c_lenD) (by rfl) T.n_len (by decide +kernel) (pa_cons (pv 1) pa_nil)) pe_int (nomark _)))))
       (pss_cons (ps_set (i := 5) sc_law_deed.nd rfl (Or.inl rfl) (pe_ix ix_list (pe_callB (call_sortedDI rfl) (by rfl) T.n_sorted (by decide +kernel) (pa_cons (pv 1) pa_nil)) (pe_op op_mod (pe_op op_fdiv (pv 4) pe_int) (pe_callB (c_lenD) (by rfl) T.n_len (by decide +kernel) (pa_cons (pv 1) pa_nil))) (fun _ _ => rfl)))
       (pss_cons (ps_expr (pe_meth (pv 0) T.cl_Store T.me_Store_remove (ok_Store_remove T) (hr.mono (by decide)) T.b_Store_remove .nil pass0 (pa_cons (pv 5) pa_nil)))
       (pss_cons (ps_expr (pe_dpop1 (pv 1) (pv 5) ⟨rfl, rfl, rfl, rfl⟩))
       (pss_one ps_retN))))
       pss_nil)
       (pss_cons (ps_set (i := 6) sc_law_deed.nd rfl (Or.inl rfl) (pe_call (ok_law_payload T) (hr.mono (by decide)) rfl T.m_law_payload T.F_law_payload.kp T.b_law_payload .nil pass0 (pa_cons (pe_op op_fdiv (pv 4) pe_int) pa_nil)))
       (pss_cons (ps_expr (pe_meth (pv 0) T.cl_Store T.me_Store_put (ok_Store_put T) (hr.mono (by decide)) T.b_Store_put .nil pass0 (pa_cons (pv 5) (pa_cons (pv 6) pa_nil))))
       (pss_one (ps_dput (hu_of hr) (pv 1) (pv 5) (pv 6) rfl)))))))))), ?_⟩
    try dsimp only [cxOf, Cx.nox, Cx.wish]
    obtain ⟨s, d, m, kvs, ks, lc, n, rfl, S, hl, n0, q⟩ := h
    have cl := T.cl_Store
    walk_at "rx"
    rename_i kind hkd k0 k1 w hw w0 w1
    refine r_cut (fun σ' H' => ∃ i : Int, 1 ≤ i ∧ σ' = [some (.ref s), some (.ref m), some (.int n), some (.int kind), some (.int (n / 8)), some (.int i), none] ∧ H = H') ?_ ?_
    · walk_at "rx"
      refine r_ite (fun _ => ?_) (fun _ => ?_)
      · walk_at "rx"
        exact ⟨_, by omega, rfl, rfl⟩
      · walk_at "rx"
        exact ⟨_, by omega, rfl, rfl⟩
    rintro _ _ ⟨i, i0, rfl, rfl⟩
    refine r_cut (fun σ' H' => ∃ i lc' : Int, 1 ≤ i ∧ σ' = [some (.ref s), some (.ref m), some (.int n), some (.int kind), some (.int (n / 8)), some (.int i), none] ∧ SM K T.A_Store H' s d m kvs ks lc' ∧ ∀ a, a ≠ s → H' a = H a) ?_ ?_
    · obtain ⟨⟨lay, hS⟩, hd, hm, hk, hB, hpos, hbk, hdm⟩ := id S
      obtain ⟨dx, fs, hs, F⟩ := id hS
      have n4 := F.n4
      have hds : d ≠ s := ne_of hd hs (by intro z; cases z)
      have hms : m ≠ s := ne_of hm hs (by intro z; cases z)
      have go : ∀ (H1 : Hp) (L : Int), IsLeast ks L → (∀ a, a ≠ s → H1 a = H a) → StoAt T.A_Store H1 s lay d L → SM K T.A_Store H1 s d m kvs ks L := fun H1 L hL hf hS1 =>
        ⟨⟨lay, hS1⟩, by rw [hf _ hds]; exact hd, by rw [hf _ hms]; exact hm, hk, ⟨hL.1, hL.2.2⟩, hpos, fun kv hkv => (hbk kv hkv).keeps fun a u hu ha => by rw [hf _ (ne_of ha hs (by rintro rfl; exact hu))]; exact ha, hdm⟩
      walk_at "rx"
      refine r_ite (fun _ => ?_) (fun _ => ?_)
      · walk_at "rx"
        refine ⟨s, lay, d, lc, kvs, ks, rfl, hS, hd, hk, hB, fun H1 L hL hf hS1 => ?_⟩
        walk_at "rx"
        exact ⟨_, _, hL.1, rfl, go H1 L hL hf hS1, hf⟩
      · walk_at "rx"
        refine r_ite (fun _ => ?_) (fun _ => ?_)
        · walk_at "rx"
          refine ⟨s, lay, d, lc, kvs, ks, rfl, hS, hd, hk, hB, fun H1 L hL hf hS1 => ?_⟩
          walk_at "rx"
          exact ⟨_, _, hL.1, rfl, go H1 L hL hf hS1, hf⟩
        · walk_at "rx"
          exact ⟨_, _, i0, rfl, S, fun _ _ => rfl⟩
    rintro _ H1 ⟨i, lc', i0, rfl, S1, hf1⟩
    clear S
    obtain ⟨⟨lay, hS⟩, hd, hm, hk, hB, hpos, hbk, hdm⟩ := id S1
    obtain ⟨dx, fs, hs, F⟩ := id hS
    have n3 := F.n3
    have n2 := F.n2
    have hds : d ≠ s := ne_of hd hs (by intro z; cases z)
    have hms : m ≠ s := ne_of hm hs (by intro z; cases z)
    have hkl := hk.len
    refine r_cutS ?_ ?_
    · walk_at "rx"
      refine r_ite (fun _ => ?_) (fun _ => ?_)
      · walk_at "rx"
        refine r_ite (fun hlen => ?_) (fun _ => ?_)
        · walk_at "rx"
          refine ⟨m, kvs, ks, rfl, .inl hm, hk.keys, by omega, fun ys p perm _ np => ?_⟩
          generalize e2 : upd _ _ _ = H2
          have s2 := Same.of_new e2 np
          have h2 := at_new e2
          have hm2 := s2 _ _ hm
          have hd2 := s2 _ _ hd
          have hs2 := s2 _ _ hs
          walk_at "rx"
          rename_i y hy y0 y1
          have hyl : ys.length = ks.length := perm.length_eq
          refine r_ixl (.of h2) (at_ints y0 (by omega)) ?_
          have hmem : ys.getD y.toNat 0 ∈ ks := perm.mem_iff.mp (getD_mem (by omega))
          generalize ys.getD y.toNat 0 = x at hmem
          have hh := hk.has x
          rw [decide_eq_true hmem] at hh
          walk_at "rx"
          refine ⟨s, lay, d, lc', x, kvs, rfl, ⟨dx, fs, hs2, F⟩, hd2, hh, fun H3 hf3 hd3 hS3 => ?_⟩
          have hm3 : H3 m = some (.dK kvs) := by rw [hf3 _ hms hdm.symm]; exact hm2
          obtain ⟨v, hv⟩ := Option.isSome_iff_exists.mp hh
          walk_at "rx"
          refine r_kdo2 hm3 hv ?_
          generalize e4 : upd _ _ _ = H4
          walk_at "rx"
          have keep : ∀ a u, H1 a = some u → a ≠ s → a ≠ d → a ≠ m → H4 a = some u := fun a u ha h1 h2 h3 => by
            rw [← e4, upd_ne h3, hf3 _ h1 h2]
            exact s2 _ _ ha
          have kp : Keeps H1 H4 := fun a u hu ha => keep a u ha (ne_of ha hs (by rintro rfl; exact hu)) (ne_of ha hd (by rintro rfl; exact hu)) (ne_of ha hm (by rintro rfl; exact hu))
          obtain ⟨dx3, fs3, hs3, F3⟩ := hS3
          refine q H4 _ _ _ (fun a u ha h1 h2 h3 => keep a u (by rw [hf1 _ h1]; exact ha) h1 h2 h3) ⟨⟨lay, dx3, fs3, at_keep e4 hs3 hm3 (by intro z; cases z), F3⟩, by rw [← e4, upd_ne hdm]; exact hd3, at_new e4, hk.drop x, ?_, ?_, ?_, hdm⟩ ?_
          · refine ⟨?_, fun j j1 j2 => ?_⟩
            · have := hpos x hmem
              have := hB.1
              split <;> omega
            · rw [List.mem_filter]
              refine ⟨hB.2 j j1 (by split at j2 <;> omega), ?_⟩
              simp only [decide_eq_true_eq]
              split at j2 <;> omega
          · intro k hk'
            exact hpos k (List.mem_filter.mp hk').1
          · intro kv hkv
            exact (hbk kv (List.mem_filter.mp hkv).1).keeps kp
          · exact Nat.le_succ_of_le (List.length_filter_le _ _)
        · walk_at "rx"
          exact ⟨rfl, rfl⟩
      · walk_at "rx"
        exact ⟨rfl, rfl⟩
    walk_at "rx"
    refine ⟨_, rfl, fun H2 v s2 hv => ?_⟩
    have n2' := n2
    have hs2 := s2 _ _ hs
    have hd2 := s2 _ _ hd
    have hm2 := s2 _ _ hm
    walk_at "rx"
    refine ⟨s, lay, d, lc', i, v, kvs, rfl, ⟨dx, fs, hs2, F⟩, hd2, by omega, fun H3 e3 => ?_⟩
    have hm3 : H3 m = some (.dK kvs) := by rw [← e3, upd_ne hdm.symm]; exact hm2
    walk_at "rx"
    rename_i H4 e4 h4
    have nd : ¬ Fixed (.dK kvs) := fun z => z
    have kp3 : Keeps H1 H4 := (Keeps.of s2).trans ((Keeps.upd hd2 nd e3).trans (Keeps.upd hm3 nd e4))
    have kp2 : Keeps H2 H4 := (Keeps.upd hd2 nd e3).trans (Keeps.upd hm3 nd e4)
    refine q _ _ _ lc' (fun a u ha h1 h2 h3 => by rw [← e4, upd_ne h3, ← e3, upd_ne h2]; exact s2 _ _ (by rw [hf1 _ h1]; exact ha)) ⟨⟨lay, dx, fs, at_keep e4 (at_keep e3 hs2 hd2 (by intro z; cases z)) hm3 (by intro z; cases z), F⟩, ?_, h4, hk.put i v, ?_, ?_, ?_, hdm⟩ ?_
    · rw [← e4, upd_ne hdm]
      exact at_new e3
    · refine ⟨hB.1, fun j h1 h2 => ?_⟩
      have := hB.2 j h1 h2
      split
      · exact this
      · exact List.mem_append_left _ this
    · intro k hk'
      split at hk'
      · exact hpos k hk'
      · rcases List.mem_append.mp hk' with h | h
        · exact hpos k h
        · rw [List.mem_singleton.mp h]; exact i0
    · intro kv hkv
      rcases putK_mem hkv with h | h
      · exact (hbk kv h).keeps kp3
      · rw [h]; exact hv.keeps kp2
    · split
      · omega
      · rw [List.length_append]
        exact Nat.le_refl _
def spLawK (K : PySem.W.Frag) : Sp := fun vs H Q _ => ∃ (a : Addr) (ns : List Int), vs = [.ref a] ∧ Scr K H a ns ∧ ns.length ≤ 63 ∧ ∀ H', Q (.bl true) H'
theorem SM.keep {K : PySem.W.Frag} {C : Addr} {H H' : Hp} {s d m : Addr} {kvs : List (Key × V)} {ks : List Int} {lc : Int} (h : SM K C H s d m kvs ks lc) (k : ∀ a u, H a = some u → (a = s ∨ a = d ∨ a = m ∨ Fixed u) → H' a = some u) : SM K C H' s d m kvs ks lc := by
  obtain ⟨⟨lay, dx, fs, hs, F⟩, hd, hm, hk, hB, hpos, hbk, hdm⟩ := h
  exact ⟨⟨lay, dx, fs, k _ _ hs (.inl rfl), F⟩, k _ _ hd (.inr (.inl rfl)), k _ _ hm (.inr (.inr (.inl rfl))), hk, hB, hpos, fun kv hkv => (hbk kv hkv).keeps fun a u hu ha => k _ _ ha (.inr (.inr (.inr hu))), hdm⟩
theorem SM.mono {K : PySem.W.Frag} {C : Addr} {H H' : Hp} {s d m : Addr} {kvs : List (Key × V)} {ks : List Int} {lc : Int} (h : SM K C H s d m kvs ks lc) (k : Same H H') : SM K C H' s d m kvs ks lc := h.keep fun a u ha _ => k a u ha
def two (t : Int) (x y : V) : List V := if t = 0 then [x, y] else [y, x]
theorem two_this {t : Int} {x y : V} (h : t = 0 ∨ t = 1) : atI (two t x y) t = some x := by rcases h with rfl | rfl <;> (with_unfolding_all rfl)
theorem two_len {t : Int} {x y : V} : (two t x y).length = 2 := by unfold two; split <;> rfl
theorem two_set {t : Int} {x y z : V} (h : t = 0 ∨ t = 1) : (two t x y).set (1 - t).toNat z = two t x z := by rcases h with rfl | rfl <;> rfl
theorem two_flip {t : Int} {x y : V} (h : t = 0 ∨ t = 1) : two t x y = two (1 - t) y x := by rcases h with rfl | rfl <;> rfl
structure Two (K : PySem.W.Frag) (C : Addr) (H : Hp) (l4 l5 : Addr) (n : Nat) (t : Int) (sx dx mx : Addr) (kx : List (Key × V)) (ax : List Int) (cx : Int) (sy dy my : Addr) (ky : List (Key × V)) (ay : List Int) (cy : Int) : Prop where
  st : H l4 = some (.lst (two t (.ref sx) (.ref sy)))
  mo : H l5 = some (.lst (two t (.ref mx) (.ref my)))
  x : SM K C H sx dx mx kx ax cx
  y : SM K C H sy dy my ky ay cy
  ss : sx ≠ sy
  dd : dx ≠ dy
  dm : dx ≠ my
  md : mx ≠ dy
  mm : mx ≠ my
  ll : l4 ≠ l5
  lx : ax.length ≤ n
  ly : ay.length ≤ n
def Inv2 (K : PySem.W.Frag) (C : Addr) (H : Hp) (l4 l5 : Addr) (n : Nat) (t : Int) : Prop := ∃ sx dx mx kx ax cx sy dy my ky ay cy, Two K C H l4 l5 n t sx dx mx kx ax cx sy dy my ky ay cy
theorem Inv2.flip {K : PySem.W.Frag} {C : Addr} {H : Hp} {l4 l5 : Addr} {n : Nat} {t : Int} (ht : t = 0 ∨ t = 1) (h : Inv2 K C H l4 l5 n t) : Inv2 K C H l4 l5 n (1 - t) := by
  obtain ⟨sx, dx, mx, kx, ax, cx, sy, dy, my, ky, ay, cy, h⟩ := h
  exact ⟨sy, dy, my, ky, ay, cy, sx, dx, mx, kx, ax, cx, by rw [← two_flip ht]; exact h.st, by rw [← two_flip ht]; exact h.mo, h.y, h.x, h.ss.symm, h.dd.symm, h.md.symm, h.dm.symm, h.mm.symm, h.ll, h.ly, h.lx⟩
theorem Inv2.to {K : PySem.W.Frag} {C : Addr} {H : Hp} {l4 l5 : Addr} {n : Nat} {t u : Int} (ht : t = 0 ∨ t = 1) (hu : u = 0 ∨ u = 1) (h : Inv2 K C H l4 l5 n t) : Inv2 K C H l4 l5 n u := by
  rcases ht with rfl | rfl <;> rcases hu with rfl | rfl
  · exact h
  · exact h.flip (.inl rfl)
  · exact h.flip (.inr rfl)
  · exact h
theorem SM.kinds {K : PySem.W.Frag} {C : Addr} {H : Hp} {s d m : Addr} {kvs : List (Key × V)} {ks : List Int} {lc : Int} (h : SM K C H s d m kvs ks lc) {a : Addr} {u : HO} (ha : H a = some u) (hu : ∀ C dx fs, u ≠ .ins C dx fs) (hv : ∀ kvs, u ≠ .dK kvs) : a ≠ s ∧ a ≠ d ∧ a ≠ m := by
  obtain ⟨⟨lay, dx, fs, hs, F⟩, hd, hm, _⟩ := h
  exact ⟨ne_of ha hs (hu _ _ _), ne_of ha hd (hv _), ne_of ha hm (hv _)⟩
theorem Fixed.kinds {u : HO} (h : Fixed u) : (∀ C dx fs, u ≠ .ins C dx fs) ∧ (∀ kvs, u ≠ .dK kvs) := ⟨fun _ _ _ e => by rw [e] at h; exact h, fun _ e => by rw [e] at h; exact h⟩
/-- one of the two is worked on -/
theorem Two.work {K : PySem.W.Frag} {C : Addr} {H H' : Hp} {l4 l5 : Addr} {n n' : Nat} {t : Int} {sx dx mx : Addr} {kx kx' : List (Key × V)} {ax ax' : List Int} {cx cx' : Int} {sy dy my : Addr} {ky : List (Key × V)} {ay : List Int} {cy : Int}
    (h : Two K C H l4 l5 n t sx dx mx kx ax cx sy dy my ky ay cy) (k : ∀ a u, H a = some u → a ≠ sx → a ≠ dx → a ≠ mx → H' a = some u) (S : SM K C H' sx dx mx kx' ax' cx') (hl : ax'.length ≤ n') (hn : n ≤ n') :
    Two K C H' l4 l5 n' t sx dx mx kx' ax' cx' sy dy my ky ay cy := by
  have kl : ∀ a xs, H a = some (.lst xs) → H' a = some (.lst xs) := fun a xs e => by
    obtain ⟨h1, h2, h3⟩ := h.x.kinds e (fun _ _ _ z => by cases z) (fun _ z => by cases z)
    exact k _ _ e h1 h2 h3
  obtain ⟨⟨lay, dxy, fs, hs, F⟩, hd, hm, hk, hB, hpos, hbk, hdm⟩ := id h.y
  obtain ⟨⟨layx, dxx, fsx, hsx, Fx⟩, hdx, hmx, _⟩ := id h.x
  refine ⟨kl _ _ h.st, kl _ _ h.mo, S, h.y.keep fun a u ha hc => ?_, h.ss, h.dd, h.dm, h.md, h.mm, h.ll, hl, Nat.le_trans h.ly hn⟩
  rcases hc with rfl | rfl | rfl | hf
  · exact k _ _ ha h.ss.symm (ne_of hs hdx (by intro z; cases z)) (ne_of hs hmx (by intro z; cases z))
  · exact k _ _ ha (ne_of hd hsx (by intro z; cases z)) h.dd.symm h.md.symm
  · exact k _ _ ha (ne_of hm hsx (by intro z; cases z)) h.dm.symm h.mm.symm
  · obtain ⟨k1, k2⟩ := hf.kinds
    obtain ⟨h1, h2, h3⟩ := h.x.kinds ha k1 k2
    exact k _ _ ha h1 h2 h3
theorem Two.sym {K : PySem.W.Frag} {C : Addr} {H : Hp} {l4 l5 : Addr} {n : Nat} {t : Int} {sx dx mx : Addr} {kx : List (Key × V)} {ax : List Int} {cx : Int} {sy dy my : Addr} {ky : List (Key × V)} {ay : List Int} {cy : Int} (ht : t = 0 ∨ t = 1)
    (h : Two K C H l4 l5 n t sx dx mx kx ax cx sy dy my ky ay cy) : Two K C H l4 l5 n (1 - t) sy dy my ky ay cy sx dx mx kx ax cx :=
  ⟨by rw [← two_flip ht]; exact h.st, by rw [← two_flip ht]; exact h.mo, h.y, h.x, h.ss.symm, h.dd.symm, h.md.symm, h.dm.symm, h.mm.symm, h.ll, h.ly, h.lx⟩
theorem SM.fixed {K : PySem.W.Frag} {C : Addr} {H H' : Hp} {s d m : Addr} {kvs : List (Key × V)} {ks : List Int} {lc : Int} (h : SM K C H s d m kvs ks lc) (k : ∀ a u, H a = some u → a ≠ s → a ≠ d → a ≠ m → H' a = some u) : Keeps H H' := fun a u hf ha => by
  obtain ⟨k1, k2⟩ := hf.kinds
  obtain ⟨h1, h2, h3⟩ := h.kinds ha k1 k2
  exact k _ _ ha h1 h2 h3
theorem small_fits : Fits 4 16 64 := ⟨by decide, by decide, by decide, by decide, .inl rfl, by decide⟩
theorem ok_law (T : Txt K mg) : FnOk P w K mg base CX0 4 T.a_law T.fd_law ["script"] (spLawK K) := by
  refine T.F_law.ok sc_law (fun vs H Q E h => ?_) (fun cdv A outer s H vs Q E hr h => ?_)
  · obtain ⟨a, ns, rfl, _⟩ := h
    rfl
  · refine ⟨_, (pss_cons (ps_set (i := 1) sc_law.nd rfl (Or.inl rfl) (pe_call (ok_law_row T) (hr.mono (by decide)) rfl T.m_law_row T.F_law_row.kp T.b_law_row .nil pass0 (pa_cons (pv 0) (pa_cons pe_int pa_nil))))
       (pss_cons (ps_set (i := 2) sc_law.nd rfl (Or.inl rfl) pe_dnewK)
       (pss_cons (ps_for PassesOwn.never rfl (pi_range1 rfl T.n_range (pa_cons (pe_op op_mod (pe_callTy c_int (by rfl) T.n_int (by decide +kernel) (pa_cons (pv 1) pa_nil)) pe_int) pa_nil)) (pg_name (i := 3) sc_law.nd rfl (Or.inl rfl))
       (pss_one (ps_dput (hu_of hr) (pv 2) (pe_op op_add pe_int (pe_op op_mod (pe_op op_fdiv (pe_callTy c_int (by rfl) T.n_int (by decide +kernel) (pa_cons (pv 1) pa_nil)) (pe_op op_add pe_int (pe_op op_mul pe_int (pv 3)))) pe_int)) (pe_call (ok_law_payload T) (hr.mono (by decide)) rfl T.m_law_payload T.F_law_payload.kp T.b_law_payload .nil pass0 (pa_cons (pe_op op_add (pe_op op_fdiv (pe_callTy c_int (by rfl) T.n_int (by decide +kernel) (pa_cons (pv 1) pa_nil)) pe_int) (pv 3)) pa_nil)) rfl)))
       (pss_cons (ps_set (i := 4) sc_law.nd rfl (Or.inl rfl) (pe_lst (pa_cons (pe_make T.M_Store (ok_Store___init T) (hr.mono (by decide)) rfl T.m_Store T.b_Store___init .nil pass0 (pa_cons (pe_make T.M_Layout (ok_Layout___init T) (hr.mono (by decide)) rfl T.m_Layout T.b_Layout___init .nil pass0 (pa_cons pe_int (pa_cons pe_int (pa_cons pe_int pa_nil)))) (pa_cons (pv 2) pa_nil))) pa_nil)))
       (pss_cons (ps_set (i := 5) sc_law.nd rfl (Or.inl rfl) (pe_lst (pa_cons (pe_call (ok_law_copy T) (hr.mono (by decide)) rfl T.m_law_copy T.F_law_copy.kp T.b_law_copy .nil pass0 (pa_cons (pv 2) pa_nil)) (pa_cons (pe_call (ok_law_copy T) (hr.mono (by decide)) rfl T.m_law_copy T.F_law_copy.kp T.b_law_copy .nil pass0 (pa_cons (pv 2) pa_nil)) pa_nil))))
       (pss_cons (ps_expr (pe_bm PySem.F.plainAttrs_list PySem.F.slot_list_append PySem.F.type_list_append mt_append (pv 4) (pa_cons (pe_meth0 (pe_ix ix_list (pv 4) pe_int (fun _ _ => rfl)) T.cl_Store T.me_Store_fork (ok_Store_fork T) (hr.mono (by decide)) T.b_Store_fork .nil pass0) pa_nil)))
       (pss_cons (ps_dput (hu_of hr) (pv 2) pe_int (pe_call (ok_law_payload T) (hr.mono (by decide)) rfl T.m_law_payload T.F_law_payload.kp T.b_law_payload .nil pass0 (pa_cons (pv 1) pa_nil)) rfl)
       (pss_cons (ps_dput (hu_of hr) (pv 2) pe_int (pe_call (ok_law_payload T) (hr.mono (by decide)) rfl T.m_law_payload T.F_law_payload.kp T.b_law_payload .nil pass0 (pa_cons (pe_op op_add (pe_callTy c_int (by rfl) T.n_int (by decide +kernel) (pa_cons (pv 1) pa_nil)) pe_int) pa_nil)) rfl)
       (pss_cons (ps_for PassesOwn.never rfl (pi_range1 rfl T.n_range (pa_cons pe_int pa_nil)) (pg_name (i := 3) sc_law.nd rfl (Or.inl rfl))
       (pss_cons (ps_set (i := 1) sc_law.nd rfl (Or.inl rfl) (pe_call (ok_law_row T) (hr.mono (by decide)) rfl T.m_law_row T.F_law_row.kp T.b_law_row .nil pass0 (pa_cons (pv 0) (pa_cons (pe_op op_add pe_int (pv 3)) pa_nil))))
       (pss_cons (ps_set (i := 6) sc_law.nd rfl (Or.inl rfl) (pe_op op_mod (pe_callTy c_int (by rfl) T.n_int (by decide +kernel) (pa_cons (pv 1) pa_nil)) pe_int))
       (pss_cons (ps_set (i := 1) sc_law.nd rfl (Or.inl rfl) (pe_op op_fdiv (pe_callTy c_int (by rfl) T.n_int (by decide +kernel) (pa_cons (pv 1) pa_nil)) pe_int))
       (C8.pss_cut (ps_if (pt_cmpR op_eq (pe_op op_mod (pe_callTy c_int (by rfl) T.n_int (by decide +kernel) (pa_cons (pv 1) pa_nil)) pe_int) pe_int (nomark _))
       (pss_cons (ps_asg (pe_meth0 (pe_ix ix_list (pv 4) (pv 6) (fun _ _ => rfl)) T.cl_Store T.me_Store_fork (ok_Store_fork T) (hr.mono (by decide)) T.b_Store_fork .nil pass0) (pg_sub (pv 4) (pe_op op_sub pe_int (pv 6)) set_list))
       (pss_one (ps_asg (pe_call (ok_law_copy T) (hr.mono (by decide)) rfl T.m_law_copy T.F_law_copy.kp T.b_law_copy .nil pass0 (pa_cons (pe_ix ix_list (pv 5) (pv 6) (fun _ _ => rfl)) pa_nil)) (pg_sub (pv 5) (pe_op op_sub pe_int (pv 6)) set_list))))
       (pss_one (ps_expr (pe_call (ok_law_deed T) (hr.mono (by decide)) rfl T.m_law_deed T.F_law_deed.kp T.b_law_deed .nil pass0 (pa_cons (pe_ix ix_list (pv 4) (pv 6) (fun _ _ => rfl)) (pa_cons (pe_ix ix_list (pv 5) (pv 6) (fun _ _ => rfl)) (pa_cons (pe_op op_fdiv (pe_callTy c_int (by rfl) T.n_int (by decide +kernel) (pa_cons (pv 1) pa_nil)) pe_int) pa_nil)))))))
       (pss_cons (ps_set (i := 7) sc_law.nd rfl (Or.inl rfl) (pe_op op_add pe_int (pe_op op_mod (pe_op op_fdiv (pe_callTy c_int (by rfl) T.n_int (by decide +kernel) (pa_cons (pv 1) pa_nil)) pe_int) pe_int)))
       (pss_one (ps_if (PW.pt (pw_or (pt_not (pt_val (pe_call (ok_law_agrees T) (hr.mono (by decide)) rfl T.m_law_agrees T.F_law_agrees.kp T.b_law_agrees .nil pass0 (pa_cons (pe_ix ix_list (pv 4) pe_int (fun _ _ => rfl)) (pa_cons (pe_ix ix_list (pv 5) pe_int (fun _ _ => rfl)) (pa_cons (pv 7) pa_nil)))))) (pw_or1 (pt_not (pt_val (pe_call (ok_law_agrees T) (hr.mono (by decide)) rfl T.m_law_agrees T.F_law_agrees.kp T.b_law_agrees .nil pass0 (pa_cons (pe_ix ix_list (pv 4) pe_int (fun _ _ => rfl)) (pa_cons (pe_ix ix_list (pv 5) pe_int (fun _ _ => rfl)) (pa_cons (pv 7) pa_nil)))))))))
       (pss_one (ps_ret pe_bl))
       pss_nil))))))))
       (pss_one (ps_ret pe_bl))))))))))), ?_⟩
    try dsimp only [cxOf, Cx.nox, Cx.wish]
    obtain ⟨a, ns, rfl, hS, h63, q⟩ := h
    have cl := T.cl_Store
    walk_at "rx"
    refine ⟨a, ns, _, rfl, hS _ (Keeps.refl _), h63, by decide, by decide, fun z0 hz0 => ?_⟩
    walk_at "rx"
    rename_i pd npd H1 s1 h1 cnt hcnt c0 c1
    refine r_forR (fun i σ' H' => ∃ (kvs : List (Key × V)) (ks : List Int) (v3 : Option V), σ' = [some (.ref a), some (.int z0), some (.ref pd), v3, none, none, none, none] ∧ Keeps H H' ∧ H' pd = some (.dK kvs) ∧ Dk kvs ks ∧ ks.length ≤ i ∧ (∀ k ∈ ks, 1 ≤ k) ∧ ∀ kv ∈ kvs, Bk K H' kv.2) ⟨[], [], _, rfl, Keeps.of s1, h1, Dk.nil, Nat.le_refl _, fun _ h => (by cases h), fun _ h => (by cases h)⟩ ?_ ?_
    · rintro i σ' H' hi ⟨kvs, ks, v3, rfl, kp, hd, hk, hl, hpos, hbk⟩
      have hkl := hk.len
      walk_at "rx"
      refine ⟨_, rfl, fun H2 v s2 hv => ?_⟩
      have hd2 := s2 _ _ hd
      walk_at "rx"
      rename_i y hy y0 y1 H3 e3 h3
      have nd : ¬ Fixed (.dK kvs) := fun z => z
      have kp2 : Keeps H' H3 := (Keeps.of s2).trans (Keeps.upd hd2 nd e3)
      refine ⟨_, _, _, rfl, kp.trans kp2, h3, hk.put (1 + y) v, ?_, ?_, ?_⟩
      · split
        · omega
        · rw [List.length_append]
          exact Nat.succ_le_succ hl
      · intro k hk'
        split at hk'
        · exact hpos k hk'
        · rcases List.mem_append.mp hk' with h | h
          · exact hpos k h
          · rw [List.mem_singleton.mp h]; omega
      · intro kv hkv
        rcases putK_mem hkv with h | h
        · exact (hbk kv h).keeps kp2
        · rw [h]; exact hv.keeps (Keeps.upd hd2 nd e3)
    rintro σ' H2 ⟨kvs, ks, v3, rfl, kp, hd, hk, hl, hpos, hbk⟩
    have hkl := hk.len
    have hl12 : ks.length ≤ 12 := by omega
    walk_at "rx"
    intro x dx nx nd ne
    refine ⟨x, dx, _, _, _, rfl, upd_same, small_fits, fun H3 fs k3 h3 hL => ⟨rfl, ?_⟩⟩
    have s3 := made_same nx nd k3
    walk_at "rx"
    intro s0 dx4 ns0 ndx4 ne4
    have hd3 := s3 _ _ hd
    have hdm : upd (upd H3 dx4 (.own s0)) s0 (.ins T.A_Store dx4 []) pd = some (.dK kvs) := by
      rw [upd_ne (ne_of_none hd3 ns0), upd_ne (ne_of_none hd3 ndx4)]
      exact hd3
    refine ⟨s0, dx4, x, pd, kvs, rfl, upd_same, hdm, fun H4 d0 k4 nd0 h4 hS0 => ⟨rfl, ?_⟩⟩
    have s4 : Same H3 H4 := fun b u e => k4 _ _ (by rw [upd_ne (ne_of_none e ns0), upd_ne (ne_of_none e ndx4)]; exact e) (ne_of_none e ns0)
    have d0pd : d0 ≠ pd := fun z => by rw [z, hdm] at nd0; cases nd0
    have S4 : Same H2 H4 := s3.trans s4
    have hd4 := S4 _ _ hd
    clear k3 k4 nx nd ne h3 hL hdm hd3 s3 s4 ns0 ndx4 ne4 nd0
    walk_at "rx"
    rename_i l4 nl4 H5 s5 h5
    have hd5 := s5 _ _ hd4
    refine ⟨pd, kvs, ks, rfl, hd5, hk, by omega, fun H6 m0 s6 nm0 h6 => ?_⟩
    have hd6 := s6 _ _ hd5
    walk_at "rx"
    refine ⟨pd, kvs, ks, rfl, hd6, hk, by omega, fun H7 m1 s7 nm1 h7 => ?_⟩
    walk_at "rx"
    rename_i l5 nl5 H8 s8 h8
    have l48 := s8 _ _ (s7 _ _ (s6 _ _ h5))
    obtain ⟨dxs, fs0, hs0, F0⟩ := id hS0
    have hs8 := s8 _ _ (s7 _ _ (s6 _ _ (s5 _ _ hs0)))
    have hd8 := s8 _ _ (s7 _ _ (s6 _ _ (s5 _ _ h4)))
    have n5 := F0.n5
    walk_at "rx"
    refine ⟨s0, x, d0, 1, kvs, rfl, ⟨dxs, fs0, hs8, F0⟩, hd8, fun H9 s1' d1 s9 ns1 nd1 h9 hS1 => ?_⟩
    have l49 := s9 _ _ l48
    have hpd9 := s9 _ _ (s8 _ _ (s7 _ _ hd6))
    walk_at "rx"
    rename_i H10 e10 h10
    have hpd10 : H10 pd = some (.dK kvs) := at_keep e10 hpd9 l49 (by intro z; cases z)
    refine ⟨_, rfl, fun H11 v11 s11 hv11 => ?_⟩
    have hpd11 := s11 _ _ hpd10
    walk_at "rx"
    rename_i H12 e12 h12
    refine ⟨_, rfl, fun H13 v13 s13 hv13 => ?_⟩
    have hpd13 := s13 _ _ h12
    have hkl2 := (hk.put 41 v11).len
    have hl2 : (putK kvs (Sum.inl 41) v11).length ≤ 1000 := by
      rw [hkl2]
      split
      · omega
      · rw [List.length_append]
        show ks.length + 1 ≤ 1000
        omega
    walk_at "rx"
    rename_i H14 e14 h14
    have keepA : ∀ a u, H9 a = some u → a ≠ l4 → a ≠ pd → H14 a = some u := fun a u ha h1 h2 => by
      rw [← e14, upd_ne h2]
      refine s13 _ _ ?_
      rw [← e12, upd_ne h2]
      refine s11 _ _ ?_
      rw [← e10, upd_ne h1]
      exact ha
    have nd : ∀ {kvs}, ¬ Fixed (.dK kvs) := fun z => z
    have nl : ∀ {xs}, ¬ Fixed (.lst xs) := fun z => z
    have kp9 : Keeps H2 H9 := Keeps.of (S4.trans (s5.trans (s6.trans (s7.trans (s8.trans s9)))))
    have kp14 : Keeps H9 H14 := (Keeps.upd l49 nl e10).trans ((Keeps.of s11).trans ((Keeps.upd hpd11 nd e12).trans ((Keeps.of s13).trans (Keeps.upd hpd13 nd e14))))
    have hm0 := s9 _ _ (s8 _ _ (s7 _ _ h6))
    have hm1 := s9 _ _ (s8 _ _ h7)
    have hd09 := s9 _ _ hd8
    have hs09 := s9 _ _ hs8
    have l59 := s9 _ _ h8
    have np : ∀ {a : Addr} {Hx : Hp}, Hx a = none → Hx pd = some (.dK kvs) → a ≠ pd := fun h1 h2 z => by rw [z, h2] at h1; cases h1
    have dkl : ∀ {a : Addr} {u : List (Key × V)}, H9 a = some (.dK u) → a ≠ l4 := fun h => ne_of h l49 (by intro z; cases z)
    have insl : ∀ {a C dx : Addr} {fs : List (Str × V)}, H9 a = some (.ins C dx fs) → a ≠ l4 ∧ a ≠ pd := fun h => ⟨ne_of h l49 (by intro z; cases z), ne_of h hpd9 (by intro z; cases z)⟩
    have pm0 := np nm0 hd5
    have pm1 := np nm1 hd6
    have pd1 : d1 ≠ pd := np nd1 (s8 _ _ (s7 _ _ hd6))
    have l54 : l5 ≠ l4 := fun z => by rw [z, s7 _ _ (s6 _ _ h5)] at nl5; cases nl5
    obtain ⟨dx1, fs1, hs19, F1⟩ := hS1
    have below1 : Below ks 1 := ⟨Int.le_refl _, fun i h1 h2 => by omega⟩
    have bk9 : ∀ kv ∈ kvs, Bk K H14 kv.2 := fun kv hkv => (hbk kv hkv).keeps (kp9.trans kp14)
    have I0 : Inv2 K T.A_Store H14 l4 l5 12 0 := by
      refine ⟨s0, d0, m0, kvs, ks, 1, s1', d1, m1, kvs, ks, 1, ?_, keepA _ _ l59 l54 (ne_of l59 hpd9 (by intro z; cases z)), ⟨⟨x, dxs, fs0, keepA _ _ hs09 (insl hs09).1 (insl hs09).2, F0⟩, keepA _ _ hd09 (dkl hd09) d0pd, keepA _ _ hm0 (dkl hm0) pm0, hk, below1, hpos, bk9, ?_⟩,
        ⟨⟨x, dx1, fs1, keepA _ _ hs19 (insl hs19).1 (insl hs19).2, F1⟩, keepA _ _ h9 (dkl h9) pd1, keepA _ _ hm1 (dkl hm1) pm1, hk, below1, hpos, bk9, ?_⟩, ?_, ?_, ?_, ?_, ?_, l54.symm, hl12, hl12⟩
      · rw [← e14, upd_ne (ne_of l49 hpd9 (by intro z; cases z))]
        refine s13 _ _ ?_
        rw [← e12, upd_ne (ne_of l49 hpd9 (by intro z; cases z))]
        exact s11 _ _ h10
      · exact fun z => by rw [← z, s5 _ _ h4] at nm0; cases nm0
      · exact fun z => by rw [z, s8 _ _ h7] at nd1; cases nd1
      · exact fun z => by rw [← z, hs8] at ns1; cases ns1
      · exact fun z => by rw [← z, hd8] at nd1; cases nd1
      · exact fun z => by rw [← z, s6 _ _ (s5 _ _ h4)] at nm1; cases nm1
      · exact fun z => by rw [← z, s8 _ _ (s7 _ _ h6)] at nd1; cases nd1
      · exact fun z => by rw [← z, h6] at nm1; cases nm1
    have kpA : Keeps H H14 := kp.trans (kp9.trans kp14)
    clear keepA np dkl insl hs09 hd09 hm0 hm1 l59 kp9 kp14 bk9 hs19 F1 below1 nd nl hpd13 h14 hpd11 h12 hpd10 h10 hpd9 l49 e14 s13 e12 s11 e10 h9 s9 hs8 hd8 n5 F0 hs0 l48 h8 s8 h7 s7 h6 s6 h5 s5 hd4 hd5 hd6 S4 h4 hS0 hbk hd
    walk_at "rx"
    refine r_forR (fun i σ' H' => ∃ (n : Int) (v3 v6 v7 : Option V), σ' = [some (.ref a), some (.int n), some (.ref pd), v3, some (.ref l4), some (.ref l5), v6, v7] ∧ Keeps H H' ∧ Inv2 K T.A_Store H' l4 l5 (12 + i) 0) ⟨_, _, _, _, rfl, kpA, I0⟩ ?_ ?_
    · rintro i σ' H' hi ⟨n, v3, v6, v7, rfl, kp', I⟩
      have hi40 : i < 40 := by simpa using hi
      walk_at "rx"
      refine ⟨a, ns, _, rfl, hS _ kp', h63, by omega, by omega, fun z1 hz1 => ?_⟩
      walk_at "rx"
      rename_i t ht t0 t1
      have ht01 : t = 0 ∨ t = 1 := by omega
      refine r_cut (fun σ' H'' => σ' = [some (.ref a), some (.int (z1 / 2)), some (.ref pd), some (.int (0 + (i : Int))), some (.ref l4), some (.ref l5), some (.int t), v7] ∧ Keeps H H'' ∧ Inv2 K T.A_Store H'' l4 l5 (12 + (i + 1)) 0) ?_ ?_
      · obtain ⟨sx, dx, mx, kx, ax, cx, sy, dy, my, ky, ay, cy, W⟩ := I.to (.inl rfl) ht01
        obtain ⟨⟨layx, dxx, fsx, hsx, Fx⟩, hdx, hmx, hkx, _⟩ := id W.x
        have n5 := Fx.n5
        have hax := W.lx
        have hst := W.st
        have hmo := W.mo
        walk_at "rx"
        refine r_ite (fun _ => ?_) (fun _ => ?_)
        · walk_at "rx"
          refine r_ixl (.of hst) (two_this ht01) ?_
          walk_at "rx"
          refine ⟨sx, layx, dx, cx, kx, rfl, ⟨dxx, fsx, hsx, Fx⟩, hdx, fun H1 s' d' s1 ns' nd' h1 hS' => ?_⟩
          have hst1 := s1 _ _ hst
          walk_at "rx"
          refine r_setl hst1 (ixN_ok (by omega) (by rw [two_len]; omega)) ?_
          rw [two_set ht01]
          generalize e2 : upd _ _ _ = H2
          have hmo2 : H2 l5 = some (.lst (two t (.ref mx) (.ref my))) := by rw [← e2, upd_ne W.ll.symm]; exact s1 _ _ hmo
          have hmx2 : H2 mx = some (.dK kx) := at_keep e2 (s1 _ _ hmx) hst1 (by intro z; cases z)
          walk_at "rx"
          refine r_ixl (.of hmo2) (two_this ht01) ?_
          walk_at "rx"
          refine ⟨mx, kx, ax, rfl, hmx2, hkx, by omega, fun H3 m' s3 nm' h3 => ?_⟩
          have hmo3 := s3 _ _ hmo2
          walk_at "rx"
          refine r_setl hmo3 (ixN_ok (by omega) (by rw [two_len]; omega)) ?_
          rw [two_set ht01]
          generalize e4 : upd _ _ _ = H4
          have k4 : ∀ a u, H1 a = some u → a ≠ l4 → a ≠ l5 → H4 a = some u := fun a u ha n1 n2 => by
            rw [← e4, upd_ne n2]
            refine s3 _ _ ?_
            rw [← e2, upd_ne n1]
            exact ha
          have nl : ∀ {xs}, ¬ Fixed (.lst xs) := fun z => z
          have kp4 : Keeps H' H4 := (Keeps.of s1).trans ((Keeps.upd hst1 nl e2).trans ((Keeps.of s3).trans (Keeps.upd hmo3 nl e4)))
          have nll : ∀ {a : Addr} {u : HO}, H1 a = some u → (∀ xs, u ≠ .lst xs) → a ≠ l4 ∧ a ≠ l5 := fun h1 h2 => ⟨ne_of h1 hst1 (h2 _), ne_of h1 (s1 _ _ hmo) (h2 _)⟩
          have k4' : ∀ a u, H1 a = some u → (∀ xs, u ≠ .lst xs) → H4 a = some u := fun a u h1 h2 => k4 a u h1 (nll h1 h2).1 (nll h1 h2).2
          obtain ⟨dx', fs', hs', F'⟩ := hS'
          refine ⟨rfl, kp'.trans kp4, Inv2.to ht01 (.inl rfl) ⟨sx, dx, mx, kx, ax, cx, s', d', m', kx, ax, 1, ?_, at_new e4, W.x.keep fun a u ha hc => ?_, ⟨⟨layx, dx', fs', k4' _ _ hs' (fun _ z => by cases z), F'⟩, k4' _ _ h1 (fun _ z => by cases z), ?_, hkx, ⟨Int.le_refl _, fun i h1 h2 => by omega⟩, W.x.pos, fun kv hkv => (W.x.bk kv hkv).keeps kp4, ?_⟩, ?_, ?_, ?_, ?_, ?_, W.ll, by omega, by omega⟩⟩
          · rw [← e4, upd_ne W.ll]
            exact s3 _ _ (at_new e2)
          · refine k4' a u (s1 _ _ ha) fun xs z => ?_
            rcases hc with rfl | rfl | rfl | hf
            · rw [hsx, z] at ha; cases ha
            · rw [hdx, z] at ha; cases ha
            · rw [hmx, z] at ha; cases ha
            · rw [z] at hf; exact hf
          · rw [← e4, upd_ne (fun z => by rw [z, hmo2] at nm'; cases nm')]
            exact h3
          · intro z
            rw [← z, ← e2, upd_ne (nll h1 (fun _ z => by cases z)).1, h1] at nm'
            cases nm'
          · intro z
            rw [← z, hsx] at ns'
            cases ns'
          · intro z
            rw [← z, hdx] at nd'
            cases nd'
          · intro z
            rw [← z, at_keep e2 (s1 _ _ hdx) hst1 (by intro z; cases z)] at nm'
            cases nm'
          · intro z
            rw [← z, hmx] at nd'
            cases nd'
          · intro z
            rw [← z, hmx2] at nm'
            cases nm'
        · walk_at "rx"
          refine r_ixl (.of hst) (two_this ht01) ?_
          walk_at "rx"
          refine r_ixl (.of hmo) (two_this ht01) ?_
          walk_at "rx"
          refine ⟨sx, dx, mx, kx, ax, cx, _, rfl, W.x, by omega, by omega, fun H1 kvs' ks' lc' k S hl => ?_⟩
          walk_at "rx"
          exact ⟨rfl, kp'.trans (W.x.fixed k), Inv2.to ht01 (.inl rfl) ⟨_, _, _, _, _, _, _, _, _, _, _, _, W.work k S (by omega) (by omega)⟩⟩
      rintro _ H'' ⟨rfl, kp'', I''⟩
      obtain ⟨sx, dx, mx, kx, ax, cx, sy, dy, my, ky, ay, cy, W⟩ := I''
      have hst : H'' l4 = some (.lst [.ref sx, .ref sy]) := W.st
      have hmo : H'' l5 = some (.lst [.ref mx, .ref my]) := W.mo
      have hlx := W.lx
      have hly := W.ly
      walk_at "rx"
      refine ⟨sx, dx, mx, kx, ax, cx, _, rfl, W.x, by omega, fun H1 lc1 k1 S1 => ?_⟩
      have W1 := W.work (fun a u ha h1 _ _ => k1 a u ha h1) S1 W.lx (Nat.le_refl _)
      have K1 := W.x.fixed (H' := H1) (fun a u ha h1 _ _ => k1 a u ha h1)
      have hst1 : H1 l4 = some (.lst [.ref sx, .ref sy]) := W1.st
      have hmo1 : H1 l5 = some (.lst [.ref mx, .ref my]) := W1.mo
      clear hst hmo
      walk_at "rx"
      refine ⟨sy, dy, my, ky, ay, cy, _, rfl, W1.y, by omega, fun H2 lc2 k2 S2 => ?_⟩
      have W2 := (W1.sym (.inl rfl)).work (fun a u ha h1 _ _ => k2 a u ha h1) S2 W.ly (Nat.le_refl _)
      have K2 := W1.y.fixed (H' := H2) (fun a u ha h1 _ _ => k2 a u ha h1)
      walk_at "rx"
      exact ⟨_, _, _, _, rfl, kp''.trans (K1.trans K2), Inv2.to (t := 1 - 0) (.inr rfl) (.inl rfl) ⟨_, _, _, _, _, _, _, _, _, _, _, _, W2⟩⟩
    · rintro σ' H' ⟨n, v3, v6, v7, rfl, kp', I⟩
      walk_at "rx"
      exact q _
end
theorem all_mk {l : PySem.W.OpenLaw} {w : World} {K : PySem.W.Frag} {h : Heap} {mg : Str → Option Value} {fa C_Store C_Layout f_Store___init f_Store_get f_Store_put f_Store_remove f_Store_new_id f_Store_fork f_Store_block_count f_Layout___init f_parts_of f_law_row f_law_is_integer f_law_payload f_law_least f_law_copy f_law_agrees f_law_deed f_law k_BLOCK_SIZES p_Store_block_count : Addr} (X : K.In h) (G : h.Ns mainGlobals mg) (hfa : mg "law" = some (.ref fa))
    {od_Store___init an_Store___init od_Store_get an_Store_get od_Store_put an_Store_put od_Store_remove an_Store_remove od_Store_new_id an_Store_new_id od_Store_fork an_Store_fork od_Store_block_count an_Store_block_count od_Layout___init an_Layout___init od_parts_of an_parts_of od_law_row an_law_row od_law_is_integer an_law_is_integer od_law_payload an_law_payload od_law_least an_law_least od_law_copy an_law_copy od_law_agrees an_law_agrees od_law_deed an_law_deed od_law an_law : Option Addr} {sl_Store___init sl_Store_get sl_Store_put sl_Store_remove sl_Store_new_id sl_Store_fork sl_Store_block_count sl_Layout___init sl_parts_of sl_law_row sl_law_is_integer sl_law_payload sl_law_least sl_law_copy sl_law_agrees sl_law_deed sl_law : Array (Option Value)} {oc_Store___init kV_Store___init dc_Store___init pm_Store___init cd_Store___init ct_Store___init oc_Store_get kV_Store_get dc_Store_get pm_Store_get cd_Store_get ct_Store_get oc_Store_put kV_Store_put dc_Store_put pm_Store_put cd_Store_put ct_Store_put oc_Store_remove kV_Store_remove dc_Store_remove pm_Store_remove cd_Store_remove ct_Store_remove oc_Store_new_id kV_Store_new_id dc_Store_new_id pm_Store_new_id cd_Store_new_id ct_Store_new_id oc_Store_fork kV_Store_fork dc_Store_fork pm_Store_fork cd_Store_fork ct_Store_fork oc_Store_block_count kV_Store_block_count dc_Store_block_count pm_Store_block_count cd_Store_block_count ct_Store_block_count oc_Layout___init kV_Layout___init dc_Layout___init pm_Layout___init cd_Layout___init ct_Layout___init oc_parts_of kV_parts_of dc_parts_of pm_parts_of cd_parts_of ct_parts_of oc_law_row kV_law_row dc_law_row pm_law_row cd_law_row ct_law_row oc_law_is_integer kV_law_is_integer dc_law_is_integer pm_law_is_integer cd_law_is_integer ct_law_is_integer oc_law_payload kV_law_payload dc_law_payload pm_law_payload cd_law_payload ct_law_payload oc_law_least kV_law_least dc_law_least pm_law_least cd_law_least ct_law_least oc_law_copy kV_law_copy dc_law_copy pm_law_copy cd_law_copy ct_law_copy oc_law_agrees kV_law_agrees dc_law_agrees pm_law_agrees cd_law_agrees ct_law_agrees oc_law_deed kV_law_deed dc_law_deed pm_law_deed cd_law_deed ct_law_deed oc_law kV_law dc_law pm_law cd_law ct_law : Value}
    {pR_Store_block_count : List Value}
    {t_SUMMARY_HEAD yt_BLOCK_SIZES_0 yt_BLOCK_SIZES_1 yt_BLOCK_SIZES_2 : Tok}
    {yd_BLOCK_SIZES : Option Addr} {yn_BLOCK_SIZES : Nat} {ys_BLOCK_SIZES : Array (Option Value)}
    (mC_Store : PySem.W.nsIn K mainGlobals "Store" = some (some (.ref C_Store)))
    (pg_Store : PySem.W.plainGet K C_Store Str.empty = true)
    (hd_Store : PySem.W.hasDictIn K C_Store = true)
    (po_Store : PySem.W.plainOver K C_Store = true)
    (sa_Store : PySem.W.findIn K (.ref C_Store) "__setattr__" = some (some (.builtin "object.__setattr__")))
    (mk_Store : PySem.W.makesIn K C_Store = true)
    (kc_Store : PySem.W.keepIn K (.ref C_Store) = true)
    (na_Store_layout : PySem.W.findIn K (.ref C_Store) "layout" = some none)
    (na_Store_blocks : PySem.W.findIn K (.ref C_Store) "blocks" = some none)
    (na_Store__least_candidate : PySem.W.findIn K (.ref C_Store) "_least_candidate" = some none)
    (mC_Layout : PySem.W.nsIn K mainGlobals "Layout" = some (some (.ref C_Layout)))
    (pg_Layout : PySem.W.plainGet K C_Layout Str.empty = true)
    (hd_Layout : PySem.W.hasDictIn K C_Layout = true)
    (po_Layout : PySem.W.plainOver K C_Layout = true)
    (sa_Layout : PySem.W.findIn K (.ref C_Layout) "__setattr__" = some (some (.builtin "object.__setattr__")))
    (mk_Layout : PySem.W.makesIn K C_Layout = true)
    (kc_Layout : PySem.W.keepIn K (.ref C_Layout) = true)
    (na_Layout_segments : PySem.W.findIn K (.ref C_Layout) "segments" = some none)
    (na_Layout_segment_blocks : PySem.W.findIn K (.ref C_Layout) "segment_blocks" = some none)
    (na_Layout_block_size : PySem.W.findIn K (.ref C_Layout) "block_size" = some none)
    (na_Layout_payload : PySem.W.findIn K (.ref C_Layout) "payload" = some none)
    (na_Layout_limit : PySem.W.findIn K (.ref C_Layout) "limit" = some none)
    (na_Layout_last_id : PySem.W.findIn K (.ref C_Layout) "last_id" = some none)
    (na_Layout_fan : PySem.W.findIn K (.ref C_Layout) "fan" = some none)
    (na_Layout_region_blocks : PySem.W.findIn K (.ref C_Layout) "region_blocks" = some none)
    (na_Layout_device_blocks : PySem.W.findIn K (.ref C_Layout) "device_blocks" = some none)
    (a_Store___init : PySem.W.findIn K (.ref C_Store) "__init__" = some (some (.ref f_Store___init)))
    (i_Store___init : PySem.W.isFn K (.ref f_Store___init) = true)
    (l_Store___init : K.lookup f_Store___init = some ⟨oc_Store___init, od_Store___init, .func (PySem.W.fnOf "__init__" "Store.__init__" (defArgs s_Store___init) (defBody s_Store___init) (defScope s_Store___init) .none kV_Store___init dc_Store___init pm_Store___init an_Store___init cd_Store___init ct_Store___init), sl_Store___init⟩)
    (c_Store___init : PySem.W.codeIn K cd_Store___init "Store.__init__" = true)
    (k_Store___init : PySem.W.keepIn K (.ref f_Store___init) = true)
    (a_Store_get : PySem.W.findIn K (.ref C_Store) "get" = some (some (.ref f_Store_get)))
    (i_Store_get : PySem.W.isFn K (.ref f_Store_get) = true)
    (l_Store_get : K.lookup f_Store_get = some ⟨oc_Store_get, od_Store_get, .func (PySem.W.fnOf "get" "Store.get" (defArgs s_Store_get) (defBody s_Store_get) (defScope s_Store_get) .none kV_Store_get dc_Store_get pm_Store_get an_Store_get cd_Store_get ct_Store_get), sl_Store_get⟩)
    (c_Store_get : PySem.W.codeIn K cd_Store_get "Store.get" = true)
    (k_Store_get : PySem.W.keepIn K (.ref f_Store_get) = true)
    (a_Store_put : PySem.W.findIn K (.ref C_Store) "put" = some (some (.ref f_Store_put)))
    (i_Store_put : PySem.W.isFn K (.ref f_Store_put) = true)
    (l_Store_put : K.lookup f_Store_put = some ⟨oc_Store_put, od_Store_put, .func (PySem.W.fnOf "put" "Store.put" (defArgs s_Store_put) (defBody s_Store_put) (defScope s_Store_put) .none kV_Store_put dc_Store_put pm_Store_put an_Store_put cd_Store_put ct_Store_put), sl_Store_put⟩)
    (c_Store_put : PySem.W.codeIn K cd_Store_put "Store.put" = true)
    (k_Store_put : PySem.W.keepIn K (.ref f_Store_put) = true)
    (a_Store_remove : PySem.W.findIn K (.ref C_Store) "remove" = some (some (.ref f_Store_remove)))
    (i_Store_remove : PySem.W.isFn K (.ref f_Store_remove) = true)
    (l_Store_remove : K.lookup f_Store_remove = some ⟨oc_Store_remove, od_Store_remove, .func (PySem.W.fnOf "remove" "Store.remove" (defArgs s_Store_remove) (defBody s_Store_remove) (defScope s_Store_remove) .none kV_Store_remove dc_Store_remove pm_Store_remove an_Store_remove cd_Store_remove ct_Store_remove), sl_Store_remove⟩)
    (c_Store_remove : PySem.W.codeIn K cd_Store_remove "Store.remove" = true)
    (k_Store_remove : PySem.W.keepIn K (.ref f_Store_remove) = true)
    (a_Store_new_id : PySem.W.findIn K (.ref C_Store) "new_id" = some (some (.ref f_Store_new_id)))
    (i_Store_new_id : PySem.W.isFn K (.ref f_Store_new_id) = true)
    (l_Store_new_id : K.lookup f_Store_new_id = some ⟨oc_Store_new_id, od_Store_new_id, .func (PySem.W.fnOf "new_id" "Store.new_id" (defArgs s_Store_new_id) (defBody s_Store_new_id) (defScope s_Store_new_id) .none kV_Store_new_id dc_Store_new_id pm_Store_new_id an_Store_new_id cd_Store_new_id ct_Store_new_id), sl_Store_new_id⟩)
    (c_Store_new_id : PySem.W.codeIn K cd_Store_new_id "Store.new_id" = true)
    (k_Store_new_id : PySem.W.keepIn K (.ref f_Store_new_id) = true)
    (a_Store_fork : PySem.W.findIn K (.ref C_Store) "fork" = some (some (.ref f_Store_fork)))
    (i_Store_fork : PySem.W.isFn K (.ref f_Store_fork) = true)
    (l_Store_fork : K.lookup f_Store_fork = some ⟨oc_Store_fork, od_Store_fork, .func (PySem.W.fnOf "fork" "Store.fork" (defArgs s_Store_fork) (defBody s_Store_fork) (defScope s_Store_fork) .none kV_Store_fork dc_Store_fork pm_Store_fork an_Store_fork cd_Store_fork ct_Store_fork), sl_Store_fork⟩)
    (c_Store_fork : PySem.W.codeIn K cd_Store_fork "Store.fork" = true)
    (k_Store_fork : PySem.W.keepIn K (.ref f_Store_fork) = true)
    (a_Store_block_count : PySem.W.findIn K (.ref C_Store) "block_count" = some (some (.ref p_Store_block_count)))
    (pg_Store_block_count : PySem.W.specialIn K (.ref p_Store_block_count) "__get__" = some (some (.builtin "property.__get__")))
    (pt_Store_block_count : PySem.W.takesIn K (.ref p_Store_block_count) = some true)
    (pc_Store_block_count : PySem.W.recIn K p_Store_block_count "property" = some (.ref f_Store_block_count :: pR_Store_block_count))
    (l_Store_block_count : K.lookup f_Store_block_count = some ⟨oc_Store_block_count, od_Store_block_count, .func (PySem.W.fnOf "block_count" "Store.block_count" (defArgs s_Store_block_count) (defBody s_Store_block_count) (defScope s_Store_block_count) .none kV_Store_block_count dc_Store_block_count pm_Store_block_count an_Store_block_count cd_Store_block_count ct_Store_block_count), sl_Store_block_count⟩)
    (c_Store_block_count : PySem.W.codeIn K cd_Store_block_count "Store.block_count" = true)
    (k_Store_block_count : PySem.W.keepIn K (.ref f_Store_block_count) = true)
    (a_Layout___init : PySem.W.findIn K (.ref C_Layout) "__init__" = some (some (.ref f_Layout___init)))
    (i_Layout___init : PySem.W.isFn K (.ref f_Layout___init) = true)
    (l_Layout___init : K.lookup f_Layout___init = some ⟨oc_Layout___init, od_Layout___init, .func (PySem.W.fnOf "__init__" "Layout.__init__" (defArgs s_Layout___init) (defBody s_Layout___init) (defScope s_Layout___init) .none kV_Layout___init dc_Layout___init pm_Layout___init an_Layout___init cd_Layout___init ct_Layout___init), sl_Layout___init⟩)
    (c_Layout___init : PySem.W.codeIn K cd_Layout___init "Layout.__init__" = true)
    (k_Layout___init : PySem.W.keepIn K (.ref f_Layout___init) = true)
    (a_parts_of : PySem.W.nsIn K mainGlobals "parts_of" = some (some (.ref f_parts_of)))
    (l_parts_of : K.lookup f_parts_of = some ⟨oc_parts_of, od_parts_of, .func (PySem.W.fnOf "parts_of" "parts_of" (defArgs s_parts_of) (defBody s_parts_of) (defScope s_parts_of) .none kV_parts_of dc_parts_of pm_parts_of an_parts_of cd_parts_of ct_parts_of), sl_parts_of⟩)
    (c_parts_of : PySem.W.codeIn K cd_parts_of "parts_of" = true)
    (k_parts_of : PySem.W.keepIn K (.ref f_parts_of) = true)
    (a_law_row : PySem.W.nsIn K mainGlobals "_law_row" = some (some (.ref f_law_row)))
    (l_law_row : K.lookup f_law_row = some ⟨oc_law_row, od_law_row, .func (PySem.W.fnOf "_law_row" "_law_row" (defArgs s_law_row) (defBody s_law_row) (defScope s_law_row) .none kV_law_row dc_law_row pm_law_row an_law_row cd_law_row ct_law_row), sl_law_row⟩)
    (c_law_row : PySem.W.codeIn K cd_law_row "_law_row" = true)
    (k_law_row : PySem.W.keepIn K (.ref f_law_row) = true)
    (a_law_is_integer : PySem.W.nsIn K mainGlobals "_law_is_integer" = some (some (.ref f_law_is_integer)))
    (l_law_is_integer : K.lookup f_law_is_integer = some ⟨oc_law_is_integer, od_law_is_integer, .func (PySem.W.fnOf "_law_is_integer" "_law_is_integer" (defArgs s_law_is_integer) (defBody s_law_is_integer) (defScope s_law_is_integer) .none kV_law_is_integer dc_law_is_integer pm_law_is_integer an_law_is_integer cd_law_is_integer ct_law_is_integer), sl_law_is_integer⟩)
    (c_law_is_integer : PySem.W.codeIn K cd_law_is_integer "_law_is_integer" = true)
    (k_law_is_integer : PySem.W.keepIn K (.ref f_law_is_integer) = true)
    (a_law_payload : PySem.W.nsIn K mainGlobals "_law_payload" = some (some (.ref f_law_payload)))
    (l_law_payload : K.lookup f_law_payload = some ⟨oc_law_payload, od_law_payload, .func (PySem.W.fnOf "_law_payload" "_law_payload" (defArgs s_law_payload) (defBody s_law_payload) (defScope s_law_payload) .none kV_law_payload dc_law_payload pm_law_payload an_law_payload cd_law_payload ct_law_payload), sl_law_payload⟩)
    (c_law_payload : PySem.W.codeIn K cd_law_payload "_law_payload" = true)
    (k_law_payload : PySem.W.keepIn K (.ref f_law_payload) = true)
    (a_law_least : PySem.W.nsIn K mainGlobals "_law_least" = some (some (.ref f_law_least)))
    (l_law_least : K.lookup f_law_least = some ⟨oc_law_least, od_law_least, .func (PySem.W.fnOf "_law_least" "_law_least" (defArgs s_law_least) (defBody s_law_least) (defScope s_law_least) .none kV_law_least dc_law_least pm_law_least an_law_least cd_law_least ct_law_least), sl_law_least⟩)
    (c_law_least : PySem.W.codeIn K cd_law_least "_law_least" = true)
    (k_law_least : PySem.W.keepIn K (.ref f_law_least) = true)
    (a_law_copy : PySem.W.nsIn K mainGlobals "_law_copy" = some (some (.ref f_law_copy)))
    (l_law_copy : K.lookup f_law_copy = some ⟨oc_law_copy, od_law_copy, .func (PySem.W.fnOf "_law_copy" "_law_copy" (defArgs s_law_copy) (defBody s_law_copy) (defScope s_law_copy) .none kV_law_copy dc_law_copy pm_law_copy an_law_copy cd_law_copy ct_law_copy), sl_law_copy⟩)
    (c_law_copy : PySem.W.codeIn K cd_law_copy "_law_copy" = true)
    (k_law_copy : PySem.W.keepIn K (.ref f_law_copy) = true)
    (a_law_agrees : PySem.W.nsIn K mainGlobals "_law_agrees" = some (some (.ref f_law_agrees)))
    (l_law_agrees : K.lookup f_law_agrees = some ⟨oc_law_agrees, od_law_agrees, .func (PySem.W.fnOf "_law_agrees" "_law_agrees" (defArgs s_law_agrees) (defBody s_law_agrees) (defScope s_law_agrees) .none kV_law_agrees dc_law_agrees pm_law_agrees an_law_agrees cd_law_agrees ct_law_agrees), sl_law_agrees⟩)
    (c_law_agrees : PySem.W.codeIn K cd_law_agrees "_law_agrees" = true)
    (k_law_agrees : PySem.W.keepIn K (.ref f_law_agrees) = true)
    (a_law_deed : PySem.W.nsIn K mainGlobals "_law_deed" = some (some (.ref f_law_deed)))
    (l_law_deed : K.lookup f_law_deed = some ⟨oc_law_deed, od_law_deed, .func (PySem.W.fnOf "_law_deed" "_law_deed" (defArgs s_law_deed) (defBody s_law_deed) (defScope s_law_deed) .none kV_law_deed dc_law_deed pm_law_deed an_law_deed cd_law_deed ct_law_deed), sl_law_deed⟩)
    (c_law_deed : PySem.W.codeIn K cd_law_deed "_law_deed" = true)
    (k_law_deed : PySem.W.keepIn K (.ref f_law_deed) = true)
    (a_law : PySem.W.nsIn K mainGlobals "law" = some (some (.ref f_law)))
    (l_law : K.lookup f_law = some ⟨oc_law, od_law, .func (PySem.W.fnOf "law" "law" (defArgs s_law) (defBody s_law) (defScope s_law) .none kV_law dc_law pm_law an_law cd_law ct_law), sl_law⟩)
    (c_law : PySem.W.codeIn K cd_law "law" = true)
    (k_law : PySem.W.keepIn K (.ref f_law) = true)
    (q_BLOCK_SIZES : PySem.W.nsIn K mainGlobals "BLOCK_SIZES" = some (some (.ref k_BLOCK_SIZES)))
    (y_BLOCK_SIZES : K.lookup k_BLOCK_SIZES = some ⟨.type "tuple", yd_BLOCK_SIZES, .seq #[.int 64 yt_BLOCK_SIZES_0, .int 128 yt_BLOCK_SIZES_1, .int 256 yt_BLOCK_SIZES_2] yn_BLOCK_SIZES, ys_BLOCK_SIZES⟩)
    (q_SUMMARY_HEAD : PySem.W.nsIn K mainGlobals "SUMMARY_HEAD" = some (some (.int 16 t_SUMMARY_HEAD)))
    (n_bool : PySem.W.nsIn K mainGlobals "bool" = some none)
    (n_dict : PySem.W.nsIn K mainGlobals "dict" = some none)
    (n_int : PySem.W.nsIn K mainGlobals "int" = some none)
    (n_isinstance : PySem.W.nsIn K mainGlobals "isinstance" = some none)
    (n_len : PySem.W.nsIn K mainGlobals "len" = some none)
    (n_min : PySem.W.nsIn K mainGlobals "min" = some none)
    (n_range : PySem.W.nsIn K mainGlobals "range" = some none)
    (n_sorted : PySem.W.nsIn K mainGlobals "sorted" = some none)
    : ∃ fd : FuncData, (∀ (s : Shared) (v : Value), BindsTo s fd ⟨[v], []⟩ [("script", v)]) ∧ ∀ base : Heap, K.In base → base.Ns mainGlobals mg → FnOk l.prog w K mg base CX0 4 fa fd ["script"] (spLawK K) := by
  have e := hfa.symm.trans (PySem.W.mg_of X G a_law)
  cases e
  have F_Store___init := fun_mk (st := s_Store___init) l_Store___init c_Store___init k_Store___init
  have b_Store___init := F_Store___init.binds (ps := ["self", "layout", "blocks"]) fun _ _ _ _ _ _ us hl => match us, hl with | [_, _, _], _ => rfl
  have F_Store_get := fun_mk (st := s_Store_get) l_Store_get c_Store_get k_Store_get
  have b_Store_get := F_Store_get.binds (ps := ["self", "ident"]) fun _ _ _ _ _ _ us hl => match us, hl with | [_, _], _ => rfl
  have F_Store_put := fun_mk (st := s_Store_put) l_Store_put c_Store_put k_Store_put
  have b_Store_put := F_Store_put.binds (ps := ["self", "ident", "payload"]) fun _ _ _ _ _ _ us hl => match us, hl with | [_, _, _], _ => rfl
  have F_Store_remove := fun_mk (st := s_Store_remove) l_Store_remove c_Store_remove k_Store_remove
  have b_Store_remove := F_Store_remove.binds (ps := ["self", "ident"]) fun _ _ _ _ _ _ us hl => match us, hl with | [_, _], _ => rfl
  have F_Store_new_id := fun_mk (st := s_Store_new_id) l_Store_new_id c_Store_new_id k_Store_new_id
  have b_Store_new_id := F_Store_new_id.binds (ps := ["self"]) fun _ _ _ _ _ _ us hl => match us, hl with | [_], _ => rfl
  have F_Store_fork := fun_mk (st := s_Store_fork) l_Store_fork c_Store_fork k_Store_fork
  have b_Store_fork := F_Store_fork.binds (ps := ["self"]) fun _ _ _ _ _ _ us hl => match us, hl with | [_], _ => rfl
  have F_Store_block_count := fun_mk (st := s_Store_block_count) l_Store_block_count c_Store_block_count k_Store_block_count
  have b_Store_block_count := F_Store_block_count.binds (ps := ["self"]) fun _ _ _ _ _ _ us hl => match us, hl with | [_], _ => rfl
  have F_Layout___init := fun_mk (st := s_Layout___init) l_Layout___init c_Layout___init k_Layout___init
  have b_Layout___init := F_Layout___init.binds (ps := ["self", "segments", "segment_blocks", "block_size"]) fun _ _ _ _ _ _ us hl => match us, hl with | [_, _, _, _], _ => rfl
  have F_parts_of := fun_mk (st := s_parts_of) l_parts_of c_parts_of k_parts_of
  have b_parts_of := F_parts_of.binds (ps := ["number", "size"]) fun _ _ _ _ _ _ us hl => match us, hl with | [_, _], _ => rfl
  have F_law_row := fun_mk (st := s_law_row) l_law_row c_law_row k_law_row
  have b_law_row := F_law_row.binds (ps := ["script", "k"]) fun _ _ _ _ _ _ us hl => match us, hl with | [_, _], _ => rfl
  have F_law_is_integer := fun_mk (st := s_law_is_integer) l_law_is_integer c_law_is_integer k_law_is_integer
  have b_law_is_integer := F_law_is_integer.binds (ps := ["actual"]) fun _ _ _ _ _ _ us hl => match us, hl with | [_], _ => rfl
  have F_law_payload := fun_mk (st := s_law_payload) l_law_payload c_law_payload k_law_payload
  have b_law_payload := F_law_payload.binds (ps := ["number"]) fun _ _ _ _ _ _ us hl => match us, hl with | [_], _ => rfl
  have F_law_least := fun_mk (st := s_law_least) l_law_least c_law_least k_law_least
  have b_law_least := F_law_least.binds (ps := ["model"]) fun _ _ _ _ _ _ us hl => match us, hl with | [_], _ => rfl
  have F_law_copy := fun_mk (st := s_law_copy) l_law_copy c_law_copy k_law_copy
  have b_law_copy := F_law_copy.binds (ps := ["model"]) fun _ _ _ _ _ _ us hl => match us, hl with | [_], _ => rfl
  have F_law_agrees := fun_mk (st := s_law_agrees) l_law_agrees c_law_agrees k_law_agrees
  have b_law_agrees := F_law_agrees.binds (ps := ["store", "model", "other"]) fun _ _ _ _ _ _ us hl => match us, hl with | [_, _, _], _ => rfl
  have F_law_deed := fun_mk (st := s_law_deed) l_law_deed c_law_deed k_law_deed
  have b_law_deed := F_law_deed.binds (ps := ["store", "model", "number"]) fun _ _ _ _ _ _ us hl => match us, hl with | [_, _, _], _ => rfl
  have F_law := fun_mk (st := s_law) l_law c_law k_law
  have b_law := F_law.binds (ps := ["script"]) fun _ _ _ _ _ _ us hl => match us, hl with | [_], _ => rfl
  let T : Txt K mg := {
    a_Store___init := f_Store___init,
    fd_Store___init := _,
    F_Store___init := F_Store___init,
    b_Store___init := b_Store___init,
    a_Store_get := f_Store_get,
    fd_Store_get := _,
    F_Store_get := F_Store_get,
    b_Store_get := b_Store_get,
    me_Store_get := ⟨a_Store_get, i_Store_get, k_Store_get⟩,
    a_Store_put := f_Store_put,
    fd_Store_put := _,
    F_Store_put := F_Store_put,
    b_Store_put := b_Store_put,
    me_Store_put := ⟨a_Store_put, i_Store_put, k_Store_put⟩,
    a_Store_remove := f_Store_remove,
    fd_Store_remove := _,
    F_Store_remove := F_Store_remove,
    b_Store_remove := b_Store_remove,
    me_Store_remove := ⟨a_Store_remove, i_Store_remove, k_Store_remove⟩,
    a_Store_new_id := f_Store_new_id,
    fd_Store_new_id := _,
    F_Store_new_id := F_Store_new_id,
    b_Store_new_id := b_Store_new_id,
    me_Store_new_id := ⟨a_Store_new_id, i_Store_new_id, k_Store_new_id⟩,
    a_Store_fork := f_Store_fork,
    fd_Store_fork := _,
    F_Store_fork := F_Store_fork,
    b_Store_fork := b_Store_fork,
    me_Store_fork := ⟨a_Store_fork, i_Store_fork, k_Store_fork⟩,
    a_Store_block_count := f_Store_block_count,
    fd_Store_block_count := _,
    F_Store_block_count := F_Store_block_count,
    b_Store_block_count := b_Store_block_count,
    p_Store_block_count := p_Store_block_count,
    pr_Store_block_count := ⟨a_Store_block_count, pg_Store_block_count, pt_Store_block_count, ⟨_, pc_Store_block_count⟩⟩,
    a_Layout___init := f_Layout___init,
    fd_Layout___init := _,
    F_Layout___init := F_Layout___init,
    b_Layout___init := b_Layout___init,
    a_parts_of := f_parts_of,
    fd_parts_of := _,
    F_parts_of := F_parts_of,
    b_parts_of := b_parts_of,
    m_parts_of := PySem.W.mg_of X G a_parts_of,
    a_law_row := f_law_row,
    fd_law_row := _,
    F_law_row := F_law_row,
    b_law_row := b_law_row,
    m_law_row := PySem.W.mg_of X G a_law_row,
    a_law_is_integer := f_law_is_integer,
    fd_law_is_integer := _,
    F_law_is_integer := F_law_is_integer,
    b_law_is_integer := b_law_is_integer,
    m_law_is_integer := PySem.W.mg_of X G a_law_is_integer,
    a_law_payload := f_law_payload,
    fd_law_payload := _,
    F_law_payload := F_law_payload,
    b_law_payload := b_law_payload,
    m_law_payload := PySem.W.mg_of X G a_law_payload,
    a_law_least := f_law_least,
    fd_law_least := _,
    F_law_least := F_law_least,
    b_law_least := b_law_least,
    m_law_least := PySem.W.mg_of X G a_law_least,
    a_law_copy := f_law_copy,
    fd_law_copy := _,
    F_law_copy := F_law_copy,
    b_law_copy := b_law_copy,
    m_law_copy := PySem.W.mg_of X G a_law_copy,
    a_law_agrees := f_law_agrees,
    fd_law_agrees := _,
    F_law_agrees := F_law_agrees,
    b_law_agrees := b_law_agrees,
    m_law_agrees := PySem.W.mg_of X G a_law_agrees,
    a_law_deed := f_law_deed,
    fd_law_deed := _,
    F_law_deed := F_law_deed,
    b_law_deed := b_law_deed,
    m_law_deed := PySem.W.mg_of X G a_law_deed,
    a_law := fa,
    fd_law := _,
    F_law := F_law,
    b_law := b_law,
    m_law := PySem.W.mg_of X G a_law,
    A_Store := C_Store,
    m_Store := PySem.W.mg_of X G mC_Store,
    cl_Store := ⟨pg_Store, hd_Store, po_Store, sa_Store⟩,
    M_Store := ⟨mk_Store, a_Store___init, i_Store___init, kc_Store⟩,
    na_Store_layout := na_Store_layout,
    na_Store_blocks := na_Store_blocks,
    na_Store__least_candidate := na_Store__least_candidate,
    A_Layout := C_Layout,
    m_Layout := PySem.W.mg_of X G mC_Layout,
    cl_Layout := ⟨pg_Layout, hd_Layout, po_Layout, sa_Layout⟩,
    M_Layout := ⟨mk_Layout, a_Layout___init, i_Layout___init, kc_Layout⟩,
    na_Layout_segments := na_Layout_segments,
    na_Layout_segment_blocks := na_Layout_segment_blocks,
    na_Layout_block_size := na_Layout_block_size,
    na_Layout_payload := na_Layout_payload,
    na_Layout_limit := na_Layout_limit,
    na_Layout_last_id := na_Layout_last_id,
    na_Layout_fan := na_Layout_fan,
    na_Layout_region_blocks := na_Layout_region_blocks,
    na_Layout_device_blocks := na_Layout_device_blocks,
    a_BLOCK_SIZES := k_BLOCK_SIZES,
    c_BLOCK_SIZES := PySem.W.mg_of X G q_BLOCK_SIZES,
    r_BLOCK_SIZES := rfl,
    v_BLOCK_SIZES := fun _ => .inr ⟨_, _, _, y_BLOCK_SIZES, rfl, rfl, Nat.le_of_ble_eq_true rfl, (.cons ⟨_, rfl⟩ (.cons ⟨_, rfl⟩ (.cons ⟨_, rfl⟩ .nil)))⟩,
    t_SUMMARY_HEAD := t_SUMMARY_HEAD,
    c_SUMMARY_HEAD := PySem.W.mg_of X G q_SUMMARY_HEAD,
    r_SUMMARY_HEAD := ⟨_, rfl⟩,
    n_bool := PySem.W.mg_none_of X G n_bool,
    n_dict := PySem.W.mg_none_of X G n_dict,
    n_int := PySem.W.mg_none_of X G n_int,
    n_isinstance := PySem.W.mg_none_of X G n_isinstance,
    n_len := PySem.W.mg_none_of X G n_len,
    n_min := PySem.W.mg_none_of X G n_min,
    n_range := PySem.W.mg_none_of X G n_range,
    n_sorted := PySem.W.mg_none_of X G n_sorted }
  exact ⟨_, fun s v => .of_eq rfl, fun base _ _ => ok_law T⟩
theorem walk {l : PySem.W.OpenLaw} {q : Program} {loose : List Str} {XP : (Str → Option Value) → Heap → Prop} {YP : World → Heap → Prop} {d : DefRec} {K : Params → PySem.W.Frag} (hn : l.most = some 63) (hdf : d.params.defaults = [])
    (hY : ∀ (w : World) (h : Heap), YP w h → (K w.params).In h)
    (F : ∀ (w : World) (mg : Str → Option Value) (fa : Addr) (h : Heap), (K w.params).In h → h.Ns mainGlobals mg → mg d.name = some (.ref fa) →
      ∃ fd : FuncData, (∀ (s : Shared) (u : Value), BindsTo s fd ⟨[u], []⟩ [("script", u)]) ∧ ∀ base : Heap, (K w.params).In base → base.Ns mainGlobals mg → FnOk l.prog w (K w.params) mg base CX0 4 fa fd ["script"] (spLawK (K w.params))) :
    PySem.W.WalkO q loose XP YP l.row.toRowW d [] (fun f vs => PySem.call f vs) :=
  L2.walk_of (n := 63) (k := 4) (x := "script") (CX := fun _ => CX0) (sp := fun w => spLawK (K w.params)) hn (by decide) hdf ⟨rfl, by decide, by decide⟩ hY F (fun _ _ a ns hl hO hS => ⟨a, ns, rfl, scr_of hO hS, hl, fun _ => rfl⟩) fun _ _ _ _ _ z => z
end Sg

open PySem PySem.W PyProof.Rows in
set_option maxRecDepth 100000 in
set_option maxHeartbeats 0 in
theorem PySem.Challenge.cw_segmentfs_k33_store_by_a_plain_dict_holds : PySem.Challenge.rw_segmentfs_k33_store_by_a_plain_dict.Holds := by
  w_on; o_law; k_head; (case hw => w_witness2)
  k_fill
  refine Sg.walk (l := PySem.Challenge.rw_segmentfs_k33_store_by_a_plain_dict) rfl rfl (fun w h Y => PySem.W.kIn_of Y) ?F
  case F =>
    intro w mg fa h KX G hmg
    refine' Sg.all_mk KX G hmg ?mC_Store ?pg_Store ?hd_Store ?po_Store ?sa_Store ?mk_Store ?kc_Store ?na_Store_layout ?na_Store_blocks ?na_Store__least_candidate ?mC_Layout ?pg_Layout ?hd_Layout ?po_Layout ?sa_Layout ?mk_Layout ?kc_Layout ?na_Layout_segments ?na_Layout_segment_blocks ?na_Layout_block_size ?na_Layout_payload ?na_Layout_limit ?na_Layout_last_id ?na_Layout_fan ?na_Layout_region_blocks ?na_Layout_device_blocks ?a_Store___init ?i_Store___init ?l_Store___init ?c_Store___init ?k_Store___init ?a_Store_get ?i_Store_get ?l_Store_get ?c_Store_get ?k_Store_get ?a_Store_put ?i_Store_put ?l_Store_put ?c_Store_put ?k_Store_put ?a_Store_remove ?i_Store_remove ?l_Store_remove ?c_Store_remove ?k_Store_remove ?a_Store_new_id ?i_Store_new_id ?l_Store_new_id ?c_Store_new_id ?k_Store_new_id ?a_Store_fork ?i_Store_fork ?l_Store_fork ?c_Store_fork ?k_Store_fork ?a_Store_block_count ?pg_Store_block_count ?pt_Store_block_count ?pc_Store_block_count ?l_Store_block_count ?c_Store_block_count ?k_Store_block_count ?a_Layout___init ?i_Layout___init ?l_Layout___init ?c_Layout___init ?k_Layout___init ?a_parts_of ?l_parts_of ?c_parts_of ?k_parts_of ?a_law_row ?l_law_row ?c_law_row ?k_law_row ?a_law_is_integer ?l_law_is_integer ?c_law_is_integer ?k_law_is_integer ?a_law_payload ?l_law_payload ?c_law_payload ?k_law_payload ?a_law_least ?l_law_least ?c_law_least ?k_law_least ?a_law_copy ?l_law_copy ?c_law_copy ?k_law_copy ?a_law_agrees ?l_law_agrees ?c_law_agrees ?k_law_agrees ?a_law_deed ?l_law_deed ?c_law_deed ?k_law_deed ?a_law ?l_law ?c_law ?k_law ?q_BLOCK_SIZES ?y_BLOCK_SIZES ?q_SUMMARY_HEAD ?n_bool ?n_dict ?n_int ?n_isinstance ?n_len ?n_min ?n_range ?n_sorted
    (case mC_Store => k_is)
    (case pg_Store => k_is)
    (case hd_Store => k_is)
    (case po_Store => k_is)
    (case sa_Store => k_is)
    (case mk_Store => k_is)
    (case kc_Store => k_is)
    (case na_Store_layout => k_is)
    (case na_Store_blocks => k_is)
    (case na_Store__least_candidate => k_is)
    (case mC_Layout => k_is)
    (case pg_Layout => k_is)
    (case hd_Layout => k_is)
    (case po_Layout => k_is)
    (case sa_Layout => k_is)
    (case mk_Layout => k_is)
    (case kc_Layout => k_is)
    (case na_Layout_segments => k_is)
    (case na_Layout_segment_blocks => k_is)
    (case na_Layout_block_size => k_is)
    (case na_Layout_payload => k_is)
    (case na_Layout_limit => k_is)
    (case na_Layout_last_id => k_is)
    (case na_Layout_fan => k_is)
    (case na_Layout_region_blocks => k_is)
    (case na_Layout_device_blocks => k_is)
    (case a_Store___init => k_is)
    (case i_Store___init => k_is)
    (case l_Store___init => k_is)
    (case c_Store___init => k_is)
    (case k_Store___init => k_is)
    (case a_Store_get => k_is)
    (case i_Store_get => k_is)
    (case l_Store_get => k_is)
    (case c_Store_get => k_is)
    (case k_Store_get => k_is)
    (case a_Store_put => k_is)
    (case i_Store_put => k_is)
    (case l_Store_put => k_is)
    (case c_Store_put => k_is)
    (case k_Store_put => k_is)
    (case a_Store_remove => k_is)
    (case i_Store_remove => k_is)
    (case l_Store_remove => k_is)
    (case c_Store_remove => k_is)
    (case k_Store_remove => k_is)
    (case a_Store_new_id => k_is)
    (case i_Store_new_id => k_is)
    (case l_Store_new_id => k_is)
    (case c_Store_new_id => k_is)
    (case k_Store_new_id => k_is)
    (case a_Store_fork => k_is)
    (case i_Store_fork => k_is)
    (case l_Store_fork => k_is)
    (case c_Store_fork => k_is)
    (case k_Store_fork => k_is)
    (case a_Store_block_count => k_is)
    (case pg_Store_block_count => k_is)
    (case pt_Store_block_count => k_is)
    (case pc_Store_block_count => k_is)
    (case l_Store_block_count => k_is)
    (case c_Store_block_count => k_is)
    (case k_Store_block_count => k_is)
    (case a_Layout___init => k_is)
    (case i_Layout___init => k_is)
    (case l_Layout___init => k_is)
    (case c_Layout___init => k_is)
    (case k_Layout___init => k_is)
    (case a_parts_of => k_is)
    (case l_parts_of => k_is)
    (case c_parts_of => k_is)
    (case k_parts_of => k_is)
    (case a_law_row => k_is)
    (case l_law_row => k_is)
    (case c_law_row => k_is)
    (case k_law_row => k_is)
    (case a_law_is_integer => k_is)
    (case l_law_is_integer => k_is)
    (case c_law_is_integer => k_is)
    (case k_law_is_integer => k_is)
    (case a_law_payload => k_is)
    (case l_law_payload => k_is)
    (case c_law_payload => k_is)
    (case k_law_payload => k_is)
    (case a_law_least => k_is)
    (case l_law_least => k_is)
    (case c_law_least => k_is)
    (case k_law_least => k_is)
    (case a_law_copy => k_is)
    (case l_law_copy => k_is)
    (case c_law_copy => k_is)
    (case k_law_copy => k_is)
    (case a_law_agrees => k_is)
    (case l_law_agrees => k_is)
    (case c_law_agrees => k_is)
    (case k_law_agrees => k_is)
    (case a_law_deed => k_is)
    (case l_law_deed => k_is)
    (case c_law_deed => k_is)
    (case k_law_deed => k_is)
    (case a_law => k_is)
    (case l_law => k_is)
    (case c_law => k_is)
    (case k_law => k_is)
    (case q_BLOCK_SIZES => k_is)
    (case y_BLOCK_SIZES => k_is)
    (case q_SUMMARY_HEAD => k_is)
    (case n_bool => k_is)
    (case n_dict => k_is)
    (case n_int => k_is)
    (case n_isinstance => k_is)
    (case n_len => k_is)
    (case n_min => k_is)
    (case n_range => k_is)
    (case n_sorted => k_is)

