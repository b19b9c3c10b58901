import PyProof.Rows.All
import Wide.All
import OpenK.AllK
import Wide.FinOn
import HandS.ForMost
import HandS.IsInst
import HandS.Style
import HandS.Wide
import HandS.Codes
import HandS.NoneIn
import HandS.Defaults
import HandS.TupMul
import HandS.Zip
import HandS.SetFor
import HandS.SetKeys
import HandS.Walk
import KE.GoesEnum
import PyProof.ConsumeWalk
import PySem.Challenge.RW_segmentfs_k09_numbers_of_a_checkpoint_ar
set_option Elab.async false
set_option maxRecDepth 100000
set_option maxHeartbeats 4000000
/-! what every text of mine begins with: heaps that grow, and a rule for each head that a reading has -/
namespace Sg
open PySem L2
theorem sz : sizeLine = 16777216 := by decide
theorem Same.of_new {H H' : Hp} {p : Addr} {o : HO} (e : upd H p o = H') (h : H p = none) : Same H H' := fun b u q => by
  rw [← e, upd_ne (ne_of_none q h)]; exact q
theorem at_new {H H' : Hp} {p : Addr} {o : HO} (e : upd H p o = H') : H' p = some o := by rw [← e]; exact upd_same
theorem Same.tup {K : PySem.W.Frag} {H H' : Hp} {a : Addr} {xs : List V} (e : Same H H') (h : SqT K H a xs) : SqT K H' a xs := by
  rcases h with (h | ⟨o, h⟩) | h
  · exact .inl (.inl (e _ _ h))
  · exact .inl (.inr ⟨o, e _ _ h⟩)
  · exact .inr h
/-- an object that is younger than H0 is changed -/
theorem Same.old {H0 H H' : Hp} {p : Addr} {o : HO} (s : Same H0 H) (h : H0 p = none) (e : upd H p o = H') : Same H0 H' := fun b u q => by
  rw [← e, upd_ne (ne_of_none q h)]; exact s _ _ q
theorem at_keep {H H' : Hp} {l a : Addr} {o o' ol : HO} (e : upd H l o' = H') (h : H a = some o) (h' : H l = some ol) (d : o ≠ ol) : H' a = some o := by
  rw [← e, upd_ne (ne_of h h' d)]; exact h
theorem lk_eq {f : Str} {v : V} {fs : List (Str × V)} : (putF f v fs).lookup f = some v := by rw [lookup_putF, if_pos rfl]
theorem lk_ne {f g : Str} {v x : V} {fs : List (Str × V)} (h : ¬ g = f) (q : fs.lookup g = some v) : (putF f x fs).lookup g = some v := by rw [lookup_putF, if_neg h]; exact q
theorem lk_no {f g : Str} {x : V} {fs : List (Str × V)} (h : ¬ g = f) (q : fs.lookup g = none) : (putF f x fs).lookup g = none := by rw [lookup_putF, if_neg h]; exact q
theorem putF_len {f : Str} {v : V} : ∀ {fs : List (Str × V)} {n : Nat}, fs.length ≤ n → (putF f v fs).length ≤ n + 1
  | [], n, _ => by simp [putF]
  | (g, x) :: r, n, h => by
    unfold putF
    split
    · simp at h ⊢; omega
    · cases n with
      | zero => simp at h
      | succ n =>
        simp at h ⊢
        exact putF_len h
theorem to_ite {A B : Prop} {b : Bool} (h1 : b = true → A) (h2 : b = false → B) : if b = true then A else B := by
  cases b with
  | true => exact iteT (h1 rfl)
  | false => exact iteF (h2 rfl)
theorem iteT' {A B : Prop} (h : A) : if (true : Bool) = true then A else B := iteT h
theorem iteF' {A B : Prop} (h : B) : if (false : Bool) = true then A else B := iteF h
theorem r_iteb {A B : Prop} {b : Bool} (hb : b = true) (h : A) : if b = true then A else B := to_ite (fun _ => h) fun z => by rw [hb] at z; cases z
theorem r_iteB {A B : Prop} {b : Bool} (hb : b = false) (h : B) : if b = true then A else B := to_ite (fun z => by rw [hb] at z; cases z) fun _ => h
theorem r_ite {A B c : Prop} [Decidable c] (h1 : c → A) (h2 : ¬ c → B) : if decide c = true then A else B :=
  to_ite (fun h => h1 (of_decide_eq_true h)) (fun h => h2 (of_decide_eq_false h))
theorem r_iteN {A B c : Prop} [Decidable c] (h1 : ¬ c → A) (h2 : c → B) : if (!decide c) = true then A else B :=
  to_ite (fun h => h1 (by simpa using h)) (fun h => h2 (by simpa using h))
theorem r_iteD {A B c : Prop} [Decidable c] (hc : c) (h : A) : if decide c = true then A else B := r_ite (fun _ => h) fun z => absurd hc z
theorem r_iteDn {A B c : Prop} [Decidable c] (hc : ¬ c) (h : B) : if decide c = true then A else B := r_ite (fun z => absurd z hc) fun _ => h
theorem r_iteND {A B c : Prop} [Decidable c] (hc : ¬ c) (h : A) : if (!decide c) = true then A else B := r_iteN (fun _ => h) fun z => absurd z hc
theorem r_iteNDn {A B c : Prop} [Decidable c] (hc : c) (h : B) : if (!decide c) = true then A else B := r_iteN (fun z => absurd hc z) fun _ => h
/-- the continuations of a reading, by name -/
def kTest (QB : Bool → Hp → Prop) : V → Hp → Prop := fun x H => ∃ k, x = .bl k ∧ QB k H
def kFld (K : PySem.W.Frag) (f : Str) (Q : V → Hp → Prop) : V → Hp → Prop := fun x H => ∃ a C dx fs v, x = .ref a ∧ H a = some (.ins C dx fs) ∧ Cls K C ∧ NoAttr K C f ∧ fs.lookup f = some v ∧ Q v H
def kSfld (K : PySem.W.Frag) (D : Ends) (σ : L2.St) (f : Str) (y : V) : V → Hp → Prop := fun x H => ∃ a C dx fs, x = .ref a ∧ H a = some (.ins C dx fs) ∧ Cls K C ∧ NoAttr K C f ∧ fs.length < 1000 ∧
  D.nx σ (upd H a (.ins C dx (putF f y fs)))
def kMeth (C : Addr) (m : Str) (sp : Sp) (dvs : List V) (E : XK) (σ : L2.St) (t : TA) (Q : V → Hp → Prop) : V → Hp → Prop := fun x H => ∃ a dx fs, x = .ref a ∧ H a = some (.ins C dx fs) ∧ fs.lookup m = none ∧ t σ H fun vs H2 => sp (x :: (vs ++ dvs)) H2 Q E
def kTup (Q : V → Hp → Prop) : List V → Hp → Prop := fun xs H => xs.length ≤ sizeLine ∧ ∀ p, H p = none → Q (.ref p) (upd H p (.tup xs))
def kLst (Q : V → Hp → Prop) : List V → Hp → Prop := fun xs H => xs.length ≤ sizeLine ∧ ∀ p, H p = none → Q (.ref p) (upd H p (.lst xs))
def rLen (K : PySem.W.Frag) : List V → Hp → (V → Hp → Prop) → Prop := fun xs H Q => ∃ p ys, xs = [.ref p] ∧ (SqL K H p ys ∨ SqT K H p ys) ∧ Q (.int ys.length) H
theorem c_len {X : Cx} : CallR X (.builtin "len") (rLen X.K) := call_len_seq
def rInt : List V → Hp → (V → Hp → Prop) → Prop := fun xs H Q => (∃ i, xs = [.int i] ∧ Q (.int i) H) ∨ ∃ k, xs = [.bl k] ∧ Q (.int (if k then 1 else 0)) H
theorem c_int {X : Cx} : CallR X (.type "int") rInt := call_int1
def rListOf (K : PySem.W.Frag) : List V → Hp → (V → Hp → Prop) → Prop := fun xs H Q => ∃ p ys, xs = [.ref p] ∧ (SqL K H p ys ∨ SqT K H p ys) ∧ ∀ l, H l = none → Q (.ref l) (upd H l (.lst ys))
theorem c_list {X : Cx} : CallR X (.type "list") (rListOf X.K) := call_list_of
def rTupOf (K : PySem.W.Frag) : List V → Hp → (V → Hp → Prop) → Prop := fun xs H Q => ∃ p ys, xs = [.ref p] ∧ ((SqL K H p ys ∧ ∀ l, H l = none → Q (.ref l) (upd H l (.tup ys))) ∨ (SqT K H p ys ∧ Q (.ref p) H))
theorem c_tuple {X : Cx} : CallR X (.type "tuple") (rTupOf X.K) := call_tuple_of
/-! the same rules within a comprehension: the written part by its own name -/
section
variable {X : Cx}
theorem c_listK (K : PySem.W.Frag) (h : X.K = K) : CallR X (.type "list") (rListOf K) := by subst h; exact c_list
theorem c_tupleK (K : PySem.W.Frag) (h : X.K = K) : CallR X (.type "tuple") (rTupOf K) := by subst h; exact c_tuple
theorem c_lenK (K : PySem.W.Frag) (h : X.K = K) : CallR X (.builtin "len") (rLen K) := by subst h; exact c_len
theorem ix_listK (K : PySem.W.Frag) (h : X.K = K) : IxR X (rIxL K) := by subst h; exact ix_list
theorem ix_tupK (K : PySem.W.Frag) (h : X.K = K) : IxR X (rIxT K) := by subst h; exact ix_tup
theorem op_in_seqK (K : PySem.W.Frag) (h : X.K = K) : OpR X (compareOp .In) (rIn K false) := by subst h; exact op_in_seq
theorem op_notIn_seqK (K : PySem.W.Frag) (h : X.K = K) : OpR X (compareOp .NotIn) (rIn K true) := by subst h; exact op_notIn_seq
theorem pe_fldK (K : PySem.W.Frag) (h : X.K = K) {e : Expr} {f : Str} {pos : Pos} {ta : TE} (he : PE X e ta) (hb : attributeBase e f X.env (eval e X.env) = eval e X.env) : PE X (.Attribute e f pos) (tFld K ta f) := by subst h; exact pe_fld he hb
end
section
variable {σ : L2.St} {H : Hp} {D : Ends} {t u : TS} {te ta tb tc : TE} {g : TG} {c ct cu : TT} {Q : VK} {QB : Bool → Hp → Prop} {QS : L2.St → Hp → Prop} {QA : List V → Hp → Prop} {v x y : V} {K : PySem.W.Frag} {a p l : Addr} {xs ys : List V} {i j : Int} {b : Bool}
theorem r_seq (h : t { D with nx := u D } σ H) : tSeq t u D σ H := h
theorem r_cut (Mid : L2.St → Hp → Prop) (h1 : t { D with nx := Mid } σ H) (h2 : ∀ σ' H', Mid σ' H' → u D σ' H') : C8.tCut t u D σ H := ⟨Mid, h1, h2⟩
/-- a test with nothing kept behind it -/
theorem r_cutS (h1 : t { D with nx := fun σ' H' => σ = σ' ∧ H = H' } σ H) (h2 : u D σ H) : C8.tCut t u D σ H := ⟨_, h1, fun _ _ ⟨e1, e2⟩ => by subst e1; subst e2; exact h2⟩
/-- .. but a heap that grew -/
theorem r_cutH (h1 : t { D with nx := fun σ' H' => σ = σ' ∧ L2.Same H H' } σ H) (h2 : ∀ H', L2.Same H H' → u D σ H') : C8.tCut t u D σ H := ⟨_, h1, fun _ _ ⟨e1, e2⟩ => by subst e1; exact h2 _ e2⟩
theorem r_asg (h : te σ H fun x H1 => g x σ H1 D.nx) : tAsg te g D σ H := h
theorem r_drop (h : te σ H fun _ H1 => D.nx σ H1) : tDrop te D σ H := h
theorem r_ret (h : te σ H D.rt) : tRet te D σ H := h
theorem r_ifs (h : c σ H fun b H1 => if b = true then t D σ H1 else u D σ H1) : tIfS c t u D σ H := h
theorem r_next (h : D.nx σ H) : tNext D σ H := h
theorem r_gname {n : Nat} (h : QS (σ.set n (some v)) H) : gName n v σ H QS := h
theorem r_gtup {n : Nat} {t : TGs} (hx : SqT K H a xs) (hl : xs.length = n) (h : t xs σ H QS) : gTup K n t (.ref a) σ H QS := ⟨a, xs, rfl, hx, hl, h⟩
theorem r_gunl {n : Nat} {t : TGs} (hx : SqL K H a xs) (hl : xs.length = n) (h : t xs σ H QS) : gUnl K n t (.ref a) σ H QS := ⟨a, xs, rfl, hx, hl, h⟩
theorem r_chain {r r' : R2} (h : ta σ H fun x H1 => tb σ H1 fun y H2 => r x y H2 fun z H3 => ∃ k, z = .bl k ∧ (if k = true then tc σ H3 fun w' H4 => r' y w' H4 Q else Q (.bl false) H3)) : tChain r r' ta tb tc σ H Q := h
theorem r_sfldL {C dx : Addr} {fs : List (Str × V)} {f : Str} (h : H a = some (.ins C dx fs)) (hc : Cls K C) (hn : NoAttr K C f) (hl : fs.length < 1000) (q : D.nx σ (upd H a (.ins C dx (putF f y fs)))) : kSfld K D σ f y (.ref a) H := ⟨a, C, dx, fs, rfl, h, hc, hn, hl, q⟩
theorem r_gmap {α : Type} {f : α → V} {y : α} {r : List α} {t : TG} {u : TGs} (h : t (f y) σ H fun σ' H' => u (List.map f r) σ' H' QS) : gCons t u (List.map f (y :: r)) σ H QS := ⟨_, _, rfl, h⟩
theorem r_gmapn {α : Type} {f : α → V} (h : QS σ H) : gNil (List.map f []) σ H QS := ⟨rfl, h⟩
theorem r_gnil (h : QS σ H) : gNil [] σ H QS := ⟨rfl, h⟩
theorem r_gcons {t : TG} {u : TGs} {r : List V} (h : t v σ H fun σ' H' => u r σ' H' QS) : gCons t u (v :: r) σ H QS := ⟨v, r, rfl, h⟩
theorem r_gsub {t : TSet} (h : ta σ H fun o H1 => tb σ H1 fun i H2 => t o i v H2 fun H3 => QS σ H3) : gSub ta tb t v σ H QS := h
theorem r_setl {k : Int} {n : Nat} {R : Hp → Prop} (h1 : H p = some (.lst xs)) (h2 : ixN xs.length k = some n) (q : R (upd H p (.lst (xs.set n v)))) : rSetL (.ref p) (.int k) v H R := ⟨p, xs, k, n, rfl, rfl, h1, h2, q⟩
theorem r_var {n : Nat} (h : σ[n]? = some (some v)) (q : Q v H) : tVar n σ H Q := ⟨v, h, q⟩
theorem r_c (q : Q v H) : tC v σ H Q := q
theorem r_op {r : R2} (h : ta σ H fun x H1 => tb σ H1 fun y H2 => r x y H2 Q) : tOp r ta tb σ H Q := h
theorem r_un {r : V → Hp → VK → Prop} (h : ta σ H fun x H1 => r x H1 Q) : tUn r ta σ H Q := h
theorem r_rI {C : Int → Int → Prop} {g : Int → Int → V} (hc : C i j) (q : Q (g i j) H) : rI C g (.int i) (.int j) H Q := ⟨i, j, rfl, rfl, hc, q⟩
theorem r_mod (hc : 0 < j) (q : ∀ z : Int, z = i % j → 0 ≤ z → z < j → Q (.int z) H) : rI (fun _ j => 0 < j) (fun i j => .int (i % j)) (.int i) (.int j) H Q :=
  ⟨i, j, rfl, rfl, hc, q _ rfl (Int.emod_nonneg i (by omega)) (Int.emod_lt_of_pos i hc)⟩
theorem r_rI0 {g : Int → Int → V} (q : Q (g i j) H) : rI0 g (.int i) (.int j) H Q := ⟨i, j, rfl, rfl, q⟩
theorem r_rU {g : Int → V} (q : Q (g i) H) : rU g (.int i) H Q := ⟨i, rfl, q⟩
theorem r_eq (hs : scal x y = true) (q : Q (.bl (decide (x = y))) H) : rEq x y H Q := ⟨hs, q⟩
theorem r_ne (hs : scal x y = true) (q : Q (.bl (!decide (x = y))) H) : rNe x y H Q := ⟨hs, q⟩
theorem r_eqi (q : Q (.bl (decide (i = j))) H) : rEq (.int i) (.int j) H Q := ⟨rfl, by
  rw [show decide (V.int i = V.int j) = decide (i = j) from by by_cases e : i = j <;> simp [e]]; exact q⟩
theorem r_nei (q : Q (.bl (!decide (i = j))) H) : rNe (.int i) (.int j) H Q := ⟨rfl, by
  rw [show decide (V.int i = V.int j) = decide (i = j) from by by_cases e : i = j <;> simp [e]]; exact q⟩
theorem r_nonR {A B : Prop} (h : A) : if (!decide (V.ref a = V.non)) = true then A else B := iteT' h
theorem r_nonN {A B : Prop} (h : B) : if (!decide (V.non = V.non)) = true then A else B := iteF' h
theorem r_isR {A B : Prop} (h : B) : if decide (V.ref a = V.non) = true then A else B := iteF' h
theorem r_isNN {A B : Prop} (h : A) : if decide (V.non = V.non) = true then A else B := iteT' h
theorem r_nonI {A B : Prop} (h : A) : if (!decide (V.int i = V.non)) = true then A else B := iteT' h
theorem r_isI {A B : Prop} (h : B) : if decide (V.int i = V.non) = true then A else B := iteF' h
theorem r_nil (q : QA [] H) : tNil σ H QA := q
theorem r_cons {tr : TA} (h : ta σ H fun x H1 => tr σ H1 fun xs H2 => QA (x :: xs) H2) : tCons ta tr σ H QA := h
theorem r_cb {r : List V → Hp → VK → Prop} {t : TA} (h : t σ H fun vs H1 => r vs H1 Q) : tCB r t σ H Q := h
theorem r_call {sp : Sp} {dvs : List V} {E : XK} {t : TA} (h : t σ H fun vs H1 => sp (vs ++ dvs) H1 Q E) : tCall sp dvs E t σ H Q := h
theorem r_make {C : Addr} {sp : Sp} {dvs : List V} {E : XK} {t : TA} (h : t σ H fun vs H1 => ∀ x dx, H1 x = none → H1 dx = none → dx ≠ x →
  sp (.ref x :: (vs ++ dvs)) (upd (upd H1 dx (.own x)) x (.ins C dx [])) (fun v H2 => v = .non ∧ Q (.ref x) H2) E) : tMake C sp dvs E t σ H Q := h
theorem r_meth {C : Addr} {m : Str} {sp : Sp} {dvs : List V} {E : XK} {t : TA} (h : ta σ H (kMeth C m sp dvs E σ t Q)) : tMeth C m sp dvs E ta t σ H Q := h
theorem r_methL {C : Addr} {dx : Addr} {fs : List (Str × V)} {m : Str} {sp : Sp} {dvs : List V} {E : XK} {t : TA} (h : H a = some (.ins C dx fs)) (hl : fs.lookup m = none) (q : t σ H fun vs H2 => sp (.ref a :: (vs ++ dvs)) H2 Q E) : kMeth C m sp dvs E σ t Q (.ref a) H := ⟨a, dx, fs, rfl, h, hl, q⟩
theorem r_fld {f : Str} (h : ta σ H (kFld K f Q)) : tFld K ta f σ H Q := h
theorem r_fldL {C dx : Addr} {fs : List (Str × V)} {f : Str} (h : H a = some (.ins C dx fs)) (hc : Cls K C) (hn : NoAttr K C f) (hl : fs.lookup f = some v) (q : Q v H) : kFld K f Q (.ref a) H := ⟨a, C, dx, fs, v, rfl, h, hc, hn, hl, q⟩
theorem r_sfld {f : Str} (h : tb σ H fun y H1 => ta σ H1 (kSfld K D σ f y)) : sFld K ta tb f D σ H := h
theorem r_test (h : te σ H (kTest QB)) : tTest te σ H QB := h
theorem r_tB (h : te σ H (kTest QB)) : tB te σ H QB := h
theorem r_exb (q : QB b H) : kTest QB (.bl b) H := ⟨b, rfl, q⟩
theorem r_and (h : ct σ H fun c H1 => if c = true then cu σ H1 QB else QB false H1) : tAnd ct cu σ H QB := h
theorem r_or (h : ct σ H fun c H1 => if c = true then QB true H1 else cu σ H1 QB) : tOr ct cu σ H QB := h
theorem r_not (h : ct σ H fun c H1 => QB (!c) H1) : tNot ct σ H QB := h
theorem r_andV (h : ta σ H fun x H1 => ∃ c, x = .bl c ∧ if c = true then tb σ H1 Q else Q (.bl false) H1) : tAndV ta tb σ H Q := h
theorem r_orV (h : ta σ H fun x H1 => ∃ c, x = .bl c ∧ if c = true then Q (.bl true) H1 else tb σ H1 Q) : tOrV ta tb σ H Q := h
theorem r_exbP {A : Bool → Prop} (q : A b) : ∃ c, V.bl b = .bl c ∧ A c := ⟨b, rfl, q⟩
theorem r_notV (h : ta σ H fun x H1 => ∃ c, x = .bl c ∧ Q (.bl (!c)) H1) : tNotV ta σ H Q := h
theorem r_tif (h : c σ H fun b H1 => if b = true then ta σ H1 Q else tb σ H1 Q) : tIf c ta tb σ H Q := h
theorem r_isN (h : ta σ H fun x H1 => Q (.bl (decide (x = .non))) H1) : tIsN ta σ H Q := h
theorem r_notN (h : ta σ H fun x H1 => Q (.bl (!decide (x = .non))) H1) : tNotN ta σ H Q := h
theorem r_tup {t : TA} (h : t σ H (kTup Q)) : tTup t σ H Q := h
theorem r_lst {t : TA} (h : t σ H (kLst Q)) : tLst t σ H Q := h
theorem r_ktup (hl : xs.length ≤ sizeLine) (h : ∀ p, H p = none → Q (.ref p) (upd H p (.tup xs))) : kTup Q xs H := ⟨hl, h⟩
theorem r_klst (hl : xs.length ≤ sizeLine) (h : ∀ p, H p = none → Q (.ref p) (upd H p (.lst xs))) : kLst Q xs H := ⟨hl, h⟩
theorem r_ixl (h : SqL K H p xs) (e : atI xs i = some v) (q : Q v H) : rIxL K (.ref p) (.int i) H Q := ⟨p, xs, i, v, rfl, rfl, h, e, q⟩
theorem r_ixt (h : SqT K H p xs) (e : atI xs i = some v) (q : Q v H) : rIxT K (.ref p) (.int i) H Q := ⟨p, xs, i, v, rfl, rfl, h, e, q⟩
theorem r_int (q : Q (.int i) H) : rInt [V.int i] H Q := .inl ⟨i, rfl, q⟩
theorem r_lenl (h : SqL K H p xs) (q : Q (.int xs.length) H) : rLen K [V.ref p] H Q := ⟨p, xs, rfl, .inl h, q⟩
theorem r_lent (h : SqT K H p xs) (q : Q (.int xs.length) H) : rLen K [V.ref p] H Q := ⟨p, xs, rfl, .inr h, q⟩
theorem r_listl (h : SqL K H p xs) (q : ∀ l, H l = none → Q (.ref l) (upd H l (.lst xs))) : rListOf K [V.ref p] H Q := ⟨p, xs, rfl, .inl h, q⟩
theorem r_listt (h : SqT K H p xs) (q : ∀ l, H l = none → Q (.ref l) (upd H l (.lst xs))) : rListOf K [V.ref p] H Q := ⟨p, xs, rfl, .inr h, q⟩
theorem r_tupl (h : SqL K H p xs) (q : ∀ l, H l = none → Q (.ref l) (upd H l (.tup xs))) : rTupOf K [V.ref p] H Q := ⟨p, xs, rfl, .inl ⟨h, q⟩⟩
theorem r_tupt (h : SqT K H p xs) (q : Q (.ref p) H) : rTupOf K [V.ref p] H Q := ⟨p, xs, rfl, .inr ⟨h, q⟩⟩
theorem r_in {neg : Bool} (h : SqL K H p xs ∨ SqT K H p xs) (fx : flatV x = true) (fs : xs.all flatV = true) (q : Q (.bl (if neg = true then !inV x xs else inV x xs)) H) : rIn K neg x (.ref p) H Q := ⟨p, xs, rfl, h, fx, fs, q⟩
theorem r_bm {T : String} {r : V → List V → Hp → VK → Prop} {t : TA} (h : ta σ H fun x H1 => tyV K T x H1 ∧ t σ H1 fun xs H2 => r x xs H2 Q) : tBM K T r ta t σ H Q := h
theorem r_bm0 {T : String} {r : V → List V → Hp → VK → Prop} (h : ta σ H fun x H1 => tyV K T x H1 ∧ r x [] H1 Q) : tBM0 K T r ta σ H Q := h
theorem r_tyl {A : Prop} (h : SqL K H l xs) (q : A) : tyV K "list" (.ref l) H ∧ A := ⟨.inl ⟨rfl, _, h⟩, q⟩
theorem r_app (h : H l = some (.lst xs)) (hl : xs.length < sizeLine) (q : Q .non (upd H l (.lst (xs ++ [v])))) : rAppend (.ref l) [v] H Q := ⟨l, xs, v, rfl, rfl, h, hl, q⟩
theorem r_isi {c : V} {t u : Value} (hc : ClsV c u) (ht : TyX K H x t) (hk : PySem.W.kitOne K t u = some b) (q : Q (.bl b) H) : rIsi K [x, c] H Q := ⟨x, c, t, u, b, rfl, hc, ht, hk, q⟩
theorem r_isb {a b : Bool} (q : Q (.bl (decide (a = b))) H) : rIsB (.bl a) (.bl b) H Q := ⟨a, b, rfl, rfl, q⟩
theorem r_notb {a b : Bool} (q : Q (.bl (!decide (a = b))) H) : rNotB (.bl a) (.bl b) H Q := ⟨a, b, rfl, rfl, q⟩
theorem r_eqd {d e : PyData} (h1 : Dp K H x d) (h2 : Dp K H y e) (s1 : SeqAt.shaped d = true) (s2 : SeqAt.shaped e = true) (q : Q (.bl (PyData.eqv d e)) H) : rEqD K x y H Q := ⟨d, e, h1, h2, s1, s2, q⟩
theorem r_ned {d e : PyData} (h1 : Dp K H x d) (h2 : Dp K H y e) (s1 : SeqAt.shaped d = true) (s2 : SeqAt.shaped e = true) (q : Q (.bl (!PyData.eqv d e)) H) : rNeD K x y H Q := ⟨d, e, h1, h2, s1, s2, q⟩
theorem r_rep {k : Int} (h : H l = some (.lst xs)) (h1 : -(2 ^ 63) ≤ k) (h2 : k < 2 ^ 63) (hz : xs.length * k.toNat ≤ sizeLine) (q : ∀ p, H p = none → Q (.ref p) (upd H p (.lst (List.replicate k.toNat xs).flatten))) : rRep (.ref l) (.int k) H Q := ⟨l, k, xs, rfl, rfl, h, h1, h2, hz, q⟩
theorem r_cat (h : H l = some (.lst xs)) (h' : H p = some (.lst ys)) (hz : xs.length + ys.length ≤ sizeLine) (q : ∀ r, H r = none → Q (.ref r) (upd H r (.lst (xs ++ ys)))) : rCat (.ref l) (.ref p) H Q := ⟨l, p, xs, ys, rfl, rfl, h, h', hz, q⟩
theorem r_aug {n : Nat} {ti : TIp} (h : σ[n]? = some (some x)) (q : te σ H fun y H1 => ti x y H1 fun z H2 => D.nx (σ.set n (some z)) H2) : tAug n te ti D σ H := ⟨x, h, q⟩
theorem r_ipI {f : Int → Int → Int} (q : Q (.int (f i j)) H) : ipI f (.int i) (.int j) H Q := ⟨i, j, rfl, rfl, q⟩
theorem r_sorted {ns : List Int} (h : SqL K H a (ns.map V.int)) (h64 : ns.length < 64) (q : ∀ (ns' : List Int) (p : Addr), ns'.Perm ns → ns'.Pairwise (· ≤ ·) → H p = none → Q (.ref p) (upd H p (.lst (ns'.map V.int)))) : rSorted K [.ref a] H Q := ⟨a, ns, rfl, h, h64, q⟩
end
/-! slices, texts -/
def kPart (Q : Option Int → Hp → Prop) : V → Hp → Prop := fun x H => ∃ i, x = .int i ∧ Q (some i) H
section
variable {σ : L2.St} {H : Hp} {te : TE} {tl th : TO} {Q : V → Hp → Prop} {QO : Option Int → Hp → Prop} {K : PySem.W.Frag} {a : Addr} {xs : List V} {lo hi : Option Int} {i : Int} {z : Str}
theorem r_sl {r : V → Option Int → Option Int → Hp → VK → Prop} (h : te σ H fun x H1 => tl σ H1 fun l H2 => th σ H2 fun u H3 => r x l u H3 Q) : tSl r te tl th σ H Q := h
theorem r_noP (q : QO none H) : tNoPart σ H QO := q
theorem r_part (h : te σ H (kPart QO)) : tPart te σ H QO := h
theorem r_kPart (q : QO (some i) H) : kPart QO (.int i) H := ⟨i, rfl, q⟩
theorem r_slS (hl : z.length ≤ 1000000) (q : Q (.str (cutS z lo hi)) H) : rSlS (.str z) lo hi H Q := ⟨z, rfl, by rw [sz]; omega, q⟩
theorem r_slL (h : SqL K H a xs) (q : ∀ p, H p = none → Q (.ref p) (upd H p (.lst (cutV xs lo hi)))) : rSlL K (.ref a) lo hi H Q := ⟨a, xs, rfl, h, q⟩
end
/-! loops and comprehensions -/
def kLc (g : TG) (tt : TT) (te : TE) (vs : List Nat) (σ : L2.St) (Q : V → Hp → Prop) : It → Hp → Prop := fun J H1 => ∀ D, H1 D = none → ∃ W : Nat → Nat → Hp → Prop, (∃ m, W 0 m (upd H1 D (.lst []))) ∧ ∀ i m H, W i m H →
  (J.stop i H ∧ Q (.ref D) H) ∨ (J.go i H ∧ ∃ Nx : Hp → Prop, (∀ H', Nx H' → ∃ m', m' < m ∧ W (i + 1) m' H') ∧ ∀ x H', J.yld i H x H' → g x (wipe σ vs) H' fun σ2 H2 => wipe σ2 vs = wipe σ vs ∧ tt σ2 H2 fun b H3 =>
    if b = true then te σ2 H3 fun y H4 => ∃ acc, H4 D = some (.lst acc) ∧ acc.length < sizeLine ∧ Nx (upd H4 D (.lst (acc ++ [y]))) else Nx H3)
def kR1 (R : It → Hp → Prop) : List V → Hp → Prop := fun vs H1 => ∃ j : Int, vs = [.int j] ∧ -(2 ^ 62) ≤ j ∧ j < 2 ^ 62 ∧ R (Itr 0 j.toNat) H1
def kR2 (R : It → Hp → Prop) : List V → Hp → Prop := fun vs H1 => ∃ i j : Int, vs = [.int i, .int j] ∧ (-(2 ^ 62) ≤ i ∧ i < 2 ^ 62 ∧ -(2 ^ 62) ≤ j ∧ j < 2 ^ 62) ∧ R (Itr i (j - i).toNat) H1
def kIl (K : PySem.W.Frag) (R : It → Hp → Prop) : V → Hp → Prop := fun x H1 => ∃ a, x = .ref a ∧ (∃ xs, SqL K H1 a xs) ∧ R (Itl K a) H1
def kIt (K : PySem.W.Frag) (R : It → Hp → Prop) : V → Hp → Prop := fun x H1 => ∃ a, x = .ref a ∧ (∃ xs, SqT K H1 a xs) ∧ R (Itt K a) H1
def kFor (g : TG) (tb : TS) (D : Ends) (σ : L2.St) : It → Hp → Prop := fun J H1 => ∃ W : Nat → Nat → L2.St → Hp → Prop, (∃ m, W 0 m σ H1) ∧ ∀ i m σ H, W i m σ H →
  (J.stop i H ∧ D.nx σ H) ∨ (J.go i H ∧ ∃ N : L2.St → Hp → Prop, (∀ σ' H', N σ' H' → ∃ m', m' < m ∧ W (i + 1) m' σ' H') ∧ ∀ x H', J.yld i H x H' → g x σ H' fun σ2 H2 => tb { D with nx := N, ct := N, bk := D.nx } σ2 H2)
section
variable {σ : L2.St} {H : Hp} {D : Ends} {te : TE} {ta : TA} {g : TG} {tt : TT} {tb : TS} {wi : TI} {vs : List Nat} {Q : V → Hp → Prop} {R : It → Hp → Prop} {K : PySem.W.Frag} {a : Addr} {xs : List V} {i j : Int}
theorem r_lc (h : wi σ H (kLc g tt te vs σ Q)) : tLc wi g tt te vs σ H Q := h
theorem r_for (h : wi σ H (kFor g tb D σ)) : tFor wi g tb D σ H := h
theorem r_irng1 (h : ta σ H (kR1 R)) : iRng1 ta σ H R := h
theorem r_irng2 (h : ta σ H (kR2 R)) : iRng2 ta σ H R := h
theorem r_ilist (h : te σ H (kIl K R)) : iList K te σ H R := h
theorem r_itup (h : te σ H (kIt K R)) : iTup K te σ H R := h
theorem r_kR1 (h1 : -(2 ^ 62) ≤ j) (h2 : j < 2 ^ 62) (h : R (Itr 0 j.toNat) H) : kR1 R [.int j] H := ⟨j, rfl, h1, h2, h⟩
theorem r_kR2 (h1 : -(2 ^ 62) ≤ i ∧ i < 2 ^ 62 ∧ -(2 ^ 62) ≤ j ∧ j < 2 ^ 62) (h : R (Itr i (j - i).toNat) H) : kR2 R [.int i, .int j] H := ⟨i, j, rfl, h1, h⟩
theorem r_kIl (h1 : SqL K H a xs) (h : R (Itl K a) H) : kIl K R (.ref a) H := ⟨a, rfl, ⟨_, h1⟩, h⟩
theorem r_kIt (h1 : SqT K H a xs) (h : R (Itt K a) H) : kIt K R (.ref a) H := ⟨a, rfl, ⟨_, h1⟩, h⟩
theorem r_forR {lo : Int} {n : Nat} (Pv : Nat → L2.St → Hp → Prop) (h0 : Pv 0 σ H)
    (hs : ∀ i σ H, i < n → Pv i σ H → g (.int (lo + i)) σ H fun σ2 H2 => tb { D with nx := Pv (i + 1), ct := Pv (i + 1), bk := D.nx } σ2 H2) (hd : ∀ σ H, Pv n σ H → D.nx σ H) : kFor g tb D σ (Itr lo n) H := for_range Pv h0 hs hd
theorem r_forL (Pv : Nat → L2.St → Hp → Prop) (h0 : Pv 0 σ H) (hl : ∀ i σ H, i ≤ xs.length → Pv i σ H → SqL K H a xs)
    (hs : ∀ i x σ H, xs[i]? = some x → Pv i σ H → g x σ H fun σ2 H2 => tb { D with nx := Pv (i + 1), ct := Pv (i + 1), bk := D.nx } σ2 H2) (hd : ∀ σ H, Pv xs.length σ H → D.nx σ H) : kFor g tb D σ (Itl K a) H := for_list Pv h0 hl hs hd
theorem r_forT (Pv : Nat → L2.St → Hp → Prop) (h0 : Pv 0 σ H) (hl : ∀ i σ H, i ≤ xs.length → Pv i σ H → SqT K H a xs)
    (hs : ∀ i x σ H, xs[i]? = some x → Pv i σ H → g x σ H fun σ2 H2 => tb { D with nx := Pv (i + 1), ct := Pv (i + 1), bk := D.nx } σ2 H2) (hd : ∀ σ H, Pv xs.length σ H → D.nx σ H) : kFor g tb D σ (Itt K a) H := for_tup Pv h0 hl hs hd
/-- [e for x in range], e an int -/
theorem r_lcI {lo : Int} {n slot : Nat} (P : Nat → Int → Prop) (hn : n ≤ 100000) (hv : vs = [slot])
    (hs : ∀ (i : Nat) (H' : Hp), i < n → L2.Same H H' → ∀ R : V → Hp → Prop, (∀ z : Int, P i z → R (.int z) H') → te ((wipe σ vs).set slot (some (.int (lo + i)))) H' R)
    (q : ∀ (H' : Hp) (l : Addr) (zs : List Int), L2.Same H H' → H l = none → H' l = some (.lst (zs.map V.int)) → zs.length = n → (∀ (i : Nat) (z : Int), zs[i]? = some z → P i z) → Q (.ref l) H') :
    kLc (gName slot) tYes te vs σ Q (Itr lo n) H := by
  intro L hL
  have hw : ∀ (τ : L2.St) (x : V), wipe (τ.set slot (some x)) [slot] = wipe τ [slot] := fun τ x => by simp [wipe, List.set_set]
  have hw2 : wipe (wipe σ vs) vs = wipe σ vs := by subst hv; simp [wipe, List.set_set]
  refine lc_range (fun i H' => ∃ zs : List Int, zs.length = i ∧ H' L = some (.lst (zs.map V.int)) ∧ L2.Same H H' ∧ ∀ (k : Nat) (z : Int), zs[k]? = some z → P k z) ⟨[], rfl, upd_same, fun b o e => by rw [upd_ne (ne_of_none e hL)]; exact e, fun k z e => by simp at e⟩ ?_ ?_
  · rintro i H' hi ⟨zs, el, eL, s, hp⟩
    refine ⟨?_, ?_⟩
    · subst hv
      rw [hw]
      exact hw2
    · show te ((wipe σ vs).set slot (some (.int (lo + i)))) H' _
      refine hs i H' hi s _ fun z hz => ⟨_, eL, ?_, zs ++ [z], ?_, ?_, ?_, ?_⟩
      · rw [List.length_map, el]
        exact Nat.lt_of_lt_of_le (Nat.lt_of_lt_of_le hi hn) (by decide)
      · rw [List.length_append, el]; rfl
      · rw [upd_same, List.map_append]; rfl
      · intro b o e
        rw [upd_ne (ne_of_none e hL)]
        exact s _ _ e
      · intro k y e
        rw [List.getElem?_append] at e
        split at e
        · exact hp k y e
        · rename_i hk
          have ek : k = zs.length := by
            have := (List.getElem?_eq_some_iff.mp e).1
            simp at this
            omega
          subst ek
          simp at e
          rw [el, ← e]
          exact hz
  · rintro H' ⟨zs, el, eL, s, hp⟩
    exact q H' L zs s hL eL el hp
end
end Sg
/-! data behind values, as the heap grows -/
namespace Sg
open PySem L2
mutual
theorem Dp.mono {K : PySem.W.Frag} {H H' : Hp} (s : L2.Same H H') : ∀ (d : PyData) (v : V), Dp K H v d → Dp K H' v d
  | .none, _, h => by cases h; exact .non
  | .bool b, _, h => by cases h; exact .bl b
  | .int i, _, h => by cases h; exact .int i
  | .str x, _, h => by cases h; exact .str x
  | .list ds, _, h => by
    cases h with
    | lst hs ha => exact .lst (L2.Same.seq s hs) (DpAll.mono s ds _ ha)
  | .tuple ds, _, h => by
    cases h with
    | tup hs ha => exact .tup (Sg.Same.tup s hs) (DpAll.mono s ds _ ha)
  | .dict _, _, h => by cases h
theorem DpAll.mono {K : PySem.W.Frag} {H H' : Hp} (s : L2.Same H H') : ∀ (ds : List PyData) (vs : List V), DpAll K H vs ds → DpAll K H' vs ds
  | [], _, h => by cases h; exact .nil
  | d :: ds, _, h => by
    cases h with
    | cons h1 h2 => exact .cons (Dp.mono s d _ h1) (DpAll.mono s ds _ h2)
end
theorem DpAll.ints {K : PySem.W.Frag} {H : Hp} : ∀ ns : List Int, DpAll K H (ns.map V.int) (ns.map PyData.int)
  | [] => .nil
  | n :: ns => .cons (.int n) (DpAll.ints ns)
theorem DpAll.at {K : PySem.W.Frag} {H : Hp} : ∀ {vs : List V} {ds : List PyData}, DpAll K H vs ds → ∀ (i : Nat) (v : V), vs[i]? = some v → ∃ d, ds[i]? = some d ∧ Dp K H v d
  | _, _, .nil, i, v, e => by simp at e
  | _, _, .cons h t, 0, v, e => by simp at e; subst e; exact ⟨_, rfl, h⟩
  | _, _, .cons h t, i + 1, v, e => by
    obtain ⟨d, e1, h1⟩ := DpAll.at t i v (by simpa using e)
    exact ⟨d, by simpa using e1, h1⟩
theorem DpAll.length {K : PySem.W.Frag} {H : Hp} : ∀ {vs : List V} {ds : List PyData}, DpAll K H vs ds → vs.length = ds.length
  | _, _, .nil => rfl
  | _, _, .cons _ t => by simp [DpAll.length t]
/-- data that can be compared, at most n deep -/
def Fl (n : Nat) (d : PyData) : Prop := d.canLay0 = true ∧ d.depth ≤ n
theorem Fl.int (i : Int) (n : Nat) : Fl n (.int i) := ⟨by simp [PyData.canLay0], by simp [PyData.depth]⟩
theorem Fl.non (n : Nat) : Fl n .none := ⟨by simp [PyData.canLay0], by simp [PyData.depth]⟩
theorem Fl.bool (b : Bool) (n : Nat) : Fl n (.bool b) := ⟨by simp [PyData.canLay0], by simp [PyData.depth]⟩
theorem Fl.all {n : Nat} : ∀ {ds : List PyData}, (∀ d ∈ ds, Fl n d) → PyData.canLayAll0 ds = true ∧ PyData.depthAll ds ≤ n
  | [], _ => ⟨by simp [PyData.canLayAll0], by simp [PyData.depthAll]⟩
  | d :: ds, h => by
    obtain ⟨h1, h2⟩ := h d List.mem_cons_self
    obtain ⟨h3, h4⟩ := Fl.all (ds := ds) fun x hx => h x (List.mem_cons_of_mem _ hx)
    refine ⟨by simp [PyData.canLayAll0, h1, h3], ?_⟩
    simp only [PyData.depthAll]
    exact Nat.max_le.mpr ⟨h2, h4⟩
theorem Fl.tup {n : Nat} {ds : List PyData} (h : ∀ d ∈ ds, Fl n d) : Fl (n + 1) (.tuple ds) := by
  obtain ⟨h1, h2⟩ := Fl.all h
  exact ⟨by simp [PyData.canLay0, h1], by simp only [PyData.depth]; omega⟩
theorem Fl.lst {n : Nat} {ds : List PyData} (h : ∀ d ∈ ds, Fl n d) : Fl (n + 1) (.list ds) := by
  obtain ⟨h1, h2⟩ := Fl.all h
  exact ⟨by simp [PyData.canLay0, h1], by simp only [PyData.depth]; omega⟩
theorem Fl.mono {n m : Nat} {d : PyData} (h : Fl n d) (hm : n ≤ m) : Fl m d := ⟨h.1, Nat.le_trans h.2 hm⟩
theorem Fl.ints (ns : List Int) : Fl 1 (.tuple (ns.map PyData.int)) := Fl.tup fun d hd => by
  obtain ⟨i, _, rfl⟩ := List.mem_map.mp hd
  exact Fl.int i 0
theorem Fl.intl (ns : List Int) : Fl 1 (.list (ns.map PyData.int)) := Fl.lst fun d hd => by
  obtain ⟨i, _, rfl⟩ := List.mem_map.mp hd
  exact Fl.int i 0
theorem Fl.nil {n : Nat} : ∀ d ∈ ([] : List PyData), Fl n d := fun d h => by cases h
theorem Fl.cons {n : Nat} {d : PyData} {ds : List PyData} (h : Fl n d) (t : ∀ x ∈ ds, Fl n x) : ∀ x ∈ d :: ds, Fl n x := fun x hx => by
  rcases List.mem_cons.mp hx with rfl | hx
  · exact h
  · exact t x hx
theorem Fl.mapi {n : Nat} {ns : List Int} : ∀ d ∈ ns.map PyData.int, Fl n d := fun d hd => by
  obtain ⟨i, _, rfl⟩ := List.mem_map.mp hd
  exact Fl.int i n
theorem Fl.shaped {n : Nat} {d : PyData} (h : Fl n d) (hn : n ≤ 64 := by decide) : SeqAt.shaped d = true := by
  unfold SeqAt.shaped
  rw [h.1, decide_eq_true (Nat.le_trans h.2 hn)]
  rfl
theorem Fl.self {n : Nat} {d : PyData} (h : Fl n d) : PyData.eqv d d = true := SeqAt.eqv_refl d h.1
/-! lists of ints -/
theorem ixN_ok {n : Nat} {k : Int} (h0 : 0 ≤ k) (h1 : k < n) : ixN n k = some k.toNat := by unfold ixN; rw [if_pos h0, if_pos h1]
theorem at_ints {ts : List Int} {k : Int} (h0 : 0 ≤ k) (h1 : k < ts.length) : atI (ts.map V.int) k = some (.int (ts.getD k.toNat 0)) := by
  obtain ⟨n, rfl⟩ := Int.eq_ofNat_of_zero_le h0
  have hn : n < ts.length := by omega
  refine atI_nat ?_
  rw [List.getElem?_map, List.getElem?_eq_getElem hn, List.getD_eq_getElem?_getD, Int.toNat_natCast, List.getElem?_eq_getElem hn]
  rfl
theorem rep_ints (n : Nat) (z : Int) : (List.replicate n [V.int z]).flatten = (List.replicate n z).map V.int := by
  induction n with
  | zero => rfl
  | succ n ih => rw [List.replicate_succ, List.flatten_cons, ih, List.replicate_succ, List.map_cons]; rfl
theorem set_ints (ts : List Int) (n : Nat) (z : Int) : (ts.map V.int).set n (.int z) = (ts.set n z).map V.int := by rw [List.map_set]
theorem eqv_ints {as bs : List Int} : PyData.eqv (.list (as.map PyData.int)) (.list (bs.map PyData.int)) = decide (as = bs) := by
  rw [PyData.eqv]
  induction as generalizing bs with
  | nil => cases bs <;> simp [PyData.eqvAll]
  | cons a as ih =>
    cases bs with
    | nil => simp [PyData.eqvAll]
    | cons b bs =>
      rw [List.map_cons, List.map_cons, PyData.eqvAll, ih, PyData.eqv]
      by_cases e : a = b
      · subst e; simp
      · simp [e]
theorem Dp.ints {K : PySem.W.Frag} {H : Hp} {a : Addr} {ns : List Int} (h : SqL K H a (ns.map V.int)) : Dp K H (.ref a) (.list (ns.map PyData.int)) := .lst h (DpAll.ints ns)
theorem Fl.intlS (ns : List Int) : SeqAt.shaped (.list (ns.map PyData.int)) = true := (Fl.intl ns).shaped
/-! a comprehension over a list, its items anything -/
/-- the heap without the list that grows -/
def hid (D : Addr) (H : Hp) : Hp := fun b => if b = D then none else H b
theorem hid_ne {D b : Addr} {H : Hp} (h : b ≠ D) : hid D H b = H b := by unfold hid; rw [if_neg h]
theorem hid_at {D : Addr} {H : Hp} : hid D H D = none := by unfold hid; rw [if_pos rfl]
theorem hid_same {D : Addr} {H : Hp} : L2.Same (hid D H) H := fun b o e => by
  by_cases hb : b = D
  · rw [hb, hid_at] at e; cases e
  · rw [hid_ne hb] at e; exact e
theorem of_hid {D b : Addr} {H : Hp} {o : HO} (e : hid D H b = some o) : b ≠ D ∧ H b = some o := by
  by_cases hb : b = D
  · rw [hb, hid_at] at e; cases e
  · rw [hid_ne hb] at e; exact ⟨hb, e⟩
theorem same_hid {D : Addr} {H H' : Hp} (s : L2.Same H H') (n : H D = none) : L2.Same H (hid D H') := fun b o e => by
  rw [hid_ne (ne_of_none e n)]; exact s _ _ e
theorem hid_upd {D : Addr} {H : Hp} {o : HO} : hid D (upd H D o) = hid D H := by
  funext b
  by_cases hb : b = D
  · rw [hb, hid_at, hid_at]
  · rw [hid_ne hb, hid_ne hb, upd_ne hb]
theorem hid_none {D : Addr} {H : Hp} (n : H D = none) : hid D H = H := by
  funext b
  by_cases hb : b = D
  · rw [hb, hid_at, n]
  · rw [hid_ne hb]
theorem r_lcL {K : PySem.W.Frag} {a : Addr} {xs : List V} {slot : Nat} {vs : List Nat} {te : TE} {σ : L2.St} {H : Hp} {Q : V → Hp → Prop} (P : Nat → List V → Hp → Prop) (hx : SqL K H a xs) (hn : xs.length ≤ 100000) (hv : vs = [slot])
    (h0 : P 0 [] H)
    (hs : ∀ (i : Nat) (x : V) (acc : List V) (H0 H' : Hp), xs[i]? = some x → L2.Same H H0 → P i acc H0 → L2.Same H0 H' → ∀ R : V → Hp → Prop,
      (∀ (v : V) (H'' : Hp), L2.Same H' H'' → (∀ D, H0 D = none → H' D ≠ none → P (i + 1) (acc ++ [v]) (hid D H'')) → R v H'') → te ((wipe σ vs).set slot (some x)) H' R)
    (q : ∀ (H' : Hp) (l : Addr) (acc : List V), L2.Same H H' → H l = none → H' l = some (.lst acc) → acc.length = xs.length → P xs.length acc (hid l H') → Q (.ref l) H') :
    kLc (gName slot) tYes te vs σ Q (Itl K a) H := by
  intro L hL
  have hw : ∀ (τ : L2.St) (x : V), wipe (τ.set slot (some x)) [slot] = wipe τ [slot] := fun τ x => by simp [wipe, List.set_set]
  have hw2 : wipe (wipe σ vs) vs = wipe σ vs := by subst hv; simp [wipe, List.set_set]
  refine lc_list (xs := xs) (fun i H' => ∃ acc : List V, acc.length = i ∧ H' L = some (.lst acc) ∧ L2.Same H H' ∧ P i acc (hid L H')) ⟨[], rfl, upd_same, fun b o e => by rw [upd_ne (ne_of_none e hL)]; exact e, by rw [hid_upd, hid_none hL]; exact h0⟩ ?_ ?_ ?_
  · rintro i H' hi ⟨acc, _, _, s, _⟩
    exact s.seq hx
  · rintro i x H' hi ⟨acc, el, eL, s, hp⟩
    refine ⟨?_, ?_⟩
    · subst hv
      rw [hw]
      exact hw2
    · show te ((wipe σ vs).set slot (some x)) H' _
      refine hs i x acc (hid L H') H' hi (same_hid s hL) hp hid_same _ fun v H'' s2 hP => ⟨acc, s2 _ _ eL, ?_, acc ++ [v], ?_, upd_same, ?_, ?_⟩
      · have := (List.getElem?_eq_some_iff.mp hi).1
        rw [el, sz]
        omega
      · rw [List.length_append, el]; rfl
      · intro b o e
        rw [upd_ne (ne_of_none e hL)]
        exact s2 _ _ (s _ _ e)
      · rw [hid_upd]
        exact hP L hid_at (by rw [eL]; intro z; cases z)
  · rintro H' ⟨acc, el, eL, s, hp⟩
    exact q H' L acc s hL eL el hp
end Sg
namespace Sg
open PySem L2
def top (i : Nat) : Stmt := PySem.Challenge.pw_segmentfs_k09_numbers_of_a_checkpoint_ar.main.body.getD i (.Pass ⟨0, 0, 0, 0⟩)
abbrev s_Layout___init : Stmt := inClass (top 6) 0
abbrev s_parts_of : Stmt := top 7
abbrev s_read_numbers : Stmt := top 10
abbrev s_law_row : Stmt := top 12
abbrev s_law_digits : Stmt := top 13
abbrev s_law_layout : Stmt := top 14
abbrev s_law_table : Stmt := top 15
abbrev s_law_wrong : Stmt := top 16
abbrev s_law : Stmt := top 17
abbrev n_Layout___init : List Str := ["self", "segments", "segment_blocks", "block_size"]
theorem sc_Layout___init : FnScope n_Layout___init ["self", "segments", "segment_blocks", "block_size"] (defScope s_Layout___init) := ⟨rfl, rfl, rfl, by decide +kernel, rfl, by decide +kernel, by decide +kernel⟩
abbrev n_parts_of : List Str := ["number", "size"]
theorem sc_parts_of : FnScope n_parts_of ["number", "size"] (defScope s_parts_of) := ⟨rfl, rfl, rfl, by decide +kernel, rfl, by decide +kernel, by decide +kernel⟩
abbrev n_read_numbers : List Str := ["layout", "numbers", "size", "slots", "slot", "start", "taken", "addresses", "head", "place", "count", "queue_end"]
theorem sc_read_numbers : FnScope n_read_numbers ["layout", "numbers"] (defScope s_read_numbers) := ⟨rfl, rfl, rfl, by decide +kernel, rfl, by decide +kernel, by decide +kernel⟩
abbrev n_law_row : List Str := ["script", "k", "cell", "first", "second"]
theorem sc_law_row : FnScope n_law_row ["script", "k"] (defScope s_law_row) := ⟨rfl, rfl, rfl, by decide +kernel, rfl, by decide +kernel, by decide +kernel⟩
abbrev n_law_digits : List Str := ["row", "sizes", "digits", "size"]
theorem sc_law_digits : FnScope n_law_digits ["row", "sizes"] (defScope s_law_digits) := ⟨rfl, rfl, rfl, by decide +kernel, rfl, by decide +kernel, by decide +kernel⟩
abbrev n_law_layout : List Str := ["row", "choice", "more", "size", "segments", "blocks", "ids"]
theorem sc_law_layout : FnScope n_law_layout ["row"] (defScope s_law_layout) := ⟨rfl, rfl, rfl, by decide +kernel, rfl, by decide +kernel, by decide +kernel⟩
abbrev n_law_table : List Str := ["layout", "row", "most", "table", "step", "start", "many", "key"]
theorem sc_law_table : FnScope n_law_table ["layout", "row", "most"] (defScope s_law_table) := ⟨rfl, rfl, rfl, by decide +kernel, rfl, by decide +kernel, by decide +kernel⟩
abbrev n_law_wrong : List Str := ["layout", "numbers", "slots", "count", "script", "choice", "which", "more", "at", "last", "flag", "end", "wrong"]
theorem sc_law_wrong : FnScope n_law_wrong ["layout", "numbers", "slots", "count", "script"] (defScope s_law_wrong) := ⟨rfl, rfl, rfl, by decide +kernel, rfl, by decide +kernel, by decide +kernel⟩
abbrev n_law : List Str := ["script", "layout", "taken", "head", "place", "count", "fault", "present", "numbers", "slots", "k", "start", "step", "queue", "wrong", "passed", "actual"]
theorem sc_law : FnScope n_law ["script"] (defScope s_law) := ⟨rfl, rfl, rfl, by decide +kernel, rfl, by decide +kernel, by decide +kernel⟩
structure Txt (K : PySem.W.Frag) (mg : Str → Option Value) where
  a_Layout___init : Addr
  fd_Layout___init : FuncData
  a_parts_of : Addr
  fd_parts_of : FuncData
  a_read_numbers : Addr
  fd_read_numbers : FuncData
  a_law_row : Addr
  fd_law_row : FuncData
  a_law_digits : Addr
  fd_law_digits : FuncData
  a_law_layout : Addr
  fd_law_layout : FuncData
  a_law_table : Addr
  fd_law_table : FuncData
  a_law_wrong : Addr
  fd_law_wrong : FuncData
  a_law : Addr
  fd_law : FuncData
  A_Layout : Addr
  a_BLOCK_SIZES : Addr
  t_SLOTS : Tok
  t_SUMMARY_HEAD : Tok
  F_Layout___init : Fun K "__init__" "Layout.__init__" s_Layout___init a_Layout___init fd_Layout___init
  b_Layout___init : Binds K fd_Layout___init ["self", "segments", "segment_blocks", "block_size"] []
  F_parts_of : Fun K "parts_of" "parts_of" s_parts_of a_parts_of fd_parts_of
  b_parts_of : Binds K fd_parts_of ["number", "size"] []
  m_parts_of : mg "parts_of" = some (.ref a_parts_of)
  F_read_numbers : Fun K "read_numbers" "read_numbers" s_read_numbers a_read_numbers fd_read_numbers
  b_read_numbers : Binds K fd_read_numbers ["layout", "numbers"] []
  m_read_numbers : mg "read_numbers" = some (.ref a_read_numbers)
  F_law_row : Fun K "_law_row" "_law_row" s_law_row a_law_row fd_law_row
  b_law_row : Binds K fd_law_row ["script", "k"] []
  m_law_row : mg "_law_row" = some (.ref a_law_row)
  F_law_digits : Fun K "_law_digits" "_law_digits" s_law_digits a_law_digits fd_law_digits
  b_law_digits : Binds K fd_law_digits ["row", "sizes"] []
  m_law_digits : mg "_law_digits" = some (.ref a_law_digits)
  F_law_layout : Fun K "_law_layout" "_law_layout" s_law_layout a_law_layout fd_law_layout
  b_law_layout : Binds K fd_law_layout ["row"] []
  m_law_layout : mg "_law_layout" = some (.ref a_law_layout)
  F_law_table : Fun K "_law_table" "_law_table" s_law_table a_law_table fd_law_table
  b_law_table : Binds K fd_law_table ["layout", "row", "most"] []
  m_law_table : mg "_law_table" = some (.ref a_law_table)
  F_law_wrong : Fun K "_law_wrong" "_law_wrong" s_law_wrong a_law_wrong fd_law_wrong
  b_law_wrong : Binds K fd_law_wrong ["layout", "numbers", "slots", "count", "script"] []
  m_law_wrong : mg "_law_wrong" = some (.ref a_law_wrong)
  F_law : Fun K "law" "law" s_law a_law fd_law
  b_law : Binds K fd_law ["script"] []
  m_law : mg "law" = some (.ref a_law)
  m_Layout : mg "Layout" = some (.ref A_Layout)
  cl_Layout : Cls K A_Layout
  M_Layout : Mk K A_Layout a_Layout___init
  na_Layout_segments : NoAttr K A_Layout "segments"
  na_Layout_segment_blocks : NoAttr K A_Layout "segment_blocks"
  na_Layout_block_size : NoAttr K A_Layout "block_size"
  na_Layout_payload : NoAttr K A_Layout "payload"
  na_Layout_limit : NoAttr K A_Layout "limit"
  na_Layout_last_id : NoAttr K A_Layout "last_id"
  na_Layout_fan : NoAttr K A_Layout "fan"
  na_Layout_region_blocks : NoAttr K A_Layout "region_blocks"
  na_Layout_device_blocks : NoAttr K A_Layout "device_blocks"
  c_BLOCK_SIZES : mg "BLOCK_SIZES" = some (.ref a_BLOCK_SIZES)
  r_BLOCK_SIZES : RelV (.ref a_BLOCK_SIZES) (.ref a_BLOCK_SIZES)
  v_BLOCK_SIZES : ∀ H : Hp, SqT K H a_BLOCK_SIZES [.int 64, .int 128, .int 256]
  c_SLOTS : mg "SLOTS" = some (.int 3 t_SLOTS)
  r_SLOTS : RelV (.int 3) (.int 3 t_SLOTS)
  c_SUMMARY_HEAD : mg "SUMMARY_HEAD" = some (.int 16 t_SUMMARY_HEAD)
  r_SUMMARY_HEAD : RelV (.int 16) (.int 16 t_SUMMARY_HEAD)
  n_any : mg "any" = none
  n_int : mg "int" = none
  n_isinstance : mg "isinstance" = none
  n_len : mg "len" = none
  n_list : mg "list" = none
  n_range : mg "range" = none
  n_tuple : mg "tuple" = none
end Sg
namespace Sg
open PySem L2
local macro_rules | `(tactic| walk_at "size") => `(tactic| first | ((simp only [List.length_append, List.length_cons, List.length_nil, List.length_map, Sg.sz]) <;> omega) | (rw [Sg.sz]; simp <;> omega))
local macro_rules | `(tactic| walk_at "side") => `(tactic| first | with_reducible rfl | with_reducible assumption | (show (_ : Int) < _; omega) | omega | (simp only [List.length_map]; omega) | assumption | rfl | decide | exact Or.inr ⟨by decide, by decide⟩ | exact Or.inl ⟨by decide, by decide⟩ | exact Or.inr ⟨by omega, by omega⟩ | exact Or.inl ⟨by omega, by omega⟩ | exact ⟨by omega, by omega⟩ | exact ⟨by decide, by decide, by decide⟩ | (simp; done))
local macro_rules | `(tactic| walk_at "hp") => `(tactic| first | assumption | (refine' L2.SqT.of ?h1; (case h1 => walk_at "hp")) | (refine' L2.SqL.of ?h1; (case h1 => walk_at "hp")) | (refine' Sg.Same.tup ?h1 ?h2; (case h1 => assumption); (case h2 => walk_at "hp")) | (refine' L2.Same.seq ?h1 ?h2; (case h1 => assumption); (case h2 => walk_at "hp")) | (refine' (show L2.Same _ _ from ?h1) _ _ ?h2; (case h1 => assumption); (case h2 => walk_at "hp")) | (refine' Sg.at_keep ?he ?h1 ?h2 ?h3; (case he => assumption); (case h1 => walk_at "hp"); (case h2 => walk_at "hp"); (case h3 => (intro z; cases z))))
local macro_rules | `(tactic| walk_at "al") => `(tactic| (intro p hn; generalize hH : upd _ _ _ = H'; have hs := Sg.Same.of_new hH hn; have ho := Sg.at_new hH; clear hH))
local macro_rules | `(tactic| walk_at "sm1") => `(tactic| first | (refine' L2.Same.trans ?ha ?hb; (case hb => assumption)) | (refine' Sg.Same.old ?ha ?hb ?hc; (case hc => assumption); (case hb => walk_at "nn")))
local macro_rules | `(tactic| walk_at "sm") => `(tactic| first | exact L2.Same.refl _ | assumption | (walk_at "sm1"; walk_at "sm"))
local macro_rules | `(tactic| walk_at "nn") => `(tactic| first | assumption | ((refine' L2.Same.free ?ha ?hb; (case hb => assumption)); walk_at "sm"))
local macro_rules | `(tactic| walk_at "dp") => `(tactic| first | assumption | exact L2.Dp.int _ | exact L2.Dp.non | exact L2.Dp.bl _ | exact L2.Dp.str _ | (refine' L2.Dp.tup ?ha ?hb; (case ha => walk_at "hp"); (case hb => walk_at "dpa")) | (refine' L2.Dp.lst ?ha ?hb; (case ha => walk_at "hp"); (case hb => walk_at "dpa")))
local macro_rules | `(tactic| walk_at "dpa") => `(tactic| first | assumption | exact L2.DpAll.nil | exact Sg.DpAll.ints _ | (refine' L2.DpAll.cons ?ha ?hb; (case ha => walk_at "dp"); (case hb => walk_at "dpa")))
local macro_rules | `(tactic| walk_at "fl") => `(tactic| first | assumption | exact Sg.Fl.int _ _ | exact Sg.Fl.non _ | exact Sg.Fl.bool _ _ | (refine' Sg.Fl.tup ?ha; (case ha => walk_at "fla")) | (refine' Sg.Fl.lst ?ha; (case ha => walk_at "fla")))
local macro_rules | `(tactic| walk_at "fla") => `(tactic| first | assumption | exact Sg.Fl.nil | exact Sg.Fl.mapi | (refine' Sg.Fl.cons ?ha ?hb; (case ha => walk_at "fl"); (case hb => walk_at "fla")))
local macro_rules | `(tactic| walk_at "tyx") => `(tactic| first | exact L2.TyX.base (L2.TyOf.int _) | exact L2.TyX.base (L2.TyOf.bl _) | exact L2.TyX.base L2.TyOf.non | exact L2.TyX.base (L2.TyOf.str _) | (refine' L2.TyX.base (L2.TyOf.tup ?ha); (case ha => walk_at "hp")) | (refine' L2.TyX.base (L2.TyOf.lst ?ha); (case ha => walk_at "hp")) | (refine' L2.TyX.base (L2.TyOf.frz ?ha); (case ha => walk_at "hp")))
local macro_rules | `(tactic| walk_at "up") => `(tactic| (generalize hH : upd _ _ _ = H'; have ho := Sg.at_new hH))
local macro_rules | `(tactic| walk_at "lk") => `(tactic| first | with_reducible assumption | with_reducible exact Sg.lk_eq | (refine' Sg.lk_ne ?ha ?hb; (case ha => decide +kernel); (case hb => walk_at "lk")) | (refine' Sg.lk_no ?ha ?hb; (case ha => decide +kernel); (case hb => walk_at "lk")) | rfl)
local macro_rules | `(tactic| walk_at "few") => `(tactic| first | assumption | omega | decide | (refine' Nat.lt_of_le_of_lt (Sg.putF_len ?ha) ?hb; (case ha => walk_at "fewi"); (case hb => decide)))
local macro_rules | `(tactic| walk_at "fewi") => `(tactic| first | assumption | (refine' Sg.putF_len ?ha; (case ha => walk_at "fewi")) | exact Nat.le_refl _)
local macro_rules | `(tactic| walk_at "rd1") => `(tactic| with_reducible (first | refine' Sg.r_seq ?_ | refine' Sg.r_asg ?_ | refine' Sg.r_gname ?_ | (refine' Sg.r_var (by with_unfolding_all rfl) ?_) | refine' Sg.r_c ?_ | refine' Sg.r_op ?_ | refine' Sg.r_un ?_ | refine' Sg.r_cb ?_ | refine' Sg.r_cons ?_ | refine' Sg.r_nil ?_ | (refine' Sg.r_mod ?hc ?_; (case hc => (with_unfolding_all walk_at "side")); (intro z hz z0 z1)) | (refine' Sg.r_rI ?hc ?_; (case hc => (with_unfolding_all walk_at "side"))) | refine' Sg.r_rI0 ?_ | refine' Sg.r_rU ?_ | refine' Sg.r_int ?_ | refine' Sg.r_eqi ?_ | refine' Sg.r_nei ?_ | (refine' Sg.r_ixl ?h ?e ?_; (case h => (with_unfolding_all walk_at "hp")); (case e => (with_unfolding_all rfl))) | (refine' Sg.r_ixt ?h ?e ?_; (case h => (with_unfolding_all walk_at "hp")); (case e => (with_unfolding_all rfl))) | (refine' Sg.r_lenl ?h ?_; (case h => (with_unfolding_all walk_at "hp"))) | (refine' Sg.r_lent ?h ?_; (case h => (with_unfolding_all walk_at "hp"))) | refine' Sg.r_test ?_ | refine' Sg.r_exb ?_ | refine' Sg.r_tB ?_ | refine' Sg.r_exbP ?_ | refine' Sg.r_ifs ?_ | refine' Sg.r_and ?_ | refine' Sg.r_or ?_ | refine' Sg.r_not ?_ | refine' Sg.r_andV ?_ | refine' Sg.r_orV ?_ | refine' Sg.r_notV ?_ | refine' Sg.r_tif ?_ | refine' Sg.r_isN ?_ | refine' Sg.r_notN ?_ | refine' Sg.r_ret ?_ | refine' Sg.r_drop ?_ | refine' Sg.r_next ?_ | refine' Sg.r_call ?_ | refine' Sg.r_make ?_ | refine' Sg.r_meth ?_ | refine' Sg.r_fld ?_ | refine' Sg.r_sfld ?_ | refine' Sg.r_chain ?_ | (refine' Sg.r_fldL ?h ?hc ?hn ?hl ?_; (case h => (with_unfolding_all walk_at "hp")); (case hc => assumption); (case hn => assumption); (case hl => (with_unfolding_all walk_at "lk"))) | (refine' Sg.r_sfldL ?h ?hc ?hn ?hl ?_; (case h => (with_unfolding_all walk_at "hp")); (case hc => assumption); (case hn => assumption); (case hl => (with_unfolding_all walk_at "few")); (with_unfolding_all walk_at "up")) | (refine' Sg.r_gunl ?h ?hl ?_; (case h => (with_unfolding_all walk_at "hp")); (case hl => (with_unfolding_all walk_at "side"))) | (refine' Sg.r_gtup ?h ?hl ?_; (case h => (with_unfolding_all walk_at "hp")); (case hl => (with_unfolding_all walk_at "side"))) | (refine' Sg.r_methL ?h ?hl ?_; (case h => (with_unfolding_all walk_at "hp")); (case hl => (with_unfolding_all walk_at "lk"))) | refine' Sg.r_tup ?_ | refine' Sg.r_lst ?_ | (refine' Sg.r_ktup ?hl ?_; (case hl => (with_unfolding_all first | exact Nat.le_of_ble_eq_true rfl | decide)); (with_unfolding_all walk_at "al")) | (refine' Sg.r_klst ?hl ?_; (case hl => (with_unfolding_all first | exact Nat.le_of_ble_eq_true rfl | decide)); (with_unfolding_all walk_at "al")) | (refine' Sg.r_listl ?h ?_; (case h => (with_unfolding_all walk_at "hp")); (with_unfolding_all walk_at "al")) | (refine' Sg.r_listt ?h ?_; (case h => (with_unfolding_all walk_at "hp")); (with_unfolding_all walk_at "al")) | (refine' Sg.r_tupl ?h ?_; (case h => (with_unfolding_all walk_at "hp")); (with_unfolding_all walk_at "al")) | (refine' Sg.r_tupt ?h ?_; (case h => (with_unfolding_all walk_at "hp"))) | (refine' Sg.r_in (.inr ?h) ?fx ?fs ?_; (case h => (with_unfolding_all walk_at "hp")); (case fx => (with_unfolding_all rfl)); (case fs => (with_unfolding_all rfl))) | (refine' Sg.r_in (.inl ?h) ?fx ?fs ?_; (case h => (with_unfolding_all walk_at "hp")); (case fx => (with_unfolding_all rfl)); (case fs => (with_unfolding_all rfl))) | (refine' Sg.r_sorted ?h ?h64 ?_; (case h => (with_unfolding_all walk_at "hp")); (case h64 => (with_unfolding_all walk_at "side")); (intro ns' p perm rising; revert p; (with_unfolding_all walk_at "al"))) | (refine' Sg.r_app ?h ?hl ?_; (case h => (with_unfolding_all walk_at "hp")); (case hl => (with_unfolding_all walk_at "size")); (with_unfolding_all walk_at "up")) | refine' Sg.r_lc ?_ | refine' Sg.r_for ?_ | refine' Sg.r_irng1 ?_ | refine' Sg.r_irng2 ?_ | refine' Sg.r_ilist ?_ | refine' Sg.r_itup ?_ | (refine' Sg.r_kR1 ?h1 ?h2 ?_; (case h1 => (with_unfolding_all walk_at "side")); (case h2 => (with_unfolding_all walk_at "side"))) | (refine' Sg.r_kR2 ?h1 ?_; (case h1 => (with_unfolding_all refine ⟨?_, ?_, ?_, ?_⟩ <;> walk_at "side"))) | (refine' Sg.r_kIl ?h ?_; (case h => (with_unfolding_all walk_at "hp"))) | (refine' Sg.r_kIt ?h ?_; (case h => (with_unfolding_all walk_at "hp"))) | refine' Sg.r_bm ?_ | refine' Sg.r_bm0 ?_ | (refine' Sg.r_tyl ?h ?_; (case h => (with_unfolding_all walk_at "hp"))) | refine' Sg.r_nonR ?_ | refine' Sg.r_nonN ?_ | refine' Sg.r_isR ?_ | refine' Sg.r_isNN ?_ | refine' Sg.r_nonI ?_ | refine' Sg.r_isI ?_ | refine' L2.iteT ?_ | refine' L2.iteF ?_ | refine' Sg.r_gcons ?_ | refine' Sg.r_gnil ?_ | refine' Sg.r_gsub ?_ | refine' Sg.r_isb ?_ | refine' Sg.r_notb ?_ | (refine' Sg.r_aug (by with_unfolding_all rfl) ?_) | refine' Sg.r_ipI ?_ | (refine' Sg.r_isi (b := true) (L2.ClsV.ty _) ?ht ?hk ?_; (case ht => (with_unfolding_all walk_at "tyx")); (case hk => (with_unfolding_all exact L2.kit_ty (by decide +kernel)))) | (refine' Sg.r_isi (b := false) (L2.ClsV.ty _) ?ht ?hk ?_; (case ht => (with_unfolding_all walk_at "tyx")); (case hk => (with_unfolding_all exact L2.kit_ty (by decide +kernel)))) | refine' Sg.r_gmap ?_ | refine' Sg.r_gmapn ?_ | (refine' Sg.r_iteb ?hb ?_; (case hb => (with_unfolding_all rfl))) | (refine' Sg.r_iteB ?hb ?_; (case hb => (with_unfolding_all rfl)))))
local macro_rules | `(tactic| walk_at "rd") => `(tactic| repeat walk_at "rd1")
local macro_rules | `(tactic| walk_at "rdo") => `(tactic| repeat (first | walk_at "rd1" | (with_reducible refine' Sg.r_iteD ?hc ?_; (case hc => first | assumption | omega)) | (with_reducible refine' Sg.r_iteDn ?hc ?_; (case hc => first | assumption | omega)) | (with_reducible refine' Sg.r_iteND ?hc ?_; (case hc => first | assumption | omega)) | (with_reducible refine' Sg.r_iteNDn ?hc ?_; (case hc => first | assumption | omega))))
local macro_rules | `(tactic| walk_at "rd1") => `(tactic| with_reducible (first | refine' Sg.r_sl ?_ | refine' Sg.r_noP ?_ | refine' Sg.r_part ?_ | refine' Sg.r_kPart ?_ | (refine' Sg.r_slL ?h ?_; (case h => (with_unfolding_all walk_at "hp")); (with_unfolding_all walk_at "al"))))
-- imports: HandS.NoneIn HandS.Defaults HandS.TupMul HandS.Zip HandS.SetFor HandS.SetKeys HandS.Walk KE.GoesEnum PyProof.ConsumeWalk
section
variable {P : Program} {w : World} {K : PySem.W.Frag} {mg : Str → Option Value} {base : Heap}
/-! ### numbers drawn from the script -/
def sp_row (K : PySem.W.Frag) : Sp := fun vs H Q _ => ∃ (a : Addr) (ns : List Int) (k : Int), vs = [.ref a, .int k] ∧ SqL K H a (ns.map V.int) ∧ ns.length ≤ 63 ∧ 0 ≤ k ∧ k ≤ 1000 ∧ ∀ z : Int, 0 ≤ z → Q (.int z) H
theorem ok_law_row (T : Txt K mg) : FnOk P w K mg base CX0 1 T.a_law_row T.fd_law_row ["script", "k"] (sp_row K) := by
  refine T.F_law_row.ok sc_law_row (fun vs H Q E h => ?_) (fun cdv A outer s H vs Q E hr h => ?_)
  · obtain ⟨a, ns, k, rfl, _⟩ := h
    rfl
  · refine ⟨_, (pss_cons (ps_set (i := 2) sc_law_row.nd rfl (Or.inl rfl) pe_int)
       (C8.pss_cut (ps_if (pt_cmpR op_gt (pe_callB (c_len) (by rfl) T.n_len (by decide +kernel) (pa_cons (pv 0) pa_nil)) pe_int (nomark _))
       (pss_one (ps_set (i := 2) sc_law_row.nd rfl (Or.inl rfl) (pe_ix ix_list (pv 0) (pe_op op_mod (pe_callTy c_int (by rfl) T.n_int (by decide +kernel) (pa_cons (pv 1) pa_nil)) (pe_callB (c_len) (by rfl) T.n_len (by decide +kernel) (pa_cons (pv 0) pa_nil))) (fun _ _ => rfl))))
       pss_nil)
       (C8.pss_cut (ps_if (pt_cmpR op_lt (pv 2) pe_int (nomark _))
       (pss_one (ps_set (i := 2) sc_law_row.nd rfl (Or.inl rfl) (pe_op op_sub pe_int (pe_op op_mul pe_int (pv 2)))))
       pss_nil)
       (C8.pss_cut (ps_if (PW.pt (pw_and (pt_cmpR op_ge (pv 2) (pe_op op_pow pe_int pe_int) (nomark _)) (pw_and1 (pt_cmpR op_lt (pv 1) (pe_callB (c_len) (by rfl) T.n_len (by decide +kernel) (pa_cons (pv 0) pa_nil)) (nomark _)))))
       (pss_one (ps_ret (pv 2)))
       pss_nil)
       (pss_cons (ps_set (i := 3) sc_law_row.nd rfl (Or.inl rfl) (pe_op op_mod (pe_callTy c_int (by rfl) T.n_int (by decide +kernel) (pa_cons (pe_op op_add (pe_op op_add (pe_op op_mul (pv 2) pe_int) (pe_op op_mul (pe_op op_add (pv 1) pe_int) pe_int)) (pe_callB (c_len) (by rfl) T.n_len (by decide +kernel) (pa_cons (pv 0) pa_nil))) pa_nil)) pe_int))
       (pss_cons (ps_set (i := 4) sc_law_row.nd rfl (Or.inl rfl) (pe_op op_mod (pe_callTy c_int (by rfl) T.n_int (by decide +kernel) (pa_cons (pe_op op_add (pe_op op_add (pe_op op_mul (pv 3) (pv 3)) (pe_op op_mul (pv 2) pe_int)) (pv 1)) pa_nil)) pe_int))
       (pss_one (ps_ret (pe_op op_add (pe_op op_mul (pv 4) pe_int) (pe_op op_mod (pe_callTy c_int (by rfl) T.n_int (by decide +kernel) (pa_cons (pe_op op_mul (pv 3) pe_int) pa_nil)) pe_int)))))))))), ?_⟩
    try dsimp only [cxOf, Cx.nox, Cx.wish]
    obtain ⟨a, ns, k, rfl, hS, h63, k0, k1, q⟩ := h
    walk_at "rd"
    refine r_cut (fun σ' H' => ∃ z : Int, σ' = [some (.ref a), some (.int k), some (.int z), none, none] ∧ H = H') ?_ ?_
    · walk_at "rd"
      refine r_ite (fun hlen => ?_) (fun _ => ?_)
      · rw [List.length_map] at hlen
        walk_at "rd"
        rename_i z hz z0 z1
        rw [List.length_map] at z1
        refine r_ixl hS (v := .int (ns.getD z.toNat 0)) ?_ ?_
        · obtain ⟨n, rfl⟩ := Int.eq_ofNat_of_zero_le z0
          refine atI_nat ?_
          have hn : n < ns.length := by omega
          rw [List.getElem?_map, List.getElem?_eq_getElem hn, List.getD_eq_getElem?_getD, Int.toNat_natCast, List.getElem?_eq_getElem hn]
          rfl
        · walk_at "rd"
          exact ⟨_, rfl, rfl⟩
      · exact ⟨0, rfl, rfl⟩
    · rintro _ _ ⟨z, rfl, rfl⟩
      walk_at "rd"
      refine r_cut (fun σ' H' => ∃ z : Int, 0 ≤ z ∧ σ' = [some (.ref a), some (.int k), some (.int z), none, none] ∧ H = H') ?_ ?_
      · walk_at "rd"
        refine r_ite (fun _ => ?_) (fun _ => ?_)
        · walk_at "rd"
          exact ⟨_, by omega, rfl, rfl⟩
        · exact ⟨_, by omega, rfl, rfl⟩
      · rintro _ _ ⟨y, y0, rfl, rfl⟩
        walk_at "rd"
        refine r_cutS ?_ ?_
        · walk_at "rd"
          refine r_ite (fun _ => ?_) (fun _ => ?_)
          · walk_at "rd"
            refine r_ite (fun _ => ?_) (fun _ => ?_)
            · walk_at "rd"
              exact q _ y0
            · exact ⟨rfl, rfl⟩
          · walk_at "rd"
            exact ⟨rfl, rfl⟩
        · walk_at "rd"
          exact q _ (by omega)
/-- digits by their sizes -/
abbrev Digs (ds ss : List Int) : Prop := Paired (fun (d s : Int) => 0 ≤ d ∧ d < s) ds ss
def sp_digits (K : PySem.W.Frag) : Sp := fun vs H Q _ => ∃ (r : Int) (l : Addr) (ss : List Int), vs = [.int r, .ref l] ∧ SqL K H l (ss.map V.int) ∧ ss.length ≤ 1000 ∧ (∀ s ∈ ss, 0 < s ∧ s < 1073741824) ∧
  ∀ H' d (ds : List Int), Same H H' → H d = none → H' d = some (.lst (ds.map V.int)) → Digs ds ss → Q (.ref d) H'
theorem paired_snoc {α β : Type} {F : α → β → Prop} : ∀ {xs : List α} {ys : List β} {x : α} {y : β}, Paired F xs ys → F x y → Paired F (xs ++ [x]) (ys ++ [y])
  | _, _, _, _, .nil, h => .cons h .nil
  | _, _, _, _, .cons r t, h => .cons r (paired_snoc t h)
theorem ok_law_digits (T : Txt K mg) : FnOk P w K mg base CX0 1 T.a_law_digits T.fd_law_digits ["row", "sizes"] (sp_digits K) := by
  refine T.F_law_digits.ok sc_law_digits (fun vs H Q E h => ?_) (fun cdv A outer s H vs Q E hr h => ?_)
  · obtain ⟨r, l, ss, rfl, _⟩ := h
    rfl
  · refine ⟨_, (pss_cons (ps_set (i := 2) sc_law_digits.nd rfl (Or.inl rfl) (pe_lst pa_nil))
       (pss_cons (ps_for PassesOwn.never rfl (pi_list (pv 1)) (pg_name (i := 3) sc_law_digits.nd rfl (Or.inl rfl))
       (pss_cons (ps_expr (pe_bm PySem.F.plainAttrs_list PySem.F.slot_list_append PySem.F.type_list_append mt_append (pv 2) (pa_cons (pe_op op_mod (pe_callTy c_int (by rfl) T.n_int (by decide +kernel) (pa_cons (pv 0) pa_nil)) (pv 3)) pa_nil)))
       (pss_one (ps_set (i := 0) sc_law_digits.nd rfl (Or.inl rfl) (pe_op op_fdiv (pv 0) (pv 3))))))
       (pss_one (ps_ret (pv 2))))), ?_⟩
    try dsimp only [cxOf, Cx.nox, Cx.wish]
    obtain ⟨r, l, ss, rfl, hS, hlen, hss, q⟩ := h
    walk_at "rd"
    rename_i p hn H1 s1 h1
    refine r_forL (xs := ss.map V.int) (fun i σ' H' => ∃ (z : Int) (ds : List Int) (v : Option V), σ' = [some (.int z), some (.ref l), some (.ref p), v] ∧ Same H H' ∧ H' p = some (.lst (ds.map V.int)) ∧ Digs ds (ss.take i)) ?_ ?_ ?_ ?_
    · exact ⟨r, [], none, rfl, s1, h1, .nil⟩
    · rintro i σ' H' _ ⟨z, ds, v, rfl, s2, h2, hd⟩
      exact s2.seq hS
    · rintro i x σ' H' hx ⟨z, ds, v, rfl, s2, h2, hd⟩
      rw [List.getElem?_map] at hx
      obtain ⟨y, hy, rfl⟩ := Option.map_eq_some_iff.mp hx
      obtain ⟨y0, y1⟩ := hss y (List.mem_of_getElem? hy)
      have hdl : ds.length ≤ 1000 := by
        rw [Paired.length hd, List.length_take]
        omega
      walk_at "rd"
      rename_i d hd1 d0 d1 H3 e3 h3
      refine ⟨_, ds ++ [d], _, rfl, Sg.Same.old s2 hn e3, ?_, ?_⟩
      · rw [h3, List.map_append]
        rfl
      · have e : ss.take (i + 1) = ss.take i ++ [y] := by rw [List.take_add_one, hy]; rfl
        rw [e]
        exact paired_snoc hd ⟨d0, d1⟩
    · rintro σ' H' ⟨z, ds, v, rfl, s2, h2, hd⟩
      rw [List.length_map, List.take_length] at hd
      walk_at "rd"
      exact q _ _ _ s2 hn h2 hd
def sp_parts_of : Sp := fun vs H Q _ => ∃ n s : Int, vs = [.int n, .int s] ∧ 0 < s ∧ s < 1073741824 ∧ Q (.int ((n + s - 1) / s)) H
theorem ok_parts_of (T : Txt K mg) : FnOk P w K mg base CX0 1 T.a_parts_of T.fd_parts_of ["number", "size"] sp_parts_of := by
  refine T.F_parts_of.ok sc_parts_of (fun vs H Q E h => ?_) (fun cdv A outer s H vs Q E hr h => ?_)
  · obtain ⟨n, s, rfl, _⟩ := h
    rfl
  · refine ⟨_, (pss_one (ps_ret (pe_op op_fdiv (pe_op op_sub (pe_op op_add (pv 0) (pv 1)) pe_int) (pv 1)))), ?_⟩
    try dsimp only [cxOf, Cx.nox, Cx.wish]
    obtain ⟨n, s, rfl, h1, h2, q⟩ := h
    walk_at "rd"
    exact q
/-! ### layouts -/
/-- the numbers of a layout -/
structure Lay where
  seg : Int
  blk : Int
  size : Int
  pay : Int
  lim : Int
  last : Int
  fan : Int
  reg : Int
  dev : Int
def layOf (s b z : Int) : Lay := ⟨s, b, z, b - 1, (s - 2) * (b - 1), (s - 2) * (b - 1) + (b - 1), z / 2, (2 * (4 * ((s - 2) * (b - 1) + (b - 1)) + 6 + s) + z - 1) / z, 2 * ((2 * (4 * ((s - 2) * (b - 1) + (b - 1)) + 6 + s) + z - 1) / z) + s * b⟩
/-- three sizes that a layout can have -/
structure Fits (s b z : Int) : Prop where
  s0 : 4 ≤ s
  s1 : s ≤ 16
  b0 : 16 ≤ b
  b1 : b ≤ 32
  zz : z = 64 ∨ z = 128 ∨ z = 256
  fit : 16 + 2 * (b - 1) + ((s - 2) * (b - 1) + (b - 1) + 8 - 1) / 8 ≤ z
/-- the fields of a layout -/
structure LayFs (L : Lay) (fs : List (Str × V)) : Prop where
  seg : fs.lookup ("segments" : Str) = some (V.int L.seg)
  blk : fs.lookup ("segment_blocks" : Str) = some (V.int L.blk)
  size : fs.lookup ("block_size" : Str) = some (V.int L.size)
  pay : fs.lookup ("payload" : Str) = some (V.int L.pay)
  lim : fs.lookup ("limit" : Str) = some (V.int L.lim)
  last : fs.lookup ("last_id" : Str) = some (V.int L.last)
  fan : fs.lookup ("fan" : Str) = some (V.int L.fan)
  reg : fs.lookup ("region_blocks" : Str) = some (V.int L.reg)
  dev : fs.lookup ("device_blocks" : Str) = some (V.int L.dev)
def LayAt (C : Addr) (L : Lay) (H : Hp) (p : Addr) : Prop := ∃ dx fs, H p = some (.ins C dx fs) ∧ LayFs L fs
theorem LayAt.mono {C : Addr} {L : Lay} {H H' : Hp} {p : Addr} (s : Same H H') (h : LayAt C L H p) : LayAt C L H' p := by
  obtain ⟨dx, fs, h1, h2⟩ := h
  exact ⟨dx, fs, s _ _ h1, h2⟩
def sp_layout (C : Addr) : Sp := fun vs H Q _ => ∃ (p dx : Addr) (s b z : Int), vs = [.ref p, .int s, .int b, .int z] ∧ H p = some (.ins C dx []) ∧ Fits s b z ∧
  ∀ H' fs, (∀ q, q ≠ p → H' q = H q) → H' p = some (.ins C dx fs) → LayFs (layOf s b z) fs → Q .non H'
theorem in_sizes {z : Int} (h : z = 64 ∨ z = 128 ∨ z = 256) : (!inV (V.int z) [V.int 64, V.int 128, V.int 256]) = false := by
  rcases h with rfl | rfl | rfl <;> decide
theorem keep1 {H H1 H' : Hp} {p : Addr} {o : HO} (h : ∀ q, q ≠ p → H1 q = H q) (e : upd H1 p o = H') : ∀ q, q ≠ p → H' q = H q := fun q hq => by
  rw [← e, upd_ne hq]
  exact h q hq
theorem ok_Layout___init (T : Txt K mg) : FnOk P w K mg base CX0 2 T.a_Layout___init T.fd_Layout___init ["self", "segments", "segment_blocks", "block_size"] (sp_layout T.A_Layout) := by
  refine T.F_Layout___init.ok sc_Layout___init (fun vs H Q E h => ?_) (fun cdv A outer s H vs Q E hr h => ?_)
  · obtain ⟨p, dx, s, b, z, rfl, _⟩ := h
    rfl
  · refine ⟨_, (pss_cons (ps_if (pt_not (pt_chain op_le op_le pe_int (pv 1) pe_int))
       (pss_one ps_never)
       pss_nil)
       (pss_cons (ps_if (pt_not (pt_chain op_le op_le pe_int (pv 2) pe_int))
       (pss_one ps_never)
       pss_nil)
       (pss_cons (ps_if (pt_cmpR op_notIn_seq (pv 3) (pe_glob rfl T.c_BLOCK_SIZES T.r_BLOCK_SIZES) (by with_unfolding_all rfl))
       (pss_one ps_never)
       pss_nil)
       (pss_cons (ps_fld (pv 0) (pv 1) rfl)
       (pss_cons (ps_fld (pv 0) (pv 2) rfl)
       (pss_cons (ps_fld (pv 0) (pv 3) rfl)
       (pss_cons (ps_fld (pv 0) (pe_op op_sub (pv 2) pe_int) rfl)
       (pss_cons (ps_fld (pv 0) (pe_op op_mul (pe_op op_sub (pv 1) pe_int) (pe_fld (pv 0) rfl)) rfl)
       (pss_cons (ps_fld (pv 0) (pe_op op_add (pe_fld (pv 0) rfl) (pe_fld (pv 0) rfl)) rfl)
       (pss_cons (ps_fld (pv 0) (pe_op op_fdiv (pv 3) pe_int) rfl)
       (pss_cons (ps_fld (pv 0) (pe_call (ok_parts_of T) (hr.mono (by decide)) rfl T.m_parts_of T.F_parts_of.kp T.b_parts_of .nil pass0 (pa_cons (pe_op op_mul pe_int (pe_op op_add (pe_op op_add (pe_op op_mul pe_int (pe_fld (pv 0) rfl)) pe_int) (pv 1))) (pa_cons (pv 3) pa_nil))) rfl)
       (pss_cons (ps_fld (pv 0) (pe_op op_add (pe_op op_mul pe_int (pe_fld (pv 0) rfl)) (pe_op op_mul (pv 1) (pv 2))) rfl)
       (pss_one (ps_if (pt_cmpR op_gt (pe_op op_add (pe_op op_add (pe_glob rfl T.c_SUMMARY_HEAD T.r_SUMMARY_HEAD) (pe_op op_mul pe_int (pe_fld (pv 0) rfl))) (pe_call (ok_parts_of T) (hr.mono (by decide)) rfl T.m_parts_of T.F_parts_of.kp T.b_parts_of .nil pass0 (pa_cons (pe_fld (pv 0) rfl) (pa_cons pe_int pa_nil)))) (pv 3) (nomark _))
       (pss_one ps_never)
       pss_nil)))))))))))))), ?_⟩
    try dsimp only [cxOf, Cx.nox, Cx.wish]
    obtain ⟨p, dx, s, b, z, rfl, hp, hF, q⟩ := h
    obtain ⟨s0, s1, b0, b1, hz, fit⟩ := hF
    have cl := T.cl_Layout
    have na1 := T.na_Layout_segments
    have na2 := T.na_Layout_segment_blocks
    have na3 := T.na_Layout_block_size
    have na4 := T.na_Layout_payload
    have na5 := T.na_Layout_limit
    have na6 := T.na_Layout_last_id
    have na7 := T.na_Layout_fan
    have na8 := T.na_Layout_region_blocks
    have na9 := T.na_Layout_device_blocks
    walk_at "rdo"
    refine r_in (.inr (T.v_BLOCK_SIZES _)) rfl rfl ?_
    walk_at "rd"
    refine r_iteB (in_sizes hz) ?_
    walk_at "rdo"
    refine ⟨_, _, rfl, by omega, by omega, ?_⟩
    walk_at "rdo"
    refine ⟨_, _, rfl, by omega, by omega, ?_⟩
    walk_at "rdo"
    refine q _ _ ?kk (by walk_at "hp") ⟨by walk_at "lk", by walk_at "lk", by walk_at "lk", by walk_at "lk", by walk_at "lk", by walk_at "lk", by walk_at "lk", by walk_at "lk", by walk_at "lk"⟩
    case kk =>
      repeat (refine keep1 ?_ (by assumption))
      exact fun _ _ => rfl
/-- the sizes of a law's layout -/
def sp_lawlay (C : Addr) : Sp := fun vs H Q _ => ∃ r : Int, vs = [.int r] ∧ ∀ (s b z : Int) (H' : Hp) (p : Addr), Fits s b z → Same H H' → H p = none → LayAt C (layOf s b z) H' p → Q (.ref p) H'
theorem made_same {H H1 : Hp} {x dx : Addr} {o : HO} (nx : H x = none) (nd : H dx = none) (k : ∀ q, q ≠ x → H1 q = upd (upd H dx (.own x)) x o q) : Same H H1 := fun b u e => by
  rw [k b (ne_of_none e nx), upd_ne (ne_of_none e nx), upd_ne (ne_of_none e nd)]
  exact e
theorem ok_law_layout (T : Txt K mg) : FnOk P w K mg base CX0 4 T.a_law_layout T.fd_law_layout ["row"] (sp_lawlay T.A_Layout) := by
  refine T.F_law_layout.ok sc_law_layout (fun vs H Q E h => ?_) (fun cdv A outer s H vs Q E hr h => ?_)
  · obtain ⟨r, rfl, _⟩ := h
    rfl
  · refine ⟨_, (pss_cons (ps_asg (pe_call (ok_law_digits T) (hr.mono (by decide)) rfl T.m_law_digits T.F_law_digits.kp T.b_law_digits .nil pass0 (pa_cons (pv 0) (pa_cons (pe_lst (pa_cons pe_int (pa_cons pe_int (pa_cons pe_int (pa_cons pe_int (pa_cons pe_int pa_nil)))))) pa_nil))) (pg_unl (by rfl) (pgs_cons (pg_name (i := 1) sc_law_layout.nd rfl (Or.inl rfl)) (pgs_cons (pg_name (i := 2) sc_law_layout.nd rfl (Or.inl rfl)) (pgs_cons (pg_name (i := 3) sc_law_layout.nd rfl (Or.inl rfl)) (pgs_cons (pg_name (i := 4) sc_law_layout.nd rfl (Or.inl rfl)) (pgs_cons (pg_name (i := 5) sc_law_layout.nd rfl (Or.inl rfl)) pgs_nil)))))))
       (C8.pss_cut (ps_if (pt_cmpR op_eq (pv 1) pe_int (nomark _))
       (pss_cons (ps_set (i := 4) sc_law_layout.nd rfl (Or.inl rfl) (pe_op op_add pe_int (pv 4)))
       (pss_cons (ps_set (i := 5) sc_law_layout.nd rfl (Or.inl rfl) (pe_op op_add pe_int (pv 5)))
       (pss_one (ps_set (i := 3) sc_law_layout.nd rfl (Or.inl rfl) (pe_ix ix_list (pe_lst (pa_cons pe_int (pa_cons pe_int (pa_cons pe_int pa_nil)))) (pv 3) (fun _ _ => rfl))))))
       (pss_cons (ps_set (i := 4) sc_law_layout.nd rfl (Or.inl rfl) (pe_op op_add pe_int (pe_op op_mul (pv 2) (pe_op op_fdiv (pv 1) pe_int))))
       (pss_cons (ps_set (i := 5) sc_law_layout.nd rfl (Or.inl rfl) pe_int)
       (pss_one (ps_set (i := 3) sc_law_layout.nd rfl (Or.inl rfl) pe_int)))))
       (pss_cons (ps_set (i := 6) sc_law_layout.nd rfl (Or.inl rfl) (pe_op op_mul (pe_op op_sub (pv 4) pe_int) (pe_op op_sub (pv 5) pe_int)))
       (pss_cons (ps_if (pt_cmpR op_gt (pe_op op_add (pe_op op_add pe_int (pe_op op_mul pe_int (pe_op op_sub (pv 5) pe_int))) (pe_op op_fdiv (pe_op op_add (pv 6) pe_int) pe_int)) (pv 3) (nomark _))
       (pss_one (ps_ret (pe_make T.M_Layout (ok_Layout___init T) (hr.mono (by decide)) rfl T.m_Layout T.b_Layout___init .nil pass0 (pa_cons pe_int (pa_cons pe_int (pa_cons pe_int pa_nil))))))
       pss_nil)
       (pss_one (ps_ret (pe_make T.M_Layout (ok_Layout___init T) (hr.mono (by decide)) rfl T.m_Layout T.b_Layout___init .nil pass0 (pa_cons (pv 4) (pa_cons (pv 5) (pa_cons (pv 3) pa_nil)))))))))), ?_⟩
    try dsimp only [cxOf, Cx.nox, Cx.wish]
    obtain ⟨r, rfl, q⟩ := h
    walk_at "rd"
    refine ⟨_, _, [4, 3, 3, 13, 17], rfl, by walk_at "hp", by decide, by decide, fun H1 d ds s1 n1 h1 hd => ?_⟩
    obtain _ | ⟨⟨c0, c1⟩, _ | ⟨⟨m0, m1⟩, _ | ⟨⟨z0, z1⟩, _ | ⟨⟨g0, g1⟩, _ | ⟨⟨b0, b1⟩, _ | _⟩⟩⟩⟩⟩ := hd
    rename_i choice more size segments blocks
    walk_at "rd"
    refine r_cut (fun σ' H' => ∃ s b z : Int, 4 ≤ s ∧ s ≤ 16 ∧ 16 ≤ b ∧ b ≤ 32 ∧ (z = 64 ∨ z = 128 ∨ z = 256) ∧ σ' = [some (.int r), some (.int choice), some (.int more), some (.int z), some (.int s), some (.int b), none] ∧ Same H1 H') ?_ ?_
    · walk_at "rd"
      refine r_ite (fun e => ?_) (fun _ => ?_)
      · walk_at "rd"
        have e3 : size = 0 ∨ size = 1 ∨ size = 2 := by omega
        rcases e3 with rfl | rfl | rfl
        · refine r_ixl (by walk_at "hp") rfl ?_
          walk_at "rd"
          exact ⟨_, _, _, by omega, by omega, by omega, by omega, .inl rfl, rfl, by walk_at "sm"⟩
        · refine r_ixl (by walk_at "hp") rfl ?_
          walk_at "rd"
          exact ⟨_, _, _, by omega, by omega, by omega, by omega, .inr (.inl rfl), rfl, by walk_at "sm"⟩
        · refine r_ixl (by walk_at "hp") rfl ?_
          walk_at "rd"
          exact ⟨_, _, _, by omega, by omega, by omega, by omega, .inr (.inr rfl), rfl, by walk_at "sm"⟩
      · walk_at "rd"
        have hc : choice / 2 = 0 ∨ choice / 2 = 1 := by omega
        rcases hc with hc | hc <;> rw [hc] <;> exact ⟨_, _, _, by omega, by omega, by omega, by omega, .inl rfl, rfl, by walk_at "sm"⟩
    rintro _ H2 ⟨s, b, z, s0, s1', b0', b1', hz, rfl, s2⟩
    walk_at "rd"
    have en : (s - 2) * (b - 1) + (b - 1) = (s - 1) * (b - 1) := by
      have e : s - 1 = (s - 2) + 1 := by omega
      rw [e, Int.add_mul, Int.one_mul]
    refine r_ite (fun _ => ?_) (fun hle => ?_)
    · walk_at "rd"
      intro x dx nx nd ne
      have hF : Fits 4 16 64 := ⟨by decide, by decide, by decide, by decide, .inl rfl, by decide⟩
      refine ⟨x, dx, _, _, _, rfl, upd_same, hF, fun H3 fs k h3 hL => ⟨rfl, ?_⟩⟩
      have s3 := made_same nx nd k
      exact q _ _ _ _ _ hF (by walk_at "sm") (by walk_at "nn") ⟨_, _, h3, hL⟩
    · walk_at "rd"
      intro x dx nx nd ne
      have hF : Fits s b z := ⟨s0, s1', b0', b1', hz, by rw [en]; omega⟩
      refine ⟨x, dx, _, _, _, rfl, upd_same, hF, fun H3 fs k h3 hL => ⟨rfl, ?_⟩⟩
      have s3 := made_same nx nd k
      exact q _ _ _ _ _ hF (by walk_at "sm") (by walk_at "nn") ⟨_, _, h3, hL⟩

/-! ### a drawn table -/
def sp_table (C : Addr) : Sp := fun vs H Q _ => ∃ (p : Addr) (L : Lay) (r m : Int), vs = [.ref p, .int r, .int m] ∧ LayAt C L H p ∧ 1 ≤ L.last ∧ L.last ≤ 1000 ∧ 0 < m ∧ m < 1073741824 ∧
  ∀ (H' : Hp) (t : Addr) (ts : List Int), Same H H' → H t = none → H' t = some (.lst (ts.map V.int)) → (ts.length : Int) = L.last + 1 → (∀ z ∈ ts, 0 ≤ z ∧ z < m) → ts[0]? = some 0 → Q (.ref t) H'
theorem ok_law_table (T : Txt K mg) : FnOk P w K mg base CX0 2 T.a_law_table T.fd_law_table ["layout", "row", "most"] (sp_table T.A_Layout) := by
  refine T.F_law_table.ok sc_law_table (fun vs H Q E h => ?_) (fun cdv A outer s H vs Q E hr h => ?_)
  · obtain ⟨p, L, r, m, rfl, _⟩ := h
    rfl
  · refine ⟨_, (pss_cons (ps_set (i := 3) sc_law_table.nd rfl (Or.inl rfl) (pe_op op_rep (pe_lst (pa_cons pe_int pa_nil)) (pe_op op_add (pe_fld (pv 0) rfl) pe_int)))
       (pss_cons (ps_asg (pe_call (ok_law_digits T) (hr.mono (by decide)) rfl T.m_law_digits T.F_law_digits.kp T.b_law_digits .nil pass0 (pa_cons (pv 1) (pa_cons (pe_lst (pa_cons (pv 2) (pa_cons (pv 2) (pa_cons (pe_op op_add (pe_fld (pv 0) rfl) pe_int) pa_nil)))) pa_nil))) (pg_unl (by rfl) (pgs_cons (pg_name (i := 4) sc_law_table.nd rfl (Or.inl rfl)) (pgs_cons (pg_name (i := 5) sc_law_table.nd rfl (Or.inl rfl)) (pgs_cons (pg_name (i := 6) sc_law_table.nd rfl (Or.inl rfl)) pgs_nil)))))
       (pss_cons (ps_for PassesOwn.never rfl (pi_range2 rfl T.n_range (pa_cons pe_int (pa_cons (pe_op op_add (pe_fld (pv 0) rfl) pe_int) pa_nil))) (pg_name (i := 7) sc_law_table.nd rfl (Or.inl rfl))
       (pss_one (ps_if (pt_cmpR op_lt (pe_op op_mod (pe_callTy c_int (by rfl) T.n_int (by decide +kernel) (pa_cons (pe_op op_add (pe_op op_mul (pv 7) pe_int) (pv 5)) pa_nil)) (pe_op op_add (pe_fld (pv 0) rfl) pe_int)) (pv 6) (nomark _))
       (pss_one (ps_asg (pe_op op_mod (pe_callTy c_int (by rfl) T.n_int (by decide +kernel) (pa_cons (pe_op op_add (pv 5) (pe_op op_mul (pv 7) (pe_op op_add (pv 4) pe_int))) pa_nil)) (pv 2)) (pg_sub (pv 3) (pv 7) set_list)))
       pss_nil)))
       (pss_one (ps_ret (pv 3)))))), ?_⟩
    try dsimp only [cxOf, Cx.nox, Cx.wish]
    obtain ⟨p, L, r, m, rfl, ⟨dx, fs, hp, hL⟩, l0, l1, m0, m1, q⟩ := h
    have cl := T.cl_Layout
    have na := T.na_Layout_last_id
    have lk := hL.last
    walk_at "rd"
    refine r_rep (by walk_at "hp") (by omega) (by omega) ?_ ?_
    · show 1 * _ ≤ sizeLine
      rw [sz]
      omega
    rw [rep_ints]
    walk_at "al"
    walk_at "rd"
    refine ⟨_, _, [m, m, L.last + 1], rfl, by walk_at "hp", by simp, ?_, fun H1 d ds s1 n1 h1 hd => ?_⟩
    · intro s hs
      simp only [List.mem_cons, List.not_mem_nil, or_false] at hs
      rcases hs with rfl | rfl | rfl <;> omega
    obtain _ | ⟨⟨a0, a1⟩, _ | ⟨⟨b0, b1⟩, _ | ⟨⟨c0, c1⟩, _ | _⟩⟩⟩ := hd
    rename_i pt hn Ht st ht _ _ _ _ _ step start many
    walk_at "rd"
    refine r_forR (fun i σ' H' => ∃ (v : Option V) (ts : List Int), σ' = [some (.ref p), some (.int r), some (.int m), some (.ref pt), some (.int step), some (.int start), some (.int many), v] ∧ Same H H' ∧ H' pt = some (.lst (ts.map V.int)) ∧ (ts.length : Int) = L.last + 1 ∧ (∀ z ∈ ts, 0 ≤ z ∧ z < m) ∧ ts[0]? = some 0) ?_ ?_ ?_
    · refine ⟨_, List.replicate (L.last + 1).toNat 0, rfl, by walk_at "sm", by walk_at "hp", ?_, ?_, ?_⟩
      · rw [List.length_replicate]
        omega
      · intro z hz
        rw [List.eq_of_mem_replicate hz]
        omega
      · rw [List.getElem?_replicate, if_pos (by omega)]
    · rintro i σ' H' hi ⟨v, ts, rfl, s2, h2, e2, k2, z2⟩
      walk_at "rd"
      refine r_ite (fun _ => ?_) (fun _ => ?_)
      · walk_at "rd"
        rename_i z hz z0 z1
        refine r_setl h2 (ixN_ok (by omega) (by rw [List.length_map]; omega)) ?_
        rw [set_ints]
        generalize hH : upd _ _ _ = H2
        refine ⟨_, ts.set _ z, rfl, Sg.Same.old s2 (by walk_at "nn") hH, Sg.at_new hH, ?_, ?_, ?_⟩
        · rw [List.length_set]
          exact e2
        · intro y hy
          rcases List.mem_or_eq_of_mem_set hy with hy | rfl
          · exact k2 y hy
          · exact ⟨z0, z1⟩
        · rw [List.getElem?_set, if_neg (by omega)]
          exact z2
      · exact ⟨_, ts, rfl, s2, h2, e2, k2, z2⟩
    · rintro σ' H' ⟨v, ts, rfl, s2, h2, e2, k2, z2⟩
      walk_at "rd"
      exact q _ _ ts s2 (by walk_at "nn") h2 e2 k2 z2

theorem Fits.last {s b z : Int} (h : Fits s b z) : 45 ≤ (layOf s b z).last ∧ (layOf s b z).last ≤ 465 := by
  obtain ⟨s0, s1, b0, b1, _, _⟩ := h
  show 45 ≤ (s - 2) * (b - 1) + (b - 1) ∧ (s - 2) * (b - 1) + (b - 1) ≤ 465
  have e : (s - 2) * (b - 1) + (b - 1) = (s - 1) * (b - 1) := by
    have e : s - 1 = (s - 2) + 1 := by omega
    rw [e, Int.add_mul, Int.one_mul]
  rw [e]
  have h1 : 3 * (b - 1) ≤ (s - 1) * (b - 1) := Int.mul_le_mul_of_nonneg_right (by omega) (by omega)
  have h2 : (s - 1) * (b - 1) ≤ 15 * (b - 1) := Int.mul_le_mul_of_nonneg_right (by omega) (by omega)
  omega
theorem r_neI {K : PySem.W.Frag} {H : Hp} {a b : Addr} {ns : List Int} {Q : V → Hp → Prop} (ha : SqL K H a (ns.map V.int)) (hb : SqL K H b (ns.map V.int)) (q : Q (.bl false) H) : rNeD K (.ref a) (.ref b) H Q := by
  refine r_ned (Dp.ints ha) (Dp.ints hb) (Fl.intlS ns) (Fl.intlS ns) ?_
  rw [(Fl.intl ns).self]
  exact q
theorem r_eqI {K : PySem.W.Frag} {H : Hp} {a b : Addr} {ns : List Int} {Q : V → Hp → Prop} (ha : SqL K H a (ns.map V.int)) (hb : SqL K H b (ns.map V.int)) (q : Q (.bl true) H) : rEqD K (.ref a) (.ref b) H Q := by
  refine r_eqd (Dp.ints ha) (Dp.ints hb) (Fl.intlS ns) (Fl.intlS ns) ?_
  rw [(Fl.intl ns).self]
  exact q


/-! ### any(xs) of a list of ints -/
theorem truth_intsV {prog : Program} {w : World} {A : Around} {ns : List Int} {its : List Value} (r : Vals (ns.map V.int) its) :
    TruthOf prog w A (fun i v => its.toArray[i]? = some v) (fun i => ns.getD i 0 != 0) := fun i v s Q E hv hq => by
  have hv' : its[i]? = some v := by simpa using hv
  have hi := (List.getElem?_eq_some_iff.mp hv').1
  have hl : (ns.map V.int).length = its.length := r.length
  rw [List.length_map] at hl
  have hx : (ns.map V.int)[i]? = some (V.int (ns.getD i 0)) := by
    rw [List.getElem?_map, List.getElem?_eq_getElem (by omega), List.getD_eq_getElem?_getD, List.getElem?_eq_getElem (by omega)]
    rfl
  obtain ⟨u, hu, ru⟩ := r.get hx
  rw [hv'] at hu
  cases hu
  obtain ⟨t, rfl⟩ := ru
  exact PySem.P.truthy_int hq
theorem any_rangeI : ∀ ns : List Int, (List.range ns.length).any (fun i => ns.getD i 0 != 0) = ns.any (· != 0)
  | [] => rfl
  | b :: bs => by
    rw [List.length_cons, List.range_succ_eq_map, List.any_cons, List.any_map, List.any_cons, ← any_rangeI bs]
    all_goals rfl
def rAnyI (K : PySem.W.Frag) : List V → Hp → VK → Prop := fun vs H Q => ∃ (a : Addr) (ns : List Int), vs = [V.ref a] ∧ SqL K H a (ns.map V.int) ∧ Q (.bl (ns.any (· != 0))) H
theorem cr_anyI {X : Cx} (hc : X.calm = true) : CallR X (.builtin "any") (rAnyI X.K) := by
  intro pins s σ H vs us Q I r h
  obtain ⟨a, ns, rfl, hs, q⟩ := h
  obtain ⟨its, rv, hl, _⟩ := I.list hs
  rw [Vals.ref1 r]
  refine PySem.call_any_walk (iter_any hl.isList fun s₂ e2 st hne => ?_)
  subst e2
  refine ⟨_, _, _, _, _, _, _, rfl, Walks.list (A := X.A.in1) (I.ok.hd hc) _ a hne its.toArray, st, truth_intsV rv, fun h' tk hk => ?_⟩
  refine ⟨.bl _, H, I.kept fun b o eo => hk b o (fun hmem => ?_) (Heap.get?_push_of_some _ eo), ?_, q⟩
  · rcases List.mem_cons.mp hmem with e1 | hmem
    · exact absurd (e1 ▸ Heap.lt_size eo) (Nat.lt_irrefl _)
    · cases hmem
  · show Value.bool _ = Value.bool _
    rw [← any_rangeI, List.size_toArray, ← rv.length, List.length_map]
theorem r_anyI {K : PySem.W.Frag} {H : Hp} {a : Addr} {ns : List Int} {Q : V → Hp → Prop} (h : SqL K H a (ns.map V.int)) (q : Q (.bl (ns.any (· != 0))) H) : rAnyI K [.ref a] H Q := ⟨a, ns, rfl, h, q⟩

/-! ### slices of lists of ints -/
theorem sIx_nn {n d : Nat} {v : Int} (h : 0 ≤ v) : HT.sIx n d (some v) = min v.toNat n := by
  show (if v < 0 then (v + (n : Int)).toNat else min v.toNat n) = _
  rw [if_neg (by omega)]
theorem cut_from {xs : List V} {lo : Int} (h : 0 ≤ lo) : cutV xs (some lo) none = xs.drop lo.toNat := by
  unfold cutV
  rw [sIx_nn h, HT.sIx_none]
  by_cases c : lo.toNat ≤ xs.length
  · rw [Nat.min_eq_left c]
    exact List.take_of_length_le (by rw [List.length_drop]; omega)
  · rw [Nat.min_eq_right (by omega), List.drop_length, List.drop_of_length_le (by omega), List.take_nil]
theorem cut_to {xs : List V} {hi : Int} (h : 0 ≤ hi) : cutV xs none (some hi) = xs.take hi.toNat := by
  unfold cutV
  rw [sIx_nn h, HT.sIx_none, List.drop_zero, Nat.sub_zero]
  by_cases c : hi.toNat ≤ xs.length
  · rw [Nat.min_eq_left c]
  · rw [Nat.min_eq_right (by omega), List.take_length, List.take_of_length_le (by omega)]
theorem cut_both {xs : List V} {lo hi : Int} (h : 0 ≤ lo) (h' : 0 ≤ hi) : cutV xs (some lo) (some hi) = (xs.drop lo.toNat).take (hi.toNat - lo.toNat) := by
  unfold cutV
  rw [sIx_nn h, sIx_nn h']
  by_cases c : lo.toNat ≤ xs.length
  · rw [Nat.min_eq_left c]
    by_cases c2 : hi.toNat ≤ xs.length
    · rw [Nat.min_eq_left c2]
    · rw [Nat.min_eq_right (by omega), List.take_of_length_le (by rw [List.length_drop]; omega), List.take_of_length_le (by rw [List.length_drop]; omega)]
  · rw [Nat.min_eq_right (by omega : xs.length ≤ lo.toNat), List.drop_length, List.drop_of_length_le (by omega), List.take_nil, List.take_nil]

/-! ### the numbers of a checkpoint -/
def flag (l : Nat) (ns : List Int) (j : Nat) : Int := ns.getD (l + j * (l + 1)) 0
def addrs (l : Nat) (ns : List Int) (j : Nat) : List Int := (ns.drop (l + j * (l + 1) + 1)).take l
def Bad (l : Nat) (ns : List Int) (j : Nat) : Prop := flag l ns j > 1 ∨ (flag l ns j = 0 ∧ (addrs l ns j).any (· != 0) = true)
def Tail (l : Nat) (s : Int) (ns : List Int) : Prop := ns.getD (4 * l + 5) 0 > s ∨ (ns.drop (4 * l + 6 + (ns.getD (4 * l + 5) 0).toNat)).any (· != 0) = true
def RdOk (l : Nat) (s : Int) (ns : List Int) : Prop := (∀ j, j < 3 → ¬ Bad l ns j) ∧ ¬ Tail l s ns
/-- a slot's value, by its flag and addresses -/
def SlotV (H : Hp) (v : V) (f : Int) (as : List Int) : Prop := (f = 1 ∧ ∃ a, v = .ref a ∧ H a = some (.lst ((0 :: as).map V.int))) ∨ (f ≠ 1 ∧ v = .non)
theorem SlotV.mono {H H' : Hp} {v : V} {f : Int} {as : List Int} (s : Same H H') (h : SlotV H v f as) : SlotV H' v f as := by
  rcases h with ⟨e, a, rfl, h⟩ | h
  · exact .inl ⟨e, a, rfl, s _ _ h⟩
  · exact .inr h
def sp_read (K : PySem.W.Frag) (C : Addr) : Sp := fun vs H Q _ => ∃ (p a : Addr) (L : Lay) (l : Nat) (ns : List Int), vs = [.ref p, .ref a] ∧ LayAt C L H p ∧ L.last = (l : Nat) ∧ 1 ≤ l ∧ l ≤ 465 ∧ 4 ≤ L.seg ∧ L.seg ≤ 16 ∧ SqL K H a (ns.map V.int) ∧ 4 * l + 6 ≤ ns.length ∧ ns.length ≤ 100000 ∧ (∀ x ∈ ns, 0 ≤ x) ∧
  (¬ RdOk l L.seg ns → ∀ H', Same H H' → Q .non H') ∧
  (RdOk l L.seg ns → ∀ (H' : Hp) (t a0 a1 a4 : Addr) (v0 v1 v2 : V), Same H H' → H' t = some (.tup [.ref a0, .ref a1, .int (ns.getD (4 * l + 3) 0), .int (ns.getD (4 * l + 4) 0), .ref a4]) → H' a0 = some (.lst ((0 :: ns.take l).map V.int)) →
    H' a1 = some (.lst [v0, v1, v2]) → SlotV H' v0 (flag l ns 0) (addrs l ns 0) → SlotV H' v1 (flag l ns 1) (addrs l ns 1) → SlotV H' v2 (flag l ns 2) (addrs l ns 2) → H' a4 = some (.lst (((ns.drop (4 * l + 6)).take (ns.getD (4 * l + 5) 0).toNat).map V.int)) → Q (.ref t) H')
theorem getD_pos {ns : List Int} (h : ∀ x ∈ ns, 0 ≤ x) (i : Nat) : 0 ≤ ns.getD i 0 := by
  rw [List.getD_eq_getElem?_getD]
  cases e : ns[i]? with
  | none => exact Int.le_refl _
  | some x => exact h x (List.mem_of_getElem? e)
theorem drop_map {ns : List Int} (n : Nat) : (ns.map V.int).drop n = (ns.drop n).map V.int := (List.map_drop ..).symm
theorem take_map {ns : List Int} (n : Nat) : (ns.map V.int).take n = (ns.take n).map V.int := (List.map_take ..).symm
theorem mul_lt3 {j l : Nat} (h : j < 3) : j * (l + 1) ≤ 2 * (l + 1) := Nat.mul_le_mul_right _ (by omega)
theorem drop3 {ns : List Int} {n : Nat} (h : n + 3 ≤ ns.length) : (ns.drop n).take 3 = [ns.getD n 0, ns.getD (n + 1) 0, ns.getD (n + 2) 0] := by
  refine List.ext_getElem? fun k => ?_
  rw [List.getElem?_take]
  by_cases c : k < 3
  · rw [if_pos c, List.getElem?_drop, List.getElem?_eq_getElem (by omega)]
    rcases (by omega : k = 0 ∨ k = 1 ∨ k = 2) with rfl | rfl | rfl
    · show _ = some (ns.getD n 0)
      rw [List.getD_eq_getElem?_getD, List.getElem?_eq_getElem (by omega)]
      rfl
    · show _ = some (ns.getD (n + 1) 0)
      rw [List.getD_eq_getElem?_getD, List.getElem?_eq_getElem (by omega)]
      rfl
    · show _ = some (ns.getD (n + 2) 0)
      rw [List.getD_eq_getElem?_getD, List.getElem?_eq_getElem (by omega)]
      rfl
  · rw [if_neg c]
    symm
    exact List.getElem?_eq_none (by simp; omega)
theorem ok_read_numbers (T : Txt K mg) : FnOk P w K mg base CX0 1 T.a_read_numbers T.fd_read_numbers ["layout", "numbers"] (sp_read K T.A_Layout) := by
  refine T.F_read_numbers.ok sc_read_numbers (fun vs H Q E h => ?_) (fun cdv A outer s H vs Q E hr h => ?_)
  · obtain ⟨p, a, L, l, ns, rfl, _⟩ := h
    rfl
  · refine ⟨_, (pss_cons (ps_set (i := 2) sc_read_numbers.nd rfl (Or.inl rfl) (pe_op op_add (pe_fld (pv 0) rfl) pe_int))
       (pss_cons (ps_set (i := 3) sc_read_numbers.nd rfl (Or.inl rfl) (pe_lst pa_nil))
       (pss_cons (ps_for PassesOwn.never rfl (pi_range1 rfl T.n_range (pa_cons (pe_glob rfl T.c_SLOTS T.r_SLOTS) pa_nil)) (pg_name (i := 4) sc_read_numbers.nd rfl (Or.inl rfl))
       (pss_cons (ps_set (i := 5) sc_read_numbers.nd rfl (Or.inl rfl) (pe_op op_add (pe_fld (pv 0) rfl) (pe_op op_mul (pv 4) (pv 2))))
       (pss_cons (ps_set (i := 6) sc_read_numbers.nd rfl (Or.inl rfl) (pe_ix ix_list (pv 1) (pv 5) (fun _ _ => rfl)))
       (pss_cons (ps_set (i := 7) sc_read_numbers.nd rfl (Or.inl rfl) (pe_slice sl_list (pv 1) (po_some (pe_op op_add (pv 5) pe_int)) (po_some (pe_op op_add (pv 5) (pv 2)))))
       (C8.pss_cut (ps_if (PW.pt (pw_or (pt_cmpR op_gt (pv 6) pe_int (nomark _)) (pw_or1 (PW.pt (pw_and (pt_cmpR op_eq (pv 6) pe_int (nomark _)) (pw_and1 (pt_val (pe_callB (cr_anyI rfl) (by rfl) T.n_any (by decide +kernel) (pa_cons (pv 7) pa_nil)))))))))
       (pss_one (ps_ret pe_non))
       pss_nil)
       (pss_one (ps_expr (pe_bm PySem.F.plainAttrs_list PySem.F.slot_list_append PySem.F.type_list_append mt_append (pv 3) (pa_cons (pe_ifExp (pt_cmpR op_eq (pv 6) pe_int (nomark _)) (pe_op op_cat (pe_lst (pa_cons pe_int pa_nil)) (pv 7)) pe_non) pa_nil)))))))))
       (pss_cons (ps_set (i := 5) sc_read_numbers.nd rfl (Or.inl rfl) (pe_op op_add (pe_fld (pv 0) rfl) (pe_op op_mul (pe_glob rfl T.c_SLOTS T.r_SLOTS) (pv 2))))
       (pss_cons (ps_asg (pe_slice sl_list (pv 1) (po_some (pv 5)) (po_some (pe_op op_add (pv 5) pe_int))) (pg_unl (by rfl) (pgs_cons (pg_name (i := 8) sc_read_numbers.nd rfl (Or.inl rfl)) (pgs_cons (pg_name (i := 9) sc_read_numbers.nd rfl (Or.inl rfl)) (pgs_cons (pg_name (i := 10) sc_read_numbers.nd rfl (Or.inl rfl)) pgs_nil)))))
       (pss_cons (ps_set (i := 11) sc_read_numbers.nd rfl (Or.inl rfl) (pe_op op_add (pe_op op_add (pv 5) pe_int) (pv 10)))
       (C8.pss_cut (ps_if (PW.pt (pw_or (pt_cmpR op_gt (pv 10) (pe_fld (pv 0) rfl) (nomark _)) (pw_or1 (pt_val (pe_callB (cr_anyI rfl) (by rfl) T.n_any (by decide +kernel) (pa_cons (pe_slice sl_list (pv 1) (po_some (pv 11)) po_none) pa_nil))))))
       (pss_one (ps_ret pe_non))
       pss_nil)
       (pss_one (ps_ret (pe_tup (pa_cons (pe_op op_cat (pe_lst (pa_cons pe_int pa_nil)) (pe_slice sl_list (pv 1) po_none (po_some (pe_fld (pv 0) rfl)))) (pa_cons (pv 3) (pa_cons (pv 8) (pa_cons (pv 9) (pa_cons (pe_slice sl_list (pv 1) (po_some (pe_op op_add (pv 5) pe_int)) (po_some (pv 11))) pa_nil))))))))))))))), ?_⟩
    try dsimp only [cxOf, Cx.nox, Cx.wish]
    obtain ⟨p, a, L, l, ns, rfl, ⟨dx, fs, hp, hL⟩, el, l0, l1, g0, g1, hS, n0, n1, np, q1, q2⟩ := h
    have cl := T.cl_Layout
    have na1 := T.na_Layout_last_id
    have na2 := T.na_Layout_segments
    have lk1 := hL.last
    have lk2 := hL.seg
    rw [el] at lk1
    walk_at "rd"
    rename_i ls nls H1 s1 h1
    refine r_forR (fun i σ' H' => ∃ (v4 v5 v6 v7 : Option V) (xs : List V), σ' = [some (.ref p), some (.ref a), some (.int ((l : Int) + 1)), some (.ref ls), v4, v5, v6, v7, none, none, none, none] ∧ Same H H' ∧ (True ∧ H' ls = some (.lst xs)) ∧ xs.length = i ∧ (∀ j, j < i → ¬ Bad l ns j) ∧ ∀ j v, xs[j]? = some v → SlotV H' v (flag l ns j) (addrs l ns j) ∧ v ≠ .ref ls) ?_ ?_ ?_
    · exact ⟨_, _, _, _, [], rfl, s1, ⟨trivial, h1⟩, rfl, fun j hj => absurd hj (Nat.not_lt_zero _), fun j v e => by simp at e⟩
    · rintro i σ' H' hi ⟨v4, v5, v6, v7, xs, rfl, s2, h2, hxl, hb, hv⟩
      have hi' : i < 3 := hi
      have hp2 := s2 _ _ hp
      have hS2 : True ∧ SqL K H' a (ns.map V.int) := ⟨trivial, s2.seq hS⟩
      clear h1
      have em : ((l : Int) + ((0 : Int) + (i : Int)) * ((l : Int) + 1)) = ((l + i * (l + 1) : Nat) : Int) := by
        rw [Int.zero_add]
        simp
      have hm := mul_lt3 (l := l) hi'
      walk_at "rd"
      rw [em]
      have ef : flag l ns i = ns.getD (l + i * (l + 1)) 0 := rfl
      have ea : addrs l ns i = (ns.drop (l + i * (l + 1) + 1)).take l := rfl
      generalize hst : l + i * (l + 1) = st at ef ea
      have hst2 : st ≤ 3 * l + 2 := by omega
      refine r_ixl hS2.2 (at_ints (by omega) (by omega)) ?_
      rw [Int.toNat_natCast, ← ef]
      walk_at "rd"
      rename_i la nla Ha sa ha
      rw [cut_both (by omega) (by omega), drop_map, take_map, show ((st : Int) + 1).toNat = st + 1 from by omega, show ((st : Int) + ((l : Int) + 1)).toNat - (st + 1) = l from by omega, ← ea] at ha
      have h2a : True ∧ Ha ls = some (.lst xs) := ⟨trivial, sa _ _ h2.2⟩
      walk_at "rd"
      have hbad : Bad l ns i ↔ (flag l ns i > 1 ∨ (flag l ns i = 0 ∧ (addrs l ns i).any (· != 0) = true)) := Iff.rfl
      have vl : ∀ j v, xs[j]? = some v → SlotV Ha v (flag l ns j) (addrs l ns j) ∧ v ≠ .ref ls := fun j v e => ⟨(hv j v e).1.mono sa, (hv j v e).2⟩
      have la' : (addrs l ns i).length ≤ 465 := by
        rw [ea, List.length_take]
        omega
      have step : ∀ (v : V) (H2 : Hp), Same Ha H2 → v ≠ .ref ls → SlotV H2 v (flag l ns i) (addrs l ns i) → ¬ Bad l ns i → (∀ j, j < i + 1 → ¬ Bad l ns j) ∧ ∀ j u, (xs ++ [v])[j]? = some u → SlotV (upd H2 ls (.lst (xs ++ [v]))) u (flag l ns j) (addrs l ns j) ∧ u ≠ .ref ls := by
        intro v H2 s3 hne hs nb
        have keep : ∀ (u : V) (f : Int) (as : List Int), u ≠ .ref ls → SlotV H2 u f as → SlotV (upd H2 ls (.lst (xs ++ [v]))) u f as := by
          intro u f as hu h
          rcases h with ⟨e, b, rfl, h⟩ | h
          · exact .inl ⟨e, b, rfl, by rw [upd_ne (fun z => hu (by rw [z]))]; exact h⟩
          · exact .inr h
        refine ⟨fun j hj => ?_, fun j u e => ?_⟩
        · by_cases ej : j = i
          · subst ej
            exact nb
          · exact hb j (by omega)
        · rw [List.getElem?_append] at e
          split at e
          · exact ⟨keep _ _ _ (vl j u e).2 ((vl j u e).1.mono s3), (vl j u e).2⟩
          · have ej : j = i := by
              have := (List.getElem?_eq_some_iff.mp e).1
              simp at this
              omega
            subst ej
            rw [hxl, Nat.sub_self] at e
            cases e
            exact ⟨keep _ _ _ hne hs, hne⟩
      generalize hfe : flag l ns i = f at ef hbad step
      generalize hae : addrs l ns i = as at ea hbad step ha la'
      by_cases bad : Bad l ns i
      · refine r_cut (fun _ _ => False) ?_ (fun _ _ h => h.elim)
        have out : Q .non Ha := q1 (fun h => h.1 i hi' bad) _ (s2.trans sa)
        rw [hbad] at bad
        walk_at "rd"
        refine r_ite (fun c => ?_) (fun c => ?_)
        · walk_at "rd"
          exact out
        · walk_at "rd"
          refine r_ite (fun c2 => ?_) (fun c2 => ?_)
          · walk_at "rd"
            refine r_anyI (.of ha) ?_
            walk_at "rd"
            cases hx : as.any (· != 0) with
            | true =>
              walk_at "rd"
              exact out
            | false =>
              rw [hx] at bad
              rcases bad with bad | ⟨_, bad⟩
              · exact absurd bad c
              · cases bad
          · rcases bad with bad | ⟨bad, _⟩
            · exact absurd bad c
            · exact absurd bad c2
      · refine r_cutS ?_ ?_
        · have bad' := bad
          rw [hbad] at bad'
          walk_at "rd"
          refine r_ite (fun c => absurd (.inl c) bad') (fun c => ?_)
          walk_at "rd"
          refine r_ite (fun c2 => ?_) (fun c2 => ?_)
          · walk_at "rd"
            refine r_anyI (.of ha) ?_
            walk_at "rd"
            cases hx : as.any (· != 0) with
            | true => exact absurd (.inr ⟨c2, hx⟩) bad'
            | false =>
              walk_at "rd"
              exact ⟨rfl, rfl⟩
          · walk_at "rd"
            exact ⟨rfl, rfl⟩
        walk_at "rd"
        refine r_tyl (.of h2a.2) ?_
        walk_at "rd"
        refine r_ite (fun c => ?_) (fun c => ?_)
        · walk_at "rd"
          rename_i lz nlz Hz sz' hz
          refine r_cat hz (sz' _ _ ha) (by rw [List.length_map, sz]; simp; omega) (fun lr nlr => ?_)
          generalize hHr : upd _ _ _ = Hr
          have sr := Same.of_new hHr nlr
          have hr' := Sg.at_new hHr
          clear hHr
          have sar := sz'.trans sr
          have nel : V.ref lr ≠ .ref ls := fun z => by
            cases z
            exact ne_of_none (sz' _ _ h2a.2) nlr rfl
          walk_at "rd"
          refine r_app (sar _ _ h2a.2) (by rw [sz]; omega) ?_
          obtain ⟨st1, st2⟩ := step (.ref lr) Hr sar nel (.inl ⟨c, lr, rfl, hr'⟩) bad
          exact ⟨_, _, _, _, _, rfl, Same.old (s2.trans (sa.trans sar)) nls rfl, ⟨trivial, upd_same⟩, by rw [List.length_append, hxl]; rfl, st1, st2⟩
        · walk_at "rd"
          refine r_app h2a.2 (by rw [sz]; omega) ?_
          obtain ⟨st1, st2⟩ := step .non Ha (L2.Same.refl _) (by intro z; cases z) (.inr ⟨c, rfl⟩) bad
          exact ⟨_, _, _, _, _, rfl, Same.old (s2.trans sa) nls rfl, ⟨trivial, upd_same⟩, by rw [List.length_append, hxl]; rfl, st1, st2⟩
    · rintro σ' H' ⟨v4, v5, v6, v7, xs, rfl, s2, h2, hxl, hb, hv⟩
      have hp2 := s2 _ _ hp
      have hS2 : True ∧ SqL K H' a (ns.map V.int) := ⟨trivial, s2.seq hS⟩
      clear h1 s1
      have hb3 : ∀ j, j < 3 → ¬ Bad l ns j := hb
      have hxl3 : xs.length = 3 := hxl
      obtain ⟨w0, w1, w2, rfl⟩ : ∃ w0 w1 w2, xs = [w0, w1, w2] := by
        match xs, hxl3 with
        | [w0, w1, w2], _ => exact ⟨_, _, _, rfl⟩
      have e0 := (hv 0 w0 rfl).1
      have e1 := (hv 1 w1 rfl).1
      have e2 := (hv 2 w2 rfl).1
      have em : ((l : Int) + 3 * ((l : Int) + 1)) = ((4 * l + 3 : Nat) : Int) := by omega
      walk_at "rd"
      rw [em]
      rename_i lt nlt Ht st ht
      rw [em] at ht
      rw [cut_both (by omega) (by omega), drop_map, take_map, Int.toNat_natCast, show (((4 * l + 3 : Nat) : Int) + 3).toNat - (4 * l + 3) = 3 from by omega, drop3 (by omega)] at ht
      have c0 := getD_pos np (4 * l + 5)
      have ht' : Ht lt = some (.lst [.int (ns.getD (4 * l + 3) 0), .int (ns.getD (4 * l + 4) 0), .int (ns.getD (4 * l + 5) 0)]) := ht
      have eT : Tail l L.seg ns ↔ (ns.getD (4 * l + 5) 0 > L.seg ∨ (ns.drop (4 * l + 6 + (ns.getD (4 * l + 5) 0).toNat)).any (· != 0) = true) := Iff.rfl
      clear ht
      generalize ns.getD (4 * l + 3) 0 = hd at ht' q2
      generalize ns.getD (4 * l + 4) 0 = pl at ht' q2
      generalize ns.getD (4 * l + 5) 0 = ct at ht' q2 c0 eT
      refine r_gunl (.of ht') rfl ?_
      have hSt : True ∧ SqL K Ht a (ns.map V.int) := ⟨trivial, st.seq hS2.2⟩
      have hpt := st _ _ hp2
      have h2t := st _ _ h2.2
      have e0t := e0.mono st
      have e1t := e1.mono st
      have e2t := e2.mono st
      have s2t := s2.trans st
      clear hS2 ht' hp2 h2 e0 e1 e2 hv hb
      walk_at "rd"
      have eq : ((4 * l + 3 : Nat) : Int) + 3 + ct = ((4 * l + 6 + ct.toNat : Nat) : Int) := by omega
      rw [eq]
      by_cases tail : Tail l L.seg ns
      · refine r_cut (fun _ _ => False) ?_ (fun _ _ h => h.elim)
        have out : ∀ H3, Same Ht H3 → Q .non H3 := fun H3 s3 => q1 (fun h => h.2 tail) _ (s2t.trans s3)
        rw [eT] at tail
        walk_at "rd"
        refine r_ite (fun c => ?_) (fun c => ?_)
        · walk_at "rd"
          exact out _ (L2.Same.refl _)
        · walk_at "rd"
          rename_i lu nlu Hu su hu
          rw [cut_from (by omega), drop_map, Int.toNat_natCast] at hu
          refine r_anyI (.of hu) ?_
          walk_at "rd"
          cases hx : (ns.drop (4 * l + 6 + ct.toNat)).any (· != 0) with
          | true =>
            walk_at "rd"
            exact out _ su
          | false =>
            rw [hx] at tail
            rcases tail with tail | tail
            · exact absurd tail c
            · cases tail
      · refine r_cutH ?_ (fun Hu su => ?_)
        · have tail' := tail
          rw [eT] at tail'
          walk_at "rd"
          refine r_ite (fun c => absurd (.inl c) tail') (fun c => ?_)
          walk_at "rd"
          rename_i lu nlu Hu su hu
          rw [cut_from (by omega), drop_map, Int.toNat_natCast] at hu
          refine r_anyI (.of hu) ?_
          walk_at "rd"
          cases hx : (ns.drop (4 * l + 6 + ct.toNat)).any (· != 0) with
          | true => exact absurd (.inr hx) tail'
          | false =>
            walk_at "rd"
            exact ⟨rfl, su⟩
        have hSu : True ∧ SqL K Hu a (ns.map V.int) := ⟨trivial, su.seq hSt.2⟩
        have hpu := su _ _ hpt
        have h2u := su _ _ h2t
        have s2u := s2t.trans su
        have e0u := e0t.mono su
        have e1u := e1t.mono su
        have e2u := e2t.mono su
        clear hSt hpt h2t e0t e1t e2t
        walk_at "rd"
        rename_i lz nlz Hz sz' hz ly nly Hy sy hy
        rw [cut_to (by omega), take_map, Int.toNat_natCast] at hy
        have tl' : (ns.take l).length ≤ 465 := by
          rw [List.length_take]
          omega
        refine r_cat (sy _ _ hz) hy (by rw [List.length_map, sz]; simp; omega) (fun lr nlr => ?_)
        generalize hHr : upd _ _ _ = Hr
        have sr := Same.of_new hHr nlr
        have hr' := Sg.at_new hHr
        clear hHr
        have sur := sz'.trans (sy.trans sr)
        have hSr : True ∧ SqL K Hr a (ns.map V.int) := ⟨trivial, sur.seq hSu.2⟩
        clear hSu
        walk_at "rd"
        rename_i l5 nl5 H5 s5 h5 tt ntt H6 s6 h6
        have e3 : (((4 * l + 3 : Nat) : Int) + 3).toNat = 4 * l + 6 := by omega
        rw [cut_both (by omega) (by omega), drop_map, take_map, e3, Int.toNat_natCast, show 4 * l + 6 + ct.toNat - (4 * l + 6) = ct.toNat from by omega] at h5
        have s56 := s5.trans s6
        have sux := sur.trans s56
        exact q2 ⟨hb3, tail⟩ _ tt lr ls l5 w0 w1 w2 (s2u.trans sux) h6 (s56 _ _ hr') (sux _ _ h2u) (e0u.mono sux) (e1u.mono sux) (e2u.mono sux) (s6 _ _ h5)
theorem getD_set_eq {ns : List Int} {i : Nat} {v : Int} (h : i < ns.length) : (ns.set i v).getD i 0 = v := by
  rw [List.getD_eq_getElem?_getD, List.getElem?_set_self h]
  rfl
theorem getD_set_ne {ns : List Int} {i j : Nat} {v : Int} (h : i ≠ j) : (ns.set i v).getD j 0 = ns.getD j 0 := by
  rw [List.getD_eq_getElem?_getD, List.getElem?_set_ne h, ← List.getD_eq_getElem?_getD]
theorem any_of {xs : List Int} {k : Nat} {v : Int} (h : xs[k]? = some v) (hv : v ≠ 0) : xs.any (· != 0) = true :=
  List.any_eq_true.mpr ⟨v, List.mem_of_getElem? h, by simpa using hv⟩
theorem set_nn {ns : List Int} {i : Nat} {v : Int} (h : ∀ x ∈ ns, 0 ≤ x) (hv : 0 ≤ v) : ∀ x ∈ ns.set i v, 0 ≤ x := fun x hx => by
  rcases List.mem_or_eq_of_mem_set hx with hx | rfl
  · exact h x hx
  · exact hv
def WSt (l : Nat) (seg : Int) (H : Hp) (lw : Addr) (ns : List Int) (choice k : Int) (σ0 : List (Option V)) : L2.St → Hp → Prop := fun σ' H' => ∃ ws : List Int, σ' = σ0 ∧ Same H H' ∧ (True ∧ H' lw = some (.lst (ws.map V.int))) ∧ (ws = ns ∨ ¬ RdOk l seg ws) ∧ (k < choice → ws = ns) ∧ ws.length = ns.length ∧ ∀ x ∈ ws, 0 ≤ x
def sp_wrong (K : PySem.W.Frag) (C : Addr) : Sp := fun vs H Q _ => ∃ (p a b sc : Addr) (L : Lay) (l : Nat) (ns ss : List Int) (ct : Int) (v0 v1 v2 : V), vs = [.ref p, .ref a, .ref b, .int ct, .ref sc] ∧ LayAt C L H p ∧ L.last = (l : Nat) ∧ 1 ≤ l ∧ l ≤ 465 ∧ 4 ≤ L.seg ∧ L.seg ≤ 16 ∧
  SqL K H a (ns.map V.int) ∧ SqL K H b [v0, v1, v2] ∧ SqL K H sc (ss.map V.int) ∧ ss.length ≤ 63 ∧ (4 * l + 6 + ct.toNat ≤ ns.length) ∧ ns.length ≤ 100000 ∧ (∀ x ∈ ns, 0 ≤ x) ∧ 0 ≤ ct ∧ ct ≤ L.seg ∧ ns.getD (4 * l + 5) 0 = ct ∧
  (v0 = .non → flag l ns 0 = 0) ∧ (v1 = .non → flag l ns 1 = 0) ∧ (v2 = .non → flag l ns 2 = 0) ∧
  ∀ (H' : Hp) (r : Addr) (ws : List Int), Same H H' → H r = none → H' r = some (.lst (ws.map V.int)) → (ws = ns ∨ ¬ RdOk l L.seg ws) → ws.length = ns.length → (∀ x ∈ ws, 0 ≤ x) → Q (.ref r) H'
theorem ok_law_wrong (T : Txt K mg) : FnOk P w K mg base CX0 2 T.a_law_wrong T.fd_law_wrong ["layout", "numbers", "slots", "count", "script"] (sp_wrong K T.A_Layout) := by
  refine T.F_law_wrong.ok sc_law_wrong (fun vs H Q E h => ?_) (fun cdv A outer s H vs Q E hr h => ?_)
  · obtain ⟨p, a, b, sc, L, l, ns, ss, ct, v0, v1, v2, rfl, _⟩ := h
    rfl
  · refine ⟨_, (pss_cons (ps_asg (pe_call (ok_law_digits T) (hr.mono (by decide)) rfl T.m_law_digits T.F_law_digits.kp T.b_law_digits .nil pass0 (pa_cons (pe_call (ok_law_row T) (hr.mono (by decide)) rfl T.m_law_row T.F_law_row.kp T.b_law_row .nil pass0 (pa_cons (pv 4) (pa_cons pe_int pa_nil))) (pa_cons (pe_lst (pa_cons pe_int (pa_cons pe_int (pa_cons pe_int (pa_cons (pe_op op_pow pe_int pe_int) pa_nil))))) pa_nil))) (pg_unl (by rfl) (pgs_cons (pg_name (i := 5) sc_law_wrong.nd rfl (Or.inl rfl)) (pgs_cons (pg_name (i := 6) sc_law_wrong.nd rfl (Or.inl rfl)) (pgs_cons (pg_name (i := 7) sc_law_wrong.nd rfl (Or.inl rfl)) (pgs_cons (pg_name (i := 8) sc_law_wrong.nd rfl (Or.inl rfl)) pgs_nil))))))
       (pss_cons (ps_set (i := 9) sc_law_wrong.nd rfl (Or.inl rfl) (pe_fld (pv 0) rfl))
       (pss_cons (ps_set (i := 10) sc_law_wrong.nd rfl (Or.inl rfl) (pe_op op_add (pv 9) (pe_op op_mul (pv 6) (pe_op op_add (pv 9) pe_int))))
       (pss_cons (ps_set (i := 11) sc_law_wrong.nd rfl (Or.inl rfl) (pe_op op_add (pe_op op_add (pe_op op_mul pe_int (pv 9)) pe_int) (pv 3)))
       (pss_cons (ps_set (i := 12) sc_law_wrong.nd rfl (Or.inl rfl) (pe_callTy c_list (by rfl) T.n_list (by decide +kernel) (pa_cons (pv 1) pa_nil)))
       (C8.pss_cut (ps_if (pt_cmpR op_eq (pv 5) pe_int (nomark _))
       (pss_one (ps_asg (pe_op op_add pe_int (pv 7)) (pg_sub (pv 12) (pv 10) set_list)))
       pss_nil)
       (C8.pss_cut (ps_if (PW.pt (pw_and (pt_cmpR op_eq (pv 5) pe_int (nomark _)) (pw_and1 (pt_cmp (pc_isN (pe_ix ix_list (pv 2) (pv 6) (fun _ _ => rfl))) rfl))))
       (pss_one (ps_asg (pe_op op_add pe_int (pv 7)) (pg_sub (pv 12) (pe_op op_add (pe_op op_add (pv 10) pe_int) (pe_op op_mod (pv 8) (pv 9))) set_list)))
       pss_nil)
       (C8.pss_cut (ps_if (pt_cmpR op_eq (pv 5) pe_int (nomark _))
       (pss_one (ps_asg (pe_op op_add (pe_op op_add (pe_fld (pv 0) rfl) pe_int) (pe_op op_mod (pv 7) pe_int)) (pg_sub (pv 12) (pe_op op_add (pe_op op_mul pe_int (pv 9)) pe_int) set_list)))
       pss_nil)
       (C8.pss_cut (ps_if (PW.pt (pw_and (pt_cmpR op_eq (pv 5) pe_int (nomark _)) (pw_and1 (pt_cmpR op_lt (pv 11) (pe_callB (c_len) (by rfl) T.n_len (by decide +kernel) (pa_cons (pv 1) pa_nil)) (nomark _)))))
       (pss_one (ps_asg (pe_op op_add pe_int (pv 7)) (pg_sub (pv 12) (pe_op op_add (pv 11) (pe_op op_mod (pv 8) (pe_op op_sub (pe_callB (c_len) (by rfl) T.n_len (by decide +kernel) (pa_cons (pv 1) pa_nil)) (pv 11)))) set_list)))
       pss_nil)
       (pss_one (ps_ret (pv 12)))))))))))), ?_⟩
    try dsimp only [cxOf, Cx.nox, Cx.wish]
    obtain ⟨p, a, b, sc, L, l, ns, ss, ct, v0, v1, v2, rfl, ⟨dx, fs, hp, hL⟩, el, l0, l1, g0, g1, hA, hB, hS, h63, n0, n1, np, c0, c1, ec, f0, f1, f2, q⟩ := h
    have cl := T.cl_Layout
    have na1 := T.na_Layout_last_id
    have na2 := T.na_Layout_segments
    have lk1 := hL.last
    have lk2 := hL.seg
    rw [el] at lk1
    have hA' : True ∧ SqL K H a (ns.map V.int) := ⟨trivial, hA⟩
    clear hA
    walk_at "rd"
    refine ⟨sc, ss, _, rfl, hS, h63, by decide, by decide, fun z0 hz0 => ?_⟩
    walk_at "rd"
    refine ⟨_, _, [4, 3, 65000, 10 ^ (9 : Int).toNat], rfl, by walk_at "hp", by simp, by decide, fun H1 d ds s1 n1' h1 hd => ?_⟩
    obtain _ | ⟨⟨a0, a1⟩, _ | ⟨⟨b0, b1⟩, _ | ⟨⟨e0, e1⟩, _ | ⟨⟨k0, k1⟩, _ | _⟩⟩⟩⟩ := hd
    rename_i choice w more at'
    have s01 : Same H H1 := by walk_at "sm"
    have hA0 := hA'.2
    have hB0 := hB
    have hp0 := hp
    have hA1 : True ∧ SqL K H1 a (ns.map V.int) := ⟨trivial, s01.seq hA'.2⟩
    have hB1 : True ∧ SqL K H1 b [v0, v1, v2] := ⟨trivial, s01.seq hB⟩
    have hp1 := s01 _ _ hp
    clear hA' hB hp
    obtain ⟨j, hj, rfl⟩ : ∃ j : Nat, j < 3 ∧ w = (j : Int) := ⟨w.toNat, by omega, by omega⟩
    have hm := mul_lt3 (l := l) hj
    have em : ((l : Int) + (j : Int) * ((l : Int) + 1)) = ((l + j * (l + 1) : Nat) : Int) := by simp
    obtain ⟨vw, evw, fw⟩ : ∃ v, [v0, v1, v2][j]? = some v ∧ (v = .non → flag l ns j = 0) := by
      rcases (by omega : j = 0 ∨ j = 1 ∨ j = 2) with rfl | rfl | rfl
      · exact ⟨v0, rfl, f0⟩
      · exact ⟨v1, rfl, f1⟩
      · exact ⟨v2, rfl, f2⟩
    walk_at "rd"
    rw [em]
    have e4 : 4 * (l : Int) + 6 + ct = ((4 * l + 6 + ct.toNat : Nat) : Int) := by omega
    rw [e4]
    rename_i lw nlw Hw sw hw
    have hAw : True ∧ SqL K Hw a (ns.map V.int) := ⟨trivial, sw.seq hA1.2⟩
    have hBw : True ∧ SqL K Hw b [v0, v1, v2] := ⟨trivial, sw.seq hB1.2⟩
    have hpw := sw _ _ hp1
    have s1w := s01.trans sw
    have nlw0 : H lw = none := s01.free nlw
    clear hA1 hB1 hp1 s01 s1 h1 n1'
    generalize hst : l + j * (l + 1) = st at hm
    have hst2 : st ≤ 3 * l + 2 := by omega
    have ef : ∀ ws, flag l ws j = ws.getD st 0 := fun ws => by rw [← hst]; rfl
    have ea : ∀ ws, addrs l ws j = (ws.drop (st + 1)).take l := fun ws => by rw [← hst]; rfl
    have nOk : ∀ ws, Bad l ws j → ¬ RdOk l L.seg ws := fun ws hb h => h.1 j hj hb
    have hbase : ∀ H', Same H H' → SqL K H' a (ns.map V.int) ∧ SqL K H' b [v0, v1, v2] ∧ H' p = some (.ins T.A_Layout dx fs) := fun H' s => ⟨s.seq hA0, s.seq hB0, s _ _ hp0⟩
    clear hAw hBw hpw hA0 hB0 hp0
    have la : ∀ ws : List Int, ws.length = ns.length → (addrs l ws j).length = l := fun ws e => by
      rw [ea, List.length_take, List.length_drop]
      omega
    -- each choice changes the list at most once
    refine r_cut (WSt l L.seg H lw ns choice 0 [some (.ref p), some (.ref a), some (.ref b), some (.int ct), some (.ref sc), some (.int choice), some (.int (j : Int)), some (.int more), some (.int at'), some (.int l), some (.int (st : Int)), some (.int ((4 * l + 6 + ct.toNat : Nat) : Int)), some (.ref lw)]) ?_ ?_
    · walk_at "rd"
      refine r_ite (fun c => ?_) (fun c => ?_)
      · walk_at "rd"
        refine r_setl hw (ixN_ok (by omega) (by rw [List.length_map]; omega)) ?_
        rw [set_ints, Int.toNat_natCast]
        refine ⟨_, rfl, Same.old s1w nlw0 rfl, ⟨trivial, upd_same⟩, .inr (nOk _ (.inl ?_)), fun c2 => by omega, List.length_set, set_nn np (by omega)⟩
        rw [ef, getD_set_eq (by omega)]
        omega
      · walk_at "rd"
        exact ⟨ns, rfl, s1w, ⟨trivial, hw⟩, .inl rfl, fun _ => rfl, rfl, np⟩
    clear hw s1w sw
    rintro σ2 H2 ⟨ws, rfl, s2, hw2, ok2, k2, len2, np2⟩
    refine r_cut (WSt l L.seg H lw ns choice 1 [some (.ref p), some (.ref a), some (.ref b), some (.int ct), some (.ref sc), some (.int choice), some (.int (j : Int)), some (.int more), some (.int at'), some (.int l), some (.int (st : Int)), some (.int ((4 * l + 6 + ct.toNat : Nat) : Int)), some (.ref lw)]) ?_ ?_
    · obtain ⟨hA2, hB2, hp2⟩ := hbase _ s2
      walk_at "rd"
      refine r_ite (fun c => ?_) (fun c => ?_)
      · walk_at "rd"
        refine r_ixl hB2 (atI_nat evw) ?_
        walk_at "rd"
        refine r_ite (fun cn => ?_) (fun cn => ?_)
        · have ew := k2 (by omega)
          subst ew
          walk_at "rd"
          rename_i y hy y0 y1
          refine r_setl hw2.2 (ixN_ok (by omega) (by rw [List.length_map]; omega)) ?_
          rw [set_ints]
          obtain ⟨k, rfl⟩ : ∃ k : Nat, y = (k : Int) := ⟨y.toNat, by omega⟩
          have ek : ((st : Int) + 1 + (k : Int)).toNat = st + 1 + k := by omega
          rw [ek]
          refine ⟨_, rfl, Same.old s2 nlw0 rfl, ⟨trivial, upd_same⟩, .inr (nOk _ (.inr ⟨?_, any_of (k := k) (v := 1 + more) ?_ (by omega)⟩)), fun c2 => by omega, List.length_set, set_nn np (by omega)⟩
          · rw [ef, getD_set_ne (by omega), ← ef]
            exact fw cn
          · rw [ea, List.getElem?_take, if_pos (by omega), List.getElem?_drop, List.getElem?_set_self (by omega)]
        · walk_at "rd"
          exact ⟨ws, rfl, s2, hw2, ok2, fun c2 => k2 (by omega), len2, np2⟩
      · walk_at "rd"
        exact ⟨ws, rfl, s2, hw2, ok2, fun c2 => k2 (by omega), len2, np2⟩
    clear hw2 s2 ok2 k2 len2 np2
    rintro σ2 H2 ⟨ws, rfl, s2, hw2, ok2, k2, len2, np2⟩
    refine r_cut (WSt l L.seg H lw ns choice 2 [some (.ref p), some (.ref a), some (.ref b), some (.int ct), some (.ref sc), some (.int choice), some (.int (j : Int)), some (.int more), some (.int at'), some (.int l), some (.int (st : Int)), some (.int ((4 * l + 6 + ct.toNat : Nat) : Int)), some (.ref lw)]) ?_ ?_
    · obtain ⟨hA2, hB2, hp2⟩ := hbase _ s2
      walk_at "rd"
      refine r_ite (fun c => ?_) (fun c => ?_)
      · walk_at "rd"
        rename_i y hy y0 y1
        refine r_setl hw2.2 (ixN_ok (by omega) (by rw [List.length_map]; omega)) ?_
        rw [set_ints, show (4 * (l : Int) + 5).toNat = 4 * l + 5 from by omega]
        refine ⟨_, rfl, Same.old s2 nlw0 rfl, ⟨trivial, upd_same⟩, .inr fun h => h.2 (.inl ?_), fun c2 => by omega, by rw [List.length_set]; exact len2, set_nn np2 (by omega)⟩
        rw [getD_set_eq (by omega)]
        omega
      · walk_at "rd"
        exact ⟨ws, rfl, s2, hw2, ok2, fun c2 => k2 (by omega), len2, np2⟩
    clear hw2 s2 ok2 k2 len2 np2
    rintro σ2 H2 ⟨ws, rfl, s2, hw2, ok2, k2, len2, np2⟩
    refine r_cut (WSt l L.seg H lw ns choice 3 [some (.ref p), some (.ref a), some (.ref b), some (.int ct), some (.ref sc), some (.int choice), some (.int (j : Int)), some (.int more), some (.int at'), some (.int l), some (.int (st : Int)), some (.int ((4 * l + 6 + ct.toNat : Nat) : Int)), some (.ref lw)]) ?_ ?_
    · obtain ⟨hA2, hB2, hp2⟩ := hbase _ s2
      have hA3 : True ∧ SqL K H2 a (ns.map V.int) := ⟨trivial, hA2⟩
      clear hA2
      walk_at "rd"
      refine r_ite (fun c => ?_) (fun c => ?_)
      · have ew := k2 (by omega)
        subst ew
        walk_at "rd"
        refine r_lenl hA3.2 ?_
        walk_at "rd"
        rw [List.length_map]
        refine r_ite (fun c3 => ?_) (fun c3 => ?_)
        · walk_at "rd"
          refine r_lenl hA3.2 ?_
          rw [List.length_map]
          generalize hnl : ((ws.length : Nat) : Int) = nl at c3 ⊢
          walk_at "rd"
          rename_i y hy y0 y1
          obtain ⟨k, rfl⟩ : ∃ k : Nat, y = (k : Int) := ⟨y.toNat, by omega⟩
          refine r_setl hw2.2 (ixN_ok (by omega) (by rw [List.length_map]; omega)) ?_
          rw [set_ints, show (((4 * l + 6 + ct.toNat : Nat) : Int) + (k : Int)).toNat = 4 * l + 6 + ct.toNat + k from by omega]
          refine ⟨_, rfl, Same.old s2 nlw0 rfl, ⟨trivial, upd_same⟩, .inr fun h => h.2 (.inr ?_), fun c2 => by omega, List.length_set, set_nn np (by omega)⟩
          rw [getD_set_ne (by omega), ec]
          refine any_of (k := k) (v := 1 + more) ?_ (by omega)
          rw [List.getElem?_drop, List.getElem?_set_self (by omega)]
        · walk_at "rd"
          exact ⟨ws, rfl, s2, hw2, ok2, fun c2 => k2 (by omega), len2, np2⟩
      · walk_at "rd"
        exact ⟨ws, rfl, s2, hw2, ok2, fun c2 => k2 (by omega), len2, np2⟩
    clear hw2 s2 ok2 k2 len2 np2
    rintro σ2 H2 ⟨ws, rfl, s2, hw2, ok2, k2, len2, np2⟩
    walk_at "rd"
    exact q _ lw ws s2 nlw0 hw2.2 ok2 len2 np2
theorem Fits.room {s b z : Int} (h : Fits s b z) : 4 ≤ (layOf s b z).seg ∧ (layOf s b z).seg ≤ 16 ∧ 0 ≤ (layOf s b z).reg * (layOf s b z).fan ∧ (layOf s b z).reg * (layOf s b z).fan ≤ 3000 ∧ 0 ≤ (layOf s b z).fan ∧ (layOf s b z).fan ≤ 128 := by
  obtain ⟨l0, l1⟩ := h.last
  obtain ⟨s0, s1, b0, b1, hz, _⟩ := h
  have l0' : 45 ≤ (s - 2) * (b - 1) + (b - 1) := l0
  have l1' : (s - 2) * (b - 1) + (b - 1) ≤ 465 := l1
  show 4 ≤ s ∧ s ≤ 16 ∧ 0 ≤ (2 * (4 * ((s - 2) * (b - 1) + (b - 1)) + 6 + s) + z - 1) / z * (z / 2) ∧ (2 * (4 * ((s - 2) * (b - 1) + (b - 1)) + 6 + s) + z - 1) / z * (z / 2) ≤ 3000 ∧ 0 ≤ z / 2 ∧ z / 2 ≤ 128
  generalize (s - 2) * (b - 1) + (b - 1) = n at l0' l1' ⊢
  refine ⟨s0, s1, ?_⟩
  rcases hz with rfl | rfl | rfl
  · rw [show (64 : Int) / 2 = 32 from by decide]
    omega
  · rw [show (128 : Int) / 2 = 64 from by decide]
    omega
  · rw [show (256 : Int) / 2 = 128 from by decide]
    omega
theorem hid_mono {D : Addr} {H H' : Hp} (s : L2.Same H H') : L2.Same (hid D H) (hid D H') := fun b o e => by
  obtain ⟨hb, e⟩ := of_hid e
  rw [hid_ne hb]
  exact s _ _ e
/-- a slot and the numbers that tell it -/
def Slt (l : Nat) (H : Hp) (v : V) (f : Int × List Int) : Prop := SlotV H v f.1 f.2 ∧ f.2.length = l ∧ (f.1 = 1 ∨ (f.1 = 0 ∧ f.2 = List.replicate l 0)) ∧ ∀ x ∈ f.2, 0 ≤ x
theorem Slt.mono {l : Nat} {H H' : Hp} {v : V} {f : Int × List Int} (s : L2.Same H H') (h : Slt l H v f) : Slt l H' v f := ⟨h.1.mono s, h.2⟩
theorem slts_mono {l : Nat} {H H' : Hp} (s : L2.Same H H') : ∀ {xs : List V} {fs : List (Int × List Int)}, Paired (Slt l H) xs fs → Paired (Slt l H') xs fs
  | _, _, .nil => .nil
  | _, _, .cons h t => .cons (h.mono s) (slts_mono s t)
theorem Slt.flag0 {l : Nat} {H : Hp} {v : V} {f : Int × List Int} (h : Slt l H v f) (e : v = .non) : f.1 = 0 := by
  rcases h.2.2.1 with h1 | h1
  · rcases h.1 with ⟨_, a, ea, _⟩ | ⟨h2, _⟩
    · rw [e] at ea
      cases ea
    · exact absurd h1 h2
  · exact h1.1
theorem Slt.nn {l : Nat} {H : Hp} {v : V} {f : Int × List Int} (h : Slt l H v f) : ∀ x ∈ f.1 :: f.2, 0 ≤ x := fun x hx => by
  rcases List.mem_cons.mp hx with rfl | hx
  · rcases h.2.2.1 with h1 | h1
    · omega
    · have := h1.1
      omega
  · exact h.2.2.2 x hx
theorem SlotV.dp {K : PySem.W.Frag} {H : Hp} {v w : V} {f : Int} {as : List Int} (h : SlotV H v f as) (h' : SlotV H w f as) : ∃ d, Dp K H v d ∧ Dp K H w d ∧ Fl 1 d := by
  rcases h with ⟨e, a, rfl, h⟩ | ⟨e, rfl⟩
  · rcases h' with ⟨_, b, rfl, h'⟩ | ⟨e', _⟩
    · exact ⟨_, Dp.ints (.of h), Dp.ints (.of h'), Fl.intl _⟩
    · exact absurd e e'
  · rcases h' with ⟨e', _⟩ | ⟨_, rfl⟩
    · exact absurd e' e
    · exact ⟨.none, .non, .non, Fl.non _⟩
def flatF (fs : List (Int × List Int)) : List Int := (fs.map fun f => f.1 :: f.2).flatten
theorem flatF_snoc (fs : List (Int × List Int)) (f : Int × List Int) : flatF (fs ++ [f]) = flatF fs ++ f.1 :: f.2 := by simp [flatF]
theorem seg_at {X A R : List Int} {f : Int} {n l : Nat} (hX : X.length = n) (hA : A.length = l) : (X ++ f :: (A ++ R)).getD n 0 = f ∧ ((X ++ f :: (A ++ R)).drop (n + 1)).take l = A := by
  subst hX
  subst hA
  refine ⟨?_, ?_⟩
  · rw [List.getD_eq_getElem?_getD, List.getElem?_append_right (Nat.le_refl _), Nat.sub_self]
    rfl
  · have e : X ++ f :: (A ++ R) = (X ++ [f]) ++ (A ++ R) := by simp
    have e2 : X.length + 1 = (X ++ [f]).length := by simp
    rw [e, e2, List.drop_left, List.take_left]
structure NsOk (l : Nat) (s : Int) (ns P : List Int) (f0 f1 f2 : Int × List Int) (hd pl ct : Int) (qs : List Int) : Prop where
  g0 : flag l ns 0 = f0.1
  g1 : flag l ns 1 = f1.1
  g2 : flag l ns 2 = f2.1
  a0 : addrs l ns 0 = f0.2
  a1 : addrs l ns 1 = f1.2
  a2 : addrs l ns 2 = f2.2
  tk : ns.take l = P
  h3 : ns.getD (4 * l + 3) 0 = hd
  h4 : ns.getD (4 * l + 4) 0 = pl
  h5 : ns.getD (4 * l + 5) 0 = ct
  qd : (ns.drop (4 * l + 6)).take ct.toNat = qs
  len : 4 * l + 6 + ct.toNat ≤ ns.length
  ok : RdOk l s ns
theorem zeros_any (m : Nat) : (List.replicate m (0 : Int)).any (· != 0) = false := by
  rw [List.any_eq_false]
  intro x hx
  rw [List.eq_of_mem_replicate hx]
  decide
theorem nsOk {l m : Nat} {s : Int} {P qs : List Int} {f0 f1 f2 : Int × List Int} {hd pl ct : Int} (e : P.length = l) (e0 : f0.2.length = l) (e1 : f1.2.length = l) (e2 : f2.2.length = l) (eq : qs.length = ct.toNat) (hc : ct ≤ s)
    (o0 : f0.1 = 1 ∨ (f0.1 = 0 ∧ f0.2 = List.replicate l 0)) (o1 : f1.1 = 1 ∨ (f1.1 = 0 ∧ f1.2 = List.replicate l 0)) (o2 : f2.1 = 1 ∨ (f2.1 = 0 ∧ f2.2 = List.replicate l 0)) :
    NsOk l s (P ++ flatF [f0, f1, f2] ++ [hd, pl, ct] ++ qs ++ List.replicate m 0) P f0 f1 f2 hd pl ct qs := by
  obtain ⟨f0, A0⟩ := f0
  obtain ⟨f1, A1⟩ := f1
  obtain ⟨f2, A2⟩ := f2
  dsimp only at e0 e1 e2 o0 o1 o2
  have x0 : P ++ flatF [(f0, A0), (f1, A1), (f2, A2)] ++ [hd, pl, ct] ++ qs ++ List.replicate m 0 = P ++ f0 :: (A0 ++ (f1 :: A1 ++ f2 :: A2 ++ [hd, pl, ct] ++ qs ++ List.replicate m 0)) := by simp [flatF]
  have x1 : P ++ flatF [(f0, A0), (f1, A1), (f2, A2)] ++ [hd, pl, ct] ++ qs ++ List.replicate m 0 = (P ++ f0 :: A0) ++ f1 :: (A1 ++ (f2 :: A2 ++ [hd, pl, ct] ++ qs ++ List.replicate m 0)) := by simp [flatF]
  have x2 : P ++ flatF [(f0, A0), (f1, A1), (f2, A2)] ++ [hd, pl, ct] ++ qs ++ List.replicate m 0 = (P ++ f0 :: A0 ++ f1 :: A1) ++ f2 :: (A2 ++ ([hd, pl, ct] ++ qs ++ List.replicate m 0)) := by simp [flatF]
  have x3 : P ++ flatF [(f0, A0), (f1, A1), (f2, A2)] ++ [hd, pl, ct] ++ qs ++ List.replicate m 0 = (P ++ f0 :: A0 ++ f1 :: A1 ++ f2 :: A2) ++ hd :: ([] ++ (pl :: ct :: qs ++ List.replicate m 0)) := by simp [flatF]
  have x4 : P ++ flatF [(f0, A0), (f1, A1), (f2, A2)] ++ [hd, pl, ct] ++ qs ++ List.replicate m 0 = (P ++ f0 :: A0 ++ f1 :: A1 ++ f2 :: A2 ++ [hd]) ++ pl :: ([] ++ (ct :: qs ++ List.replicate m 0)) := by simp [flatF]
  have x5 : P ++ flatF [(f0, A0), (f1, A1), (f2, A2)] ++ [hd, pl, ct] ++ qs ++ List.replicate m 0 = (P ++ f0 :: A0 ++ f1 :: A1 ++ f2 :: A2 ++ [hd, pl]) ++ ct :: (qs ++ List.replicate m 0) := by simp [flatF]
  have x6 : P ++ flatF [(f0, A0), (f1, A1), (f2, A2)] ++ [hd, pl, ct] ++ qs ++ List.replicate m 0 = (P ++ f0 :: A0 ++ f1 :: A1 ++ f2 :: A2 ++ [hd, pl, ct] ++ qs) ++ List.replicate m 0 := by simp [flatF]
  have xP : P ++ flatF [(f0, A0), (f1, A1), (f2, A2)] ++ [hd, pl, ct] ++ qs ++ List.replicate m 0 = P ++ (flatF [(f0, A0), (f1, A1), (f2, A2)] ++ [hd, pl, ct] ++ qs ++ List.replicate m 0) := by simp
  generalize P ++ flatF [(f0, A0), (f1, A1), (f2, A2)] ++ [hd, pl, ct] ++ qs ++ List.replicate m 0 = ns at *
  have y0 := seg_at (X := P) (A := A0) (R := f1 :: A1 ++ f2 :: A2 ++ [hd, pl, ct] ++ qs ++ List.replicate m 0) (f := f0) (n := l + 0 * (l + 1)) (l := l) (by omega) e0
  have y1 := seg_at (X := P ++ f0 :: A0) (A := A1) (R := f2 :: A2 ++ [hd, pl, ct] ++ qs ++ List.replicate m 0) (f := f1) (n := l + 1 * (l + 1)) (l := l) (by simp; omega) e1
  have y2 := seg_at (X := P ++ f0 :: A0 ++ f1 :: A1) (A := A2) (R := [hd, pl, ct] ++ qs ++ List.replicate m 0) (f := f2) (n := l + 2 * (l + 1)) (l := l) (by simp; omega) e2
  have y3 := seg_at (X := P ++ f0 :: A0 ++ f1 :: A1 ++ f2 :: A2) (A := []) (R := pl :: ct :: qs ++ List.replicate m 0) (f := hd) (n := 4 * l + 3) (l := 0) (by simp; omega) rfl
  have y4 := seg_at (X := P ++ f0 :: A0 ++ f1 :: A1 ++ f2 :: A2 ++ [hd]) (A := []) (R := ct :: qs ++ List.replicate m 0) (f := pl) (n := 4 * l + 4) (l := 0) (by simp; omega) rfl
  have y5 := seg_at (X := P ++ f0 :: A0 ++ f1 :: A1 ++ f2 :: A2 ++ [hd, pl]) (A := qs) (R := List.replicate m 0) (f := ct) (n := 4 * l + 5) (l := ct.toNat) (by simp; omega) eq
  rw [← x0] at y0
  rw [← x1] at y1
  rw [← x2] at y2
  rw [← x3] at y3
  rw [← x4] at y4
  rw [← x5] at y5
  have y6 : ns.drop (4 * l + 6 + ct.toNat) = List.replicate m 0 := by
    rw [x6]
    have e6 : 4 * l + 6 + ct.toNat = (P ++ f0 :: A0 ++ f1 :: A1 ++ f2 :: A2 ++ [hd, pl, ct] ++ qs).length := by simp; omega
    rw [e6, List.drop_left]
  have yl : 4 * l + 6 + ct.toNat ≤ ns.length := by
    rw [x6]
    simp
    omega
  have z0 : ∀ {f : Int} {A : List Int}, (f = 1 ∨ (f = 0 ∧ A = List.replicate l 0)) → ¬ (f > 1 ∨ (f = 0 ∧ A.any (· != 0) = true)) := by
    rintro f A (rfl | ⟨rfl, rfl⟩) (h | ⟨h, h2⟩)
    · exact absurd h (by decide)
    · exact absurd h (by decide)
    · exact absurd h (by decide)
    · rw [zeros_any] at h2
      cases h2
  have yP : ns.take l = P := by
    rw [xP, ← e, List.take_left]
  refine ⟨y0.1, y1.1, y2.1, y0.2, y1.2, y2.2, yP, y3.1, y4.1, y5.1, y5.2, yl, fun j hj => ?_, ?_⟩
  · rcases (by omega : j = 0 ∨ j = 1 ∨ j = 2) with rfl | rfl | rfl
    · unfold Bad flag addrs
      rw [y0.1, y0.2]
      exact z0 o0
    · unfold Bad flag addrs
      rw [y1.1, y1.2]
      exact z0 o1
    · unfold Bad flag addrs
      rw [y2.1, y2.2]
      exact z0 o2
  · unfold Tail
    rw [y5.1, y6, zeros_any]
    rintro (h | h)
    · omega
    · cases h
theorem set_last {xs : List V} {u v : V} : (xs ++ [u]).set xs.length v = xs ++ [v] := by simp
def spLaw (K : PySem.W.Frag) : Sp := fun vs H Q _ => ∃ (a : Addr) (ns : List Int), vs = [.ref a] ∧ SqL K H a (ns.map V.int) ∧ ns.length ≤ 63 ∧ ∀ H', Q (.bl true) H'
theorem ok_law (T : Txt K mg) : FnOk P w K mg base CX0 5 T.a_law T.fd_law ["script"] (spLaw K) := by
  refine T.F_law.ok sc_law (fun vs H Q E h => ?_) (fun cdv A outer s H vs Q E hr h => ?_)
  · obtain ⟨a, ns, rfl, _⟩ := h
    rfl
  · refine ⟨_, (pss_cons (ps_set (i := 1) sc_law.nd rfl (Or.inl rfl) (pe_call (ok_law_layout T) (hr.mono (by decide)) rfl T.m_law_layout T.F_law_layout.kp T.b_law_layout .nil pass0 (pa_cons (pe_call (ok_law_row T) (hr.mono (by decide)) rfl T.m_law_row T.F_law_row.kp T.b_law_row .nil pass0 (pa_cons (pv 0) (pa_cons pe_int pa_nil))) pa_nil)))
       (pss_cons (ps_asg (pe_call (ok_law_digits T) (hr.mono (by decide)) rfl T.m_law_digits T.F_law_digits.kp T.b_law_digits .nil pass0 (pa_cons (pe_call (ok_law_row T) (hr.mono (by decide)) rfl T.m_law_row T.F_law_row.kp T.b_law_row .nil pass0 (pa_cons (pv 0) (pa_cons pe_int pa_nil))) (pa_cons (pe_lst (pa_cons pe_int (pa_cons pe_int (pa_cons pe_int (pa_cons (pe_op op_add (pe_fld (pv 1) rfl) pe_int) (pa_cons pe_int pa_nil)))))) pa_nil))) (pg_unl (by rfl) (pgs_cons (pg_name (i := 2) sc_law.nd rfl (Or.inl rfl)) (pgs_cons (pg_name (i := 3) sc_law.nd rfl (Or.inl rfl)) (pgs_cons (pg_name (i := 4) sc_law.nd rfl (Or.inl rfl)) (pgs_cons (pg_name (i := 5) sc_law.nd rfl (Or.inl rfl)) (pgs_cons (pg_name (i := 6) sc_law.nd rfl (Or.inl rfl)) pgs_nil)))))))
       (pss_cons (ps_set (i := 7) sc_law.nd rfl (Or.inl rfl) (pe_call (ok_law_table T) (hr.mono (by decide)) rfl T.m_law_table T.F_law_table.kp T.b_law_table .nil pass0 (pa_cons (pv 1) (pa_cons (pe_call (ok_law_row T) (hr.mono (by decide)) rfl T.m_law_row T.F_law_row.kp T.b_law_row .nil pass0 (pa_cons (pv 0) (pa_cons pe_int pa_nil))) (pa_cons pe_int pa_nil)))))
       (pss_cons (ps_set (i := 8) sc_law.nd rfl (Or.inl rfl) (pe_slice sl_list (pv 7) (po_some pe_int) po_none))
       (pss_cons (ps_set (i := 9) sc_law.nd rfl (Or.inl rfl) (pe_lst pa_nil))
       (pss_cons (ps_for PassesOwn.never rfl (pi_range1 rfl T.n_range (pa_cons pe_int pa_nil)) (pg_name (i := 10) sc_law.nd rfl (Or.inl rfl))
       (pss_cons (ps_expr (pe_bm PySem.F.plainAttrs_list PySem.F.slot_list_append PySem.F.type_list_append mt_append (pv 9) (pa_cons pe_non pa_nil)))
       (pss_one (ps_if (pt_cmpR op_eq (pe_op op_mod (pe_op op_fdiv (pv 2) (pe_ix ix_list (pe_lst (pa_cons pe_int (pa_cons pe_int (pa_cons pe_int pa_nil)))) (pv 10) (fun _ _ => rfl))) pe_int) pe_int (nomark _))
       (pss_cons (ps_asg (pe_call (ok_law_table T) (hr.mono (by decide)) rfl T.m_law_table T.F_law_table.kp T.b_law_table .nil pass0 (pa_cons (pv 1) (pa_cons (pe_call (ok_law_row T) (hr.mono (by decide)) rfl T.m_law_row T.F_law_row.kp T.b_law_row .nil pass0 (pa_cons (pv 0) (pa_cons (pe_op op_add pe_int (pv 10)) pa_nil))) (pa_cons pe_int pa_nil)))) (pg_sub (pv 9) (pv 10) set_list))
       (pss_one (ps_set (i := 8) sc_law.nd rfl (Or.inl rfl) (pe_op op_cat (pe_op op_cat (pv 8) (pe_lst (pa_cons pe_int pa_nil))) (pe_slice sl_list (pe_ix ix_list (pv 9) (pv 10) (fun _ _ => rfl)) (po_some pe_int) po_none)))))
       (pss_one (ps_set (i := 8) sc_law.nd rfl (Or.inl rfl) (pe_op op_cat (pv 8) (pe_op op_rep (pe_lst (pa_cons pe_int pa_nil)) (pe_op op_add (pe_fld (pv 1) rfl) pe_int)))))))))
       (pss_cons (ps_asg (pe_call (ok_law_digits T) (hr.mono (by decide)) rfl T.m_law_digits T.F_law_digits.kp T.b_law_digits .nil pass0 (pa_cons (pe_call (ok_law_row T) (hr.mono (by decide)) rfl T.m_law_row T.F_law_row.kp T.b_law_row .nil pass0 (pa_cons (pv 0) (pa_cons pe_int pa_nil))) (pa_cons (pe_lst (pa_cons pe_int (pa_cons pe_int pa_nil))) pa_nil))) (pg_unl (by rfl) (pgs_cons (pg_name (i := 11) sc_law.nd rfl (Or.inr rfl)) (pgs_cons (pg_name (i := 12) sc_law.nd rfl (Or.inr rfl)) pgs_nil))))
       (pss_cons (ps_setLc (i := 13) (own := [("k", 10)]) (g := gName 10) (tt := tYes) rfl sc_law.nd rfl rfl (sw_true rfl rfl rfl (by decide +kernel)) (pi_range1 rfl T.n_range (pa_cons (pv 5) pa_nil)) (blkOk_by (own := [("k", 10)]) (N := n_law) (sc := defScope s_law) (by decide +kernel)) (fun _ _ _ _ _ => pg_name (i := 10) sc_law.nd rfl (Or.inl rfl)) (fun _ _ _ _ _ => pts_nil) (fun _ _ _ _ _ => (pe_op op_mod (pe_callTy c_int (by rfl) T.n_int (by decide +kernel) (pa_cons (pe_op op_add (pv 11) (pe_op op_mul (pv 10) (pv 12))) pa_nil)) pe_int)))
       (pss_cons (ps_set (i := 8) sc_law.nd rfl (Or.inl rfl) (pe_op op_cat (pe_op op_cat (pv 8) (pe_lst (pa_cons (pv 3) (pa_cons (pv 4) (pa_cons (pv 5) pa_nil))))) (pv 13)))
       (pss_cons (ps_set (i := 8) sc_law.nd rfl (Or.inl rfl) (pe_op op_cat (pv 8) (pe_op op_rep (pe_lst (pa_cons pe_int pa_nil)) (pe_op op_sub (pe_op op_mul (pe_fld (pv 1) rfl) (pe_fld (pv 1) rfl)) (pe_callB (c_len) (by rfl) T.n_len (by decide +kernel) (pa_cons (pv 8) pa_nil))))))
       (pss_cons (ps_set (i := 14) sc_law.nd rfl (Or.inl rfl) (pv 8))
       (C8.pss_cut (ps_if (pt_cmpR op_eq (pv 6) pe_int (nomark _))
       (pss_one (ps_set (i := 14) sc_law.nd rfl (Or.inl rfl) (pe_call (ok_law_wrong T) (hr.mono (by decide)) rfl T.m_law_wrong T.F_law_wrong.kp T.b_law_wrong .nil pass0 (pa_cons (pv 1) (pa_cons (pv 8) (pa_cons (pv 9) (pa_cons (pv 5) (pa_cons (pv 0) pa_nil))))))))
       pss_nil)
       (pss_cons (ps_set (i := 15) sc_law.nd rfl (Or.inl rfl) (pe_callTy c_list (by rfl) T.n_list (by decide +kernel) (pa_cons (pv 14) pa_nil)))
       (pss_cons (ps_set (i := 16) sc_law.nd rfl (Or.inl rfl) (pe_call (ok_read_numbers T) (hr.mono (by decide)) rfl T.m_read_numbers T.F_read_numbers.kp T.b_read_numbers .nil pass0 (pa_cons (pv 1) (pa_cons (pv 15) pa_nil))))
       (pss_cons (ps_if (pt_cmpR (op_neD hr.units) (pv 15) (pv 14) (nomark _))
       (pss_one (ps_ret pe_bl))
       pss_nil)
       (pss_cons (ps_if (pt_cmpR (op_neD hr.units) (pv 14) (pv 8) (nomark _))
       (pss_one (ps_ret (pe_cmp (pc_isN (pv 16)) rfl)))
       pss_nil)
       (C8.pss_cut (ps_if (PW.pt (pw_or (pt_not (pt_val (pe_callB (call_isi) (by rfl) T.n_isinstance (by decide +kernel) (pa_cons (pv 16) (pa_cons (pe_bltn (v := .ty "tuple") (by rfl) T.n_tuple (by decide +kernel) rfl) pa_nil))))) (pw_or (pt_cmpR op_ne (pe_callB (c_len) (by rfl) T.n_len (by decide +kernel) (pa_cons (pv 16) pa_nil)) pe_int (nomark _)) (pw_or1 (pt_not (pt_val (pe_callB (call_isi) (by rfl) T.n_isinstance (by decide +kernel) (pa_cons (pe_ix ix_tup (pv 16) pe_int (fun _ _ => rfl)) (pa_cons (pe_bltn (v := .ty "list") (by rfl) T.n_list (by decide +kernel) rfl) pa_nil)))))))))
       (pss_one (ps_ret pe_bl))
       pss_nil)
       (C8.pss_cut (ps_if (PW.pt (pw_or (pt_not (pt_val (pe_callB (call_isi) (by rfl) T.n_isinstance (by decide +kernel) (pa_cons (pe_ix ix_tup (pv 16) pe_int (fun _ _ => rfl)) (pa_cons (pe_bltn (v := .ty "list") (by rfl) T.n_list (by decide +kernel) rfl) pa_nil))))) (pw_or1 (pt_not (pt_val (pe_callB (call_isi) (by rfl) T.n_isinstance (by decide +kernel) (pa_cons (pe_ix ix_tup (pv 16) pe_int (fun _ _ => rfl)) (pa_cons (pe_bltn (v := .ty "list") (by rfl) T.n_list (by decide +kernel) rfl) pa_nil))))))))
       (pss_one (ps_ret pe_bl))
       pss_nil)
       (pss_one (ps_ret (pe_cmpR (op_eqD hr.units) (pv 16) (pe_tup (pa_cons (pv 7) (pa_cons (pv 9) (pa_cons (pv 3) (pa_cons (pv 4) (pa_cons (pv 13) pa_nil)))))) (nomark _)))))))))))))))))))))), ?_⟩
    try dsimp only [cxOf, Cx.nox, Cx.wish]
    obtain ⟨a, sc, rfl, hS, h63, q⟩ := h
    have cl := T.cl_Layout
    have na1 := T.na_Layout_last_id
    have na2 := T.na_Layout_segments
    have na3 := T.na_Layout_region_blocks
    have na4 := T.na_Layout_fan
    walk_at "rd"
    refine ⟨a, sc, _, rfl, hS, h63, by decide, by decide, fun z0 hz0 => ?_⟩
    walk_at "rd"
    refine ⟨_, rfl, fun s b z H1 p hF s1 n1 hLay => ?_⟩
    obtain ⟨L0, L1⟩ := hF.last
    obtain ⟨G0, G1, R0, R1, X0, X1⟩ := hF.room
    generalize layOf s b z = L at L0 L1 G0 G1 R0 R1 X0 X1 hLay
    obtain ⟨dx, fs, hp, hL⟩ := hLay
    obtain ⟨l, el⟩ : ∃ l : Nat, L.last = (l : Int) := ⟨L.last.toNat, by omega⟩
    have lk1 := hL.last
    have lk2 := hL.seg
    have lk3 := hL.reg
    have lk4 := hL.fan
    rw [el] at lk1 L0 L1
    have hS1 := s1.seq hS
    clear hS
    walk_at "rd"
    refine ⟨a, sc, _, rfl, hS1, h63, by decide, by decide, fun z1 hz1 => ?_⟩
    walk_at "rd"
    refine ⟨_, _, [8, 65536, 65536, L.seg + 1, 2], rfl, by walk_at "hp", by simp, ?_, fun H2 d ds s2 n2 h2 hd => ?_⟩
    · intro s hs
      simp only [List.mem_cons, List.not_mem_nil, or_false] at hs
      rcases hs with rfl | rfl | rfl | rfl | rfl <;> omega
    obtain _ | ⟨⟨a0, a1⟩, _ | ⟨⟨b0, b1⟩, _ | ⟨⟨c0, c1⟩, _ | ⟨⟨e0, e1⟩, _ | ⟨⟨f0, f1⟩, _ | _⟩⟩⟩⟩⟩ := hd
    rename_i taken head place count fault
    have s12 : Same H1 H2 := by walk_at "sm"
    have hS2 := s12.seq hS1
    have hp2 := s12 _ _ hp
    clear hS1 hp
    walk_at "rd"
    refine ⟨a, sc, _, rfl, hS2, h63, by decide, by decide, fun z2 hz2 => ?_⟩
    walk_at "rd"
    refine ⟨p, L, _, 65536, rfl, ⟨dx, fs, hp2, hL⟩, by omega, by omega, by decide, by decide, fun H3 t ts s3 nt ht et bt zt => ?_⟩
    rw [el] at et
    obtain ⟨P, rfl⟩ : ∃ P, ts = 0 :: P := by
      cases ts with
      | nil => simp at zt
      | cons y P =>
        simp at zt
        subst zt
        exact ⟨P, rfl⟩
    have eP : P.length = l := by
      rw [List.length_cons] at et
      omega
    have nP : ∀ x ∈ P, 0 ≤ x := fun x hx => (bt x (List.mem_cons_of_mem _ hx)).1
    have hS3 := s3.seq hS2
    have hp3 := s3 _ _ hp2
    clear hS2 hp2 bt zt et
    walk_at "rd"
    rename_i ln nln Hn sn hn ls nls Hs ss hs
    rw [cut_from (by decide)] at hn
    have hln : Hs ln = some (.lst (P.map V.int)) := ss _ _ hn
    have lne : ln ≠ ls := ne_of_none hn nls
    have s3s := sn.trans ss
    have nls3 : H3 ls = none := sn.free nls
    clear hn
    refine r_forR (fun i σ' H' => ∃ (v10 : Option V) (lm : Addr) (xs : List V) (fl : List (Int × List Int)), σ' = [some (.ref a), some (.ref p), some (.int taken), some (.int head), some (.int place), some (.int count), some (.int fault), some (.ref t), some (.ref lm), some (.ref ls), v10, none, none, none, none, none, none] ∧ Same H3 H' ∧ (True ∧ H' ls = some (.lst xs)) ∧ hid ls H' lm = some (.lst ((P ++ flatF fl).map V.int)) ∧ xs.length = i ∧ (P ++ flatF fl).length = l + i * (l + 1) ∧ Paired (Slt l (hid ls H')) xs fl) ?_ ?_ ?_
    · refine ⟨none, ln, [], [], rfl, s3s, ⟨trivial, hs⟩, ?_, rfl, ?_, .nil⟩
      · rw [hid_ne lne, show flatF [] = [] from rfl, List.append_nil]
        exact hln
      · rw [show flatF [] = [] from rfl, List.append_nil, eP]
        omega
    · rintro i σ' H' hi ⟨v10, lm, xs, fl, rfl, sH, hls, hlm, exs, elen, hP⟩
      have hi' : i < 3 := hi
      clear hs hln s3s
      have hmul := mul_lt3 (l := l) hi'
      walk_at "rd"
      refine r_tyl (.of hls.2) ?_
      walk_at "rd"
      refine r_app hls.2 (by rw [sz]; omega) ?_
      generalize hHa : upd _ _ _ = Ha
      have sa : Same H3 Ha := Same.old sH nls3 hHa
      have ha : True ∧ Ha ls = some (.lst (xs ++ [.non])) := ⟨trivial, Sg.at_new hHa⟩
      have ea : hid ls Ha = hid ls H' := by
        rw [← hHa]
        exact hid_upd
      clear hHa hls
      rw [← ea] at hlm hP
      have hSa := sa.seq hS3
      have hpa := sa _ _ hp3
      obtain ⟨m, em, m0, m1⟩ : ∃ m : Int, atI [V.int 1, .int 2, .int 4] (0 + (i : Int)) = some (.int m) ∧ 0 < m ∧ m ≤ 4 := by
        rcases (by omega : i = 0 ∨ i = 1 ∨ i = 2) with rfl | rfl | rfl
        · exact ⟨_, rfl, by decide, by decide⟩
        · exact ⟨_, rfl, by decide, by decide⟩
        · exact ⟨_, rfl, by decide, by decide⟩
      walk_at "rd"
      refine r_ixl (by walk_at "hp") em ?_
      rename_i lq nlq Hm sm hm
      have hSm := sm.seq hSa
      have hpm := sm _ _ hpa
      clear hSa hpa
      walk_at "rd"
      refine r_ite (fun c => ?_) (fun c => ?_)
      · walk_at "rd"
        refine ⟨a, sc, _, rfl, hSm, h63, by omega, by omega, fun z3 hz3 => ?_⟩
        walk_at "rd"
        refine ⟨p, L, _, 65536, rfl, ⟨dx, fs, hpm, hL⟩, by omega, by omega, by decide, by decide, fun H4 t4 ts4 s4 nt4 ht4 et4 bt4 zt4 => ?_⟩
        rw [el] at et4
        obtain ⟨A, rfl⟩ : ∃ A, ts4 = 0 :: A := by
          cases ts4 with
          | nil => simp at zt4
          | cons y A =>
            simp at zt4
            subst zt4
            exact ⟨A, rfl⟩
        have eA : A.length = l := by
          rw [List.length_cons] at et4
          omega
        have nA : ∀ x ∈ A, 0 ≤ x := fun x hx => (bt4 x (List.mem_cons_of_mem _ hx)).1
        have h4 : True ∧ H4 ls = some (.lst (xs ++ [.non])) := ⟨trivial, s4 _ _ (sm _ _ ha.2)⟩
        have t4ne : t4 ≠ ls := (ne_of_none (sm _ _ ha.2) nt4).symm
        clear bt4 zt4 et4
        walk_at "rd"
        refine r_setl h4.2 (ixN_ok (by omega) (by simp; omega)) ?_
        rw [show (0 + (i : Int)).toNat = xs.length from by omega, set_last]
        generalize hH5 : upd _ _ _ = H5
        have h5 : True ∧ H5 ls = some (.lst (xs ++ [.ref t4])) := ⟨trivial, Sg.at_new hH5⟩
        have e5 : hid ls H5 = hid ls H4 := by
          rw [← hH5]
          exact hid_upd
        have s5 : Same H3 H5 := Same.old (sa.trans (sm.trans s4)) nls3 hH5
        clear hH5 h4
        have sh : Same (hid ls Ha) (hid ls H5) := by
          rw [e5]
          exact hid_mono (sm.trans s4)
        have hlm5 := hid_same _ _ (sh _ _ hlm)
        have ht5 : H5 t4 = some (.lst ((0 :: A).map V.int)) := by
          refine hid_same (D := ls) _ _ ?_
          rw [e5, hid_ne t4ne]
          exact ht4
        clear ht4 hm
        walk_at "rd"
        rename_i l1 nl1 H6 s6 h6
        refine r_cat (s6 _ _ hlm5) h6 (by rw [sz, List.length_map, elen]; simp; omega) (fun l2 nl2 => ?_)
        generalize hH7 : upd _ _ _ = H7
        have s7 := Same.of_new hH7 nl2
        have h7 := Sg.at_new hH7
        clear hH7
        have h57 : True ∧ H7 ls = some (.lst (xs ++ [.ref t4])) := ⟨trivial, s7 _ _ (s6 _ _ h5.2)⟩
        have ht7 := s7 _ _ (s6 _ _ ht5)
        walk_at "rd"
        refine r_ixl (.of h57.2) (v := .ref t4) (by rw [Int.zero_add]; exact atI_nat (by rw [← exs]; simp)) ?_
        walk_at "rd"
        rename_i l3 nl3 H8 s8 h8
        rw [cut_from (by decide)] at h8
        have h8' : H8 l3 = some (.lst (A.map V.int)) := h8
        clear h8
        refine r_cat (s8 _ _ h7) h8' (by rw [sz, List.length_append, List.length_map, elen]; simp; omega) (fun l4 nl4 => ?_)
        generalize hH9 : upd _ _ _ = H9
        have s9 := Same.of_new hH9 nl4
        have h9 := Sg.at_new hH9
        clear hH9
        have s59 : Same H5 H9 := s6.trans (s7.trans (s8.trans s9))
        have sh9 : Same (hid ls Ha) (hid ls H9) := sh.trans (hid_mono s59)
        have ne4 : l4 ≠ ls := (ne_of_none (s8 _ _ h57.2) nl4).symm
        walk_at "rd"
        refine ⟨_, l4, xs ++ [.ref t4], fl ++ [(1, A)], rfl, s5.trans s59, ⟨trivial, s59 _ _ h5.2⟩, ?_, by simp [exs], ?_, paired_snoc (slts_mono sh9 hP) ⟨.inl ⟨rfl, t4, rfl, ?_⟩, eA, .inl rfl, nA⟩⟩
        · rw [hid_ne ne4, h9, flatF_snoc, ← List.append_assoc, List.map_append]
          simp
        · rw [flatF_snoc, ← List.append_assoc, List.length_append, elen]
          simp [eA, Nat.succ_mul]
          omega
        · rw [hid_ne t4ne]
          exact s59 _ _ ht5
      · have hfx : True ∧ Hm ls = some (.lst (xs ++ [.non])) := ⟨trivial, sm _ _ ha.2⟩
        have shm : Same (hid ls Ha) (hid ls Hm) := hid_mono sm
        have hlmm := hid_same _ _ (shm _ _ hlm)
        walk_at "rd"
        rename_i l1 nl1 H6 s6 h6
        refine r_rep h6 (by omega) (by omega) (by rw [sz]; simp; omega) (fun l2 nl2 => ?_)
        rw [rep_ints]
        generalize hH7 : upd _ _ _ = H7
        have s7 := Same.of_new hH7 nl2
        have h7 := Sg.at_new hH7
        clear hH7
        refine r_cat (s7 _ _ (s6 _ _ hlmm)) h7 (by rw [sz, List.length_map, elen]; simp; omega) (fun l4 nl4 => ?_)
        generalize hH9 : upd _ _ _ = H9
        have s9 := Same.of_new hH9 nl4
        have h9 := Sg.at_new hH9
        clear hH9
        have s59 : Same Hm H9 := s6.trans (s7.trans s9)
        have sh9 : Same (hid ls Ha) (hid ls H9) := shm.trans (hid_mono s59)
        have ne4 : l4 ≠ ls := (ne_of_none (s7 _ _ (s6 _ _ hfx.2)) nl4).symm
        walk_at "rd"
        refine ⟨_, l4, xs ++ [.non], fl ++ [(0, List.replicate l 0)], rfl, sa.trans (sm.trans s59), ⟨trivial, s59 _ _ hfx.2⟩, ?_, by simp [exs], ?_, paired_snoc (slts_mono sh9 hP) ⟨.inr ⟨(by decide : (0 : Int) ≠ 1), rfl⟩, by simp, .inr ⟨rfl, rfl⟩, fun x hx => by rw [List.eq_of_mem_replicate hx]; exact Int.le_refl _⟩⟩
        · rw [hid_ne ne4, h9, flatF_snoc, ← List.append_assoc, show ((l : Int) + 1).toNat = l + 1 from by omega, ← List.map_append]
          rfl
        · rw [flatF_snoc, ← List.append_assoc, List.length_append, elen]
          simp [Nat.succ_mul]
          omega
    · rintro σ' H' ⟨v10, lm, xs, fl, rfl, sH, hls, hlm, exs, elen, hP⟩
      have exs3 : xs.length = 3 := exs
      have efl : fl.length = 3 := by rw [← Paired.length hP]; exact exs
      obtain ⟨w0, w1, w2, rfl⟩ : ∃ w0 w1 w2, xs = [w0, w1, w2] := by
        match xs, exs3 with
        | [w0, w1, w2], _ => exact ⟨_, _, _, rfl⟩
      obtain ⟨y0, y1, y2, rfl⟩ : ∃ y0 y1 y2, fl = [y0, y1, y2] := by
        match fl, efl with
        | [w0, w1, w2], _ => exact ⟨_, _, _, rfl⟩
      obtain ⟨g0, g1, g2⟩ : Slt l H' w0 y0 ∧ Slt l H' w1 y1 ∧ Slt l H' w2 y2 := by
        have hP' := slts_mono (hid_same (D := ls)) hP
        cases hP' with
        | cons g0 t =>
          cases t with
          | cons g1 t =>
            cases t with
            | cons g2 t => exact ⟨g0, g1, g2⟩
      have hlm' := hid_same _ _ hlm
      have hls' := hls.2
      have elen3 : (P ++ flatF [y0, y1, y2]).length = 4 * l + 3 := by
        have elen4 : (P ++ flatF [y0, y1, y2]).length = l + 3 * (l + 1) := elen
        omega
      have nn : ∀ x ∈ P ++ flatF [y0, y1, y2], 0 ≤ x := by
        intro x hx
        rcases List.mem_append.mp hx with hx | hx
        · exact nP x hx
        · have hx' : x ∈ (y0.1 :: y0.2) ++ ((y1.1 :: y1.2) ++ (y2.1 :: y2.2)) := by simpa [flatF] using hx
          rcases List.mem_append.mp hx' with hx | hx
          · exact g0.nn x hx
          · rcases List.mem_append.mp hx with hx | hx
            · exact g1.nn x hx
            · exact g2.nn x hx
      have okN := fun m qs (hq : qs.length = count.toNat) => nsOk (l := l) (m := m) (s := L.seg) (P := P) (qs := qs) (f0 := y0) (f1 := y1) (f2 := y2) (hd := head) (pl := place) (ct := count) eP g0.2.1 g1.2.1 g2.2.1 hq (by omega) g0.2.2.1 g1.2.2.1 g2.2.2.1
      generalize P ++ flatF [y0, y1, y2] = nums at hlm' elen3 nn okN
      have hS' := sH.seq hS3
      have hp' := sH _ _ hp3
      have ht' := sH _ _ ht
      clear hS3 hp3 ht hs hln hls hlm hP exs elen s3s exs3 efl sH
      walk_at "rd"
      refine ⟨a, sc, _, rfl, hS', h63, by decide, by decide, fun z5 hz5 => ?_⟩
      walk_at "rd"
      refine ⟨_, _, [65536, 65536], rfl, by walk_at "hp", by simp, by decide, fun H4 d4 ds4 s4 n4 h4 hd4 => ?_⟩
      obtain _ | ⟨⟨k0, k1⟩, _ | ⟨⟨j0, j1⟩, _ | _⟩⟩ := hd4
      rename_i start step
      have s4' : Same H' H4 := by walk_at "sm"
      walk_at "rd"
      refine r_lcI (fun _ z => 0 ≤ z) (by omega) rfl ?_ ?_
      · intro j H'' hj s' R hR
        walk_at "rd"
        exact hR _ (by omega)
      intro HA lA qs sA nA hA lenA hz
      have nq : ∀ x ∈ qs, 0 ≤ x := fun x hx => by
        obtain ⟨k, hk⟩ := List.mem_iff_getElem?.mp hx
        exact hz k x hk
      have sHA := s4'.trans sA
      clear hz
      have hlmA := sHA _ _ hlm'
      have okN2 := fun m => okN m qs (by omega)
      clear okN hlm' h4
      walk_at "rd"
      rename_i l1 nl1 H6 s6 h6
      refine r_cat (s6 _ _ hlmA) h6 (by rw [sz, List.length_map, elen3]; simp; omega) (fun l2 nl2 => ?_)
      generalize hH7 : upd _ _ _ = H7
      have s7 := Same.of_new hH7 nl2
      have h7 := Sg.at_new hH7
      clear hH7
      walk_at "rd"
      refine r_cat h7 (s7 _ _ (s6 _ _ hA)) (by rw [sz, List.length_append, List.length_map, List.length_map, elen3]; simp; omega) (fun l3 nl3 => ?_)
      generalize hH8 : upd _ _ _ = H8
      have s8 := Same.of_new hH8 nl3
      have h8 : True ∧ H8 l3 = some (.lst ((nums ++ [head, place, count] ++ qs).map V.int)) := ⟨trivial, by
        rw [List.map_append, List.map_append]
        exact Sg.at_new hH8⟩
      clear hH8
      have sA8 : Same HA H8 := s6.trans (s7.trans s8)
      have hp8 := (sHA.trans sA8) _ _ hp'
      walk_at "rd"
      rename_i l4 nl4 H9 s9 h9
      refine r_lenl (.of (s9 _ _ h8.2)) ?_
      rw [List.length_map]
      have lenN : (nums ++ [head, place, count] ++ qs).length = 4 * l + 6 + count.toNat := by
        rw [List.length_append, List.length_append, elen3]
        simp
        omega
      have nn2 : ∀ x ∈ nums ++ [head, place, count] ++ qs, 0 ≤ x := by
        intro x hx
        rcases List.mem_append.mp hx with hx | hx
        · rcases List.mem_append.mp hx with hx | hx
          · exact nn x hx
          · simp only [List.mem_cons, List.not_mem_nil, or_false] at hx
            rcases hx with rfl | rfl | rfl <;> assumption
        · exact nq x hx
      generalize nums ++ [head, place, count] ++ qs = ns2 at h8 lenN nn2 okN2
      rw [lenN]
      obtain ⟨nl, hnl⟩ : ∃ nl : Int, nl = ((4 * l + 6 + count.toNat : Nat) : Int) := ⟨_, rfl⟩
      rw [← hnl]
      have hnl0 : 0 ≤ nl := by omega
      have hnl1 : nl ≤ 4000 := by omega
      walk_at "rd"
      obtain ⟨rf, hrf⟩ : ∃ rf : Int, rf = L.reg * L.fan := ⟨_, rfl⟩
      rw [← hrf] at R0 R1 ⊢
      refine r_rep h9 (by omega) (by omega) (by rw [sz]; simp; omega) (fun l5 nl5 => ?_)
      rw [rep_ints]
      generalize hHB : upd _ _ _ = HB
      have sB := Same.of_new hHB nl5
      have hB := Sg.at_new hHB
      clear hHB
      generalize hmm : (rf - nl).toNat = mm at hB
      have mm1 : mm ≤ 3000 := by omega
      refine r_cat (sB _ _ (s9 _ _ h8.2)) hB (by rw [sz, List.length_map, List.length_map, List.length_replicate, lenN]; omega) (fun l6 nl6 => ?_)
      generalize hHC : upd _ _ _ = HC
      have sC := Same.of_new hHC nl6
      have hC : HC l6 = some (.lst ((ns2 ++ List.replicate mm 0).map V.int)) := by
        rw [List.map_append]
        exact Sg.at_new hHC
      clear hHC
      have ok := okN2 mm
      have lN : (ns2 ++ List.replicate mm 0).length ≤ 100000 := by
        rw [List.length_append, List.length_replicate, lenN]
        omega
      have nN : ∀ x ∈ ns2 ++ List.replicate mm 0, 0 ≤ x := by
        intro x hx
        rcases List.mem_append.mp hx with hx | hx
        · exact nn2 x hx
        · rw [List.eq_of_mem_replicate hx]
          exact Int.le_refl _
      generalize ns2 ++ List.replicate mm 0 = N at hC ok lN nN
      have s8C : Same H8 HC := s9.trans (sB.trans sC)
      have sAC := sA8.trans s8C
      have sHC := sHA.trans sAC
      have hSC := sHC.seq hS'
      have hpC := sHC _ _ hp'
      have htC := sHC _ _ ht'
      have hlsC := sHC _ _ hls'
      have g0C := g0.mono sHC
      have g1C := g1.mono sHC
      have g2C := g2.mono sHC
      have hAC := sAC _ _ hA
      clear hS' hp' ht' hls' g0 g1 g2 hA hB h9 h8 h7 h6 hp8 hlmA okN2 sHC sAC s8C sA8 sHA s4' s4 s6 s7 s8 s9 sB sC sA
      walk_at "rd"
      refine r_cut (fun σ' H' => ∃ (lw : Addr) (ws : List Int), σ' = [some (.ref a), some (.ref p), some (.int taken), some (.int head), some (.int place), some (.int count), some (.int fault), some (.ref t), some (.ref l6), some (.ref ls), v10, some (.int start), some (.int step), some (.ref lA), some (.ref lw), none, none] ∧ Same HC H' ∧ H' lw = some (.lst (ws.map V.int)) ∧ (ws = N ∨ ¬ RdOk l L.seg ws) ∧ ws.length = N.length ∧ ∀ x ∈ ws, 0 ≤ x) ?_ ?_
      · walk_at "rd"
        refine r_ite (fun c => ?_) (fun c => ?_)
        · walk_at "rd"
          refine ⟨p, l6, ls, a, L, l, N, sc, count, w0, w1, w2, rfl, ⟨dx, fs, hpC, hL⟩, el, by omega, by omega, G0, G1, .of hC, .of hlsC, hSC, h63, ok.len, lN, nN, by omega, by omega, ok.h5, ?_, ?_, ?_, fun H' r ws s nr hr o2 ln np => ?_⟩
          · intro e
            rw [ok.g0]
            exact g0C.flag0 e
          · intro e
            rw [ok.g1]
            exact g1C.flag0 e
          · intro e
            rw [ok.g2]
            exact g2C.flag0 e
          · walk_at "rd"
            exact ⟨r, ws, rfl, s, hr, o2, ln, np⟩
        · walk_at "rd"
          exact ⟨l6, N, rfl, L2.Same.refl _, hC, .inl rfl, rfl, nN⟩
      rintro _ Hw ⟨lw, ws, rfl, sw, hw, okw, lnw, npw⟩
      walk_at "rd"
      rename_i lp nlp HP sP hP
      have sCP := sw.trans sP
      have okl := ok.len
      refine ⟨p, lp, L, l, ws, rfl, ⟨dx, fs, sCP _ _ hpC, hL⟩, el, by omega, by omega, G0, G1, .of hP, by omega, by omega, npw, fun bad HX sX => ?_, fun good HX tt a0 a1 a4 v0 v1 v2 sX hX h0 h1 e0 e1 e2 h4 => ?_⟩
      · walk_at "rd"
        refine r_neI (.of (sX _ _ hP)) (.of (sX _ _ (sP _ _ hw))) ?_
        walk_at "rd"
        refine r_ned (Dp.ints (.of (sX _ _ (sP _ _ hw)))) (Dp.ints (.of (sX _ _ (sCP _ _ hC)))) (Fl.intlS _) (Fl.intlS _) ?_
        rw [eqv_ints, decide_eq_false (fun e => bad (by rw [e]; exact ok.ok))]
        walk_at "rd"
        exact q _
      · have ew : ws = N := by
          rcases okw with h | h
          · exact h
          · exact absurd good h
        subst ew
        rw [ok.h3, ok.h4] at hX
        rw [ok.tk] at h0
        rw [ok.h5, ok.qd] at h4
        rw [ok.g0, ok.a0] at e0
        rw [ok.g1, ok.a1] at e1
        rw [ok.g2, ok.a2] at e2
        have sCX := sCP.trans sX
        have hwX := sX _ _ (sP _ _ hw)
        have hPX := sX _ _ hP
        have hCX := sCX _ _ hC
        walk_at "rd"
        refine r_neI (.of hPX) (.of hwX) ?_
        walk_at "rd"
        refine r_neI (.of hwX) (.of hCX) ?_
        walk_at "rd"
        refine r_cutS ?_ ?_
        · walk_at "rd"
          exact ⟨rfl, rfl⟩
        refine r_cutS ?_ ?_
        · walk_at "rd"
          exact ⟨rfl, rfl⟩
        walk_at "rd"
        rename_i l9 nl9 H9 s9 h9
        obtain ⟨d0, D0, E0, F0⟩ := (e0.mono s9).dp ((g0C.1.mono sCX).mono s9)
        obtain ⟨d1, D1, E1, F1⟩ := (e1.mono s9).dp ((g1C.1.mono sCX).mono s9)
        obtain ⟨d2, D2, E2, F2⟩ := (e2.mono s9).dp ((g2C.1.mono sCX).mono s9)
        have hF : Fl 3 (.tuple [.list ((0 :: P).map PyData.int), .list [d0, d1, d2], .int head, .int place, .list (qs.map PyData.int)]) := Fl.tup (Fl.cons ((Fl.intl (0 :: P)).mono (by decide)) (Fl.cons (Fl.lst (Fl.cons F0 (Fl.cons F1 (Fl.cons F2 Fl.nil)))) (Fl.cons (Fl.int _ _) (Fl.cons (Fl.int _ _) (Fl.cons ((Fl.intl qs).mono (by decide)) Fl.nil)))))
        refine r_eqd (.tup (.of (s9 _ _ hX)) (.cons (Dp.ints (.of (s9 _ _ h0))) (.cons (.lst (.of (s9 _ _ h1)) (.cons D0 (.cons D1 (.cons D2 .nil)))) (.cons (.int _) (.cons (.int _) (.cons (Dp.ints (.of (s9 _ _ h4))) .nil))))))
          (.tup (.of h9) (.cons (Dp.ints (.of (s9 _ _ (sCX _ _ htC)))) (.cons (.lst (.of (s9 _ _ (sCX _ _ hlsC))) (.cons E0 (.cons E1 (.cons E2 .nil)))) (.cons (.int _) (.cons (.int _) (.cons (Dp.ints (.of (s9 _ _ (sCX _ _ hAC)))) .nil)))))) hF.shaped hF.shaped ?_
        rw [hF.self]
        exact q _
end
theorem all_mk {l : PySem.W.OpenLaw} {w : World} {K : PySem.W.Frag} {h : Heap} {mg : Str → Option Value} {fa C_Layout f_Layout___init f_parts_of f_read_numbers f_law_row f_law_digits f_law_layout f_law_table f_law_wrong f_law k_BLOCK_SIZES : Addr} (X : K.In h) (G : h.Ns mainGlobals mg) (hfa : mg "law" = some (.ref fa))
    {od_Layout___init an_Layout___init od_parts_of an_parts_of od_read_numbers an_read_numbers od_law_row an_law_row od_law_digits an_law_digits od_law_layout an_law_layout od_law_table an_law_table od_law_wrong an_law_wrong od_law an_law : Option Addr} {sl_Layout___init sl_parts_of sl_read_numbers sl_law_row sl_law_digits sl_law_layout sl_law_table sl_law_wrong sl_law : Array (Option Value)} {oc_Layout___init kV_Layout___init dc_Layout___init pm_Layout___init cd_Layout___init ct_Layout___init oc_parts_of kV_parts_of dc_parts_of pm_parts_of cd_parts_of ct_parts_of oc_read_numbers kV_read_numbers dc_read_numbers pm_read_numbers cd_read_numbers ct_read_numbers oc_law_row kV_law_row dc_law_row pm_law_row cd_law_row ct_law_row oc_law_digits kV_law_digits dc_law_digits pm_law_digits cd_law_digits ct_law_digits oc_law_layout kV_law_layout dc_law_layout pm_law_layout cd_law_layout ct_law_layout oc_law_table kV_law_table dc_law_table pm_law_table cd_law_table ct_law_table oc_law_wrong kV_law_wrong dc_law_wrong pm_law_wrong cd_law_wrong ct_law_wrong oc_law kV_law dc_law pm_law cd_law ct_law : Value}
    {t_SLOTS t_SUMMARY_HEAD yt_BLOCK_SIZES_0 yt_BLOCK_SIZES_1 yt_BLOCK_SIZES_2 : Tok}
    {yd_BLOCK_SIZES : Option Addr} {yn_BLOCK_SIZES : Nat} {ys_BLOCK_SIZES : Array (Option Value)}
    (mC_Layout : PySem.W.nsIn K mainGlobals "Layout" = some (some (.ref C_Layout)))
    (pg_Layout : PySem.W.plainGet K C_Layout Str.empty = true)
    (hd_Layout : PySem.W.hasDictIn K C_Layout = true)
    (po_Layout : PySem.W.plainOver K C_Layout = true)
    (sa_Layout : PySem.W.findIn K (.ref C_Layout) "__setattr__" = some (some (.builtin "object.__setattr__")))
    (mk_Layout : PySem.W.makesIn K C_Layout = true)
    (kc_Layout : PySem.W.keepIn K (.ref C_Layout) = true)
    (na_Layout_segments : PySem.W.findIn K (.ref C_Layout) "segments" = some none)
    (na_Layout_segment_blocks : PySem.W.findIn K (.ref C_Layout) "segment_blocks" = some none)
    (na_Layout_block_size : PySem.W.findIn K (.ref C_Layout) "block_size" = some none)
    (na_Layout_payload : PySem.W.findIn K (.ref C_Layout) "payload" = some none)
    (na_Layout_limit : PySem.W.findIn K (.ref C_Layout) "limit" = some none)
    (na_Layout_last_id : PySem.W.findIn K (.ref C_Layout) "last_id" = some none)
    (na_Layout_fan : PySem.W.findIn K (.ref C_Layout) "fan" = some none)
    (na_Layout_region_blocks : PySem.W.findIn K (.ref C_Layout) "region_blocks" = some none)
    (na_Layout_device_blocks : PySem.W.findIn K (.ref C_Layout) "device_blocks" = some none)
    (a_Layout___init : PySem.W.findIn K (.ref C_Layout) "__init__" = some (some (.ref f_Layout___init)))
    (i_Layout___init : PySem.W.isFn K (.ref f_Layout___init) = true)
    (l_Layout___init : K.lookup f_Layout___init = some ⟨oc_Layout___init, od_Layout___init, .func (PySem.W.fnOf "__init__" "Layout.__init__" (defArgs s_Layout___init) (defBody s_Layout___init) (defScope s_Layout___init) .none kV_Layout___init dc_Layout___init pm_Layout___init an_Layout___init cd_Layout___init ct_Layout___init), sl_Layout___init⟩)
    (c_Layout___init : PySem.W.codeIn K cd_Layout___init "Layout.__init__" = true)
    (k_Layout___init : PySem.W.keepIn K (.ref f_Layout___init) = true)
    (a_parts_of : PySem.W.nsIn K mainGlobals "parts_of" = some (some (.ref f_parts_of)))
    (l_parts_of : K.lookup f_parts_of = some ⟨oc_parts_of, od_parts_of, .func (PySem.W.fnOf "parts_of" "parts_of" (defArgs s_parts_of) (defBody s_parts_of) (defScope s_parts_of) .none kV_parts_of dc_parts_of pm_parts_of an_parts_of cd_parts_of ct_parts_of), sl_parts_of⟩)
    (c_parts_of : PySem.W.codeIn K cd_parts_of "parts_of" = true)
    (k_parts_of : PySem.W.keepIn K (.ref f_parts_of) = true)
    (a_read_numbers : PySem.W.nsIn K mainGlobals "read_numbers" = some (some (.ref f_read_numbers)))
    (l_read_numbers : K.lookup f_read_numbers = some ⟨oc_read_numbers, od_read_numbers, .func (PySem.W.fnOf "read_numbers" "read_numbers" (defArgs s_read_numbers) (defBody s_read_numbers) (defScope s_read_numbers) .none kV_read_numbers dc_read_numbers pm_read_numbers an_read_numbers cd_read_numbers ct_read_numbers), sl_read_numbers⟩)
    (c_read_numbers : PySem.W.codeIn K cd_read_numbers "read_numbers" = true)
    (k_read_numbers : PySem.W.keepIn K (.ref f_read_numbers) = true)
    (a_law_row : PySem.W.nsIn K mainGlobals "_law_row" = some (some (.ref f_law_row)))
    (l_law_row : K.lookup f_law_row = some ⟨oc_law_row, od_law_row, .func (PySem.W.fnOf "_law_row" "_law_row" (defArgs s_law_row) (defBody s_law_row) (defScope s_law_row) .none kV_law_row dc_law_row pm_law_row an_law_row cd_law_row ct_law_row), sl_law_row⟩)
    (c_law_row : PySem.W.codeIn K cd_law_row "_law_row" = true)
    (k_law_row : PySem.W.keepIn K (.ref f_law_row) = true)
    (a_law_digits : PySem.W.nsIn K mainGlobals "_law_digits" = some (some (.ref f_law_digits)))
    (l_law_digits : K.lookup f_law_digits = some ⟨oc_law_digits, od_law_digits, .func (PySem.W.fnOf "_law_digits" "_law_digits" (defArgs s_law_digits) (defBody s_law_digits) (defScope s_law_digits) .none kV_law_digits dc_law_digits pm_law_digits an_law_digits cd_law_digits ct_law_digits), sl_law_digits⟩)
    (c_law_digits : PySem.W.codeIn K cd_law_digits "_law_digits" = true)
    (k_law_digits : PySem.W.keepIn K (.ref f_law_digits) = true)
    (a_law_layout : PySem.W.nsIn K mainGlobals "_law_layout" = some (some (.ref f_law_layout)))
    (l_law_layout : K.lookup f_law_layout = some ⟨oc_law_layout, od_law_layout, .func (PySem.W.fnOf "_law_layout" "_law_layout" (defArgs s_law_layout) (defBody s_law_layout) (defScope s_law_layout) .none kV_law_layout dc_law_layout pm_law_layout an_law_layout cd_law_layout ct_law_layout), sl_law_layout⟩)
    (c_law_layout : PySem.W.codeIn K cd_law_layout "_law_layout" = true)
    (k_law_layout : PySem.W.keepIn K (.ref f_law_layout) = true)
    (a_law_table : PySem.W.nsIn K mainGlobals "_law_table" = some (some (.ref f_law_table)))
    (l_law_table : K.lookup f_law_table = some ⟨oc_law_table, od_law_table, .func (PySem.W.fnOf "_law_table" "_law_table" (defArgs s_law_table) (defBody s_law_table) (defScope s_law_table) .none kV_law_table dc_law_table pm_law_table an_law_table cd_law_table ct_law_table), sl_law_table⟩)
    (c_law_table : PySem.W.codeIn K cd_law_table "_law_table" = true)
    (k_law_table : PySem.W.keepIn K (.ref f_law_table) = true)
    (a_law_wrong : PySem.W.nsIn K mainGlobals "_law_wrong" = some (some (.ref f_law_wrong)))
    (l_law_wrong : K.lookup f_law_wrong = some ⟨oc_law_wrong, od_law_wrong, .func (PySem.W.fnOf "_law_wrong" "_law_wrong" (defArgs s_law_wrong) (defBody s_law_wrong) (defScope s_law_wrong) .none kV_law_wrong dc_law_wrong pm_law_wrong an_law_wrong cd_law_wrong ct_law_wrong), sl_law_wrong⟩)
    (c_law_wrong : PySem.W.codeIn K cd_law_wrong "_law_wrong" = true)
    (k_law_wrong : PySem.W.keepIn K (.ref f_law_wrong) = true)
    (a_law : PySem.W.nsIn K mainGlobals "law" = some (some (.ref f_law)))
    (l_law : K.lookup f_law = some ⟨oc_law, od_law, .func (PySem.W.fnOf "law" "law" (defArgs s_law) (defBody s_law) (defScope s_law) .none kV_law dc_law pm_law an_law cd_law ct_law), sl_law⟩)
    (c_law : PySem.W.codeIn K cd_law "law" = true)
    (k_law : PySem.W.keepIn K (.ref f_law) = true)
    (q_BLOCK_SIZES : PySem.W.nsIn K mainGlobals "BLOCK_SIZES" = some (some (.ref k_BLOCK_SIZES)))
    (y_BLOCK_SIZES : K.lookup k_BLOCK_SIZES = some ⟨.type "tuple", yd_BLOCK_SIZES, .seq #[.int 64 yt_BLOCK_SIZES_0, .int 128 yt_BLOCK_SIZES_1, .int 256 yt_BLOCK_SIZES_2] yn_BLOCK_SIZES, ys_BLOCK_SIZES⟩)
    (q_SLOTS : PySem.W.nsIn K mainGlobals "SLOTS" = some (some (.int 3 t_SLOTS)))
    (q_SUMMARY_HEAD : PySem.W.nsIn K mainGlobals "SUMMARY_HEAD" = some (some (.int 16 t_SUMMARY_HEAD)))
    (n_any : PySem.W.nsIn K mainGlobals "any" = some none)
    (n_int : PySem.W.nsIn K mainGlobals "int" = some none)
    (n_isinstance : PySem.W.nsIn K mainGlobals "isinstance" = some none)
    (n_len : PySem.W.nsIn K mainGlobals "len" = some none)
    (n_list : PySem.W.nsIn K mainGlobals "list" = some none)
    (n_range : PySem.W.nsIn K mainGlobals "range" = some none)
    (n_tuple : PySem.W.nsIn K mainGlobals "tuple" = some none)
    : ∃ fd : FuncData, (∀ (s : Shared) (v : Value), BindsTo s fd ⟨[v], []⟩ [("script", v)]) ∧ ∀ base : Heap, K.In base → base.Ns mainGlobals mg → FnOk l.prog w K mg base CX0 5 fa fd ["script"] (spLaw K) := by
  have e := hfa.symm.trans (PySem.W.mg_of X G a_law)
  cases e
  have F_Layout___init := fun_mk (st := s_Layout___init) l_Layout___init c_Layout___init k_Layout___init
  have b_Layout___init := F_Layout___init.binds (ps := ["self", "segments", "segment_blocks", "block_size"]) fun _ _ _ _ _ _ us hl => match us, hl with | [_, _, _, _], _ => rfl
  have F_parts_of := fun_mk (st := s_parts_of) l_parts_of c_parts_of k_parts_of
  have b_parts_of := F_parts_of.binds (ps := ["number", "size"]) fun _ _ _ _ _ _ us hl => match us, hl with | [_, _], _ => rfl
  have F_read_numbers := fun_mk (st := s_read_numbers) l_read_numbers c_read_numbers k_read_numbers
  have b_read_numbers := F_read_numbers.binds (ps := ["layout", "numbers"]) fun _ _ _ _ _ _ us hl => match us, hl with | [_, _], _ => rfl
  have F_law_row := fun_mk (st := s_law_row) l_law_row c_law_row k_law_row
  have b_law_row := F_law_row.binds (ps := ["script", "k"]) fun _ _ _ _ _ _ us hl => match us, hl with | [_, _], _ => rfl
  have F_law_digits := fun_mk (st := s_law_digits) l_law_digits c_law_digits k_law_digits
  have b_law_digits := F_law_digits.binds (ps := ["row", "sizes"]) fun _ _ _ _ _ _ us hl => match us, hl with | [_, _], _ => rfl
  have F_law_layout := fun_mk (st := s_law_layout) l_law_layout c_law_layout k_law_layout
  have b_law_layout := F_law_layout.binds (ps := ["row"]) fun _ _ _ _ _ _ us hl => match us, hl with | [_], _ => rfl
  have F_law_table := fun_mk (st := s_law_table) l_law_table c_law_table k_law_table
  have b_law_table := F_law_table.binds (ps := ["layout", "row", "most"]) fun _ _ _ _ _ _ us hl => match us, hl with | [_, _, _], _ => rfl
  have F_law_wrong := fun_mk (st := s_law_wrong) l_law_wrong c_law_wrong k_law_wrong
  have b_law_wrong := F_law_wrong.binds (ps := ["layout", "numbers", "slots", "count", "script"]) fun _ _ _ _ _ _ us hl => match us, hl with | [_, _, _, _, _], _ => rfl
  have F_law := fun_mk (st := s_law) l_law c_law k_law
  have b_law := F_law.binds (ps := ["script"]) fun _ _ _ _ _ _ us hl => match us, hl with | [_], _ => rfl
  let T : Txt K mg := {
    a_Layout___init := f_Layout___init,
    fd_Layout___init := _,
    F_Layout___init := F_Layout___init,
    b_Layout___init := b_Layout___init,
    a_parts_of := f_parts_of,
    fd_parts_of := _,
    F_parts_of := F_parts_of,
    b_parts_of := b_parts_of,
    m_parts_of := PySem.W.mg_of X G a_parts_of,
    a_read_numbers := f_read_numbers,
    fd_read_numbers := _,
    F_read_numbers := F_read_numbers,
    b_read_numbers := b_read_numbers,
    m_read_numbers := PySem.W.mg_of X G a_read_numbers,
    a_law_row := f_law_row,
    fd_law_row := _,
    F_law_row := F_law_row,
    b_law_row := b_law_row,
    m_law_row := PySem.W.mg_of X G a_law_row,
    a_law_digits := f_law_digits,
    fd_law_digits := _,
    F_law_digits := F_law_digits,
    b_law_digits := b_law_digits,
    m_law_digits := PySem.W.mg_of X G a_law_digits,
    a_law_layout := f_law_layout,
    fd_law_layout := _,
    F_law_layout := F_law_layout,
    b_law_layout := b_law_layout,
    m_law_layout := PySem.W.mg_of X G a_law_layout,
    a_law_table := f_law_table,
    fd_law_table := _,
    F_law_table := F_law_table,
    b_law_table := b_law_table,
    m_law_table := PySem.W.mg_of X G a_law_table,
    a_law_wrong := f_law_wrong,
    fd_law_wrong := _,
    F_law_wrong := F_law_wrong,
    b_law_wrong := b_law_wrong,
    m_law_wrong := PySem.W.mg_of X G a_law_wrong,
    a_law := fa,
    fd_law := _,
    F_law := F_law,
    b_law := b_law,
    m_law := PySem.W.mg_of X G a_law,
    A_Layout := C_Layout,
    m_Layout := PySem.W.mg_of X G mC_Layout,
    cl_Layout := ⟨pg_Layout, hd_Layout, po_Layout, sa_Layout⟩,
    M_Layout := ⟨mk_Layout, a_Layout___init, i_Layout___init, kc_Layout⟩,
    na_Layout_segments := na_Layout_segments,
    na_Layout_segment_blocks := na_Layout_segment_blocks,
    na_Layout_block_size := na_Layout_block_size,
    na_Layout_payload := na_Layout_payload,
    na_Layout_limit := na_Layout_limit,
    na_Layout_last_id := na_Layout_last_id,
    na_Layout_fan := na_Layout_fan,
    na_Layout_region_blocks := na_Layout_region_blocks,
    na_Layout_device_blocks := na_Layout_device_blocks,
    a_BLOCK_SIZES := k_BLOCK_SIZES,
    c_BLOCK_SIZES := PySem.W.mg_of X G q_BLOCK_SIZES,
    r_BLOCK_SIZES := rfl,
    v_BLOCK_SIZES := fun _ => .inr ⟨_, _, _, y_BLOCK_SIZES, rfl, rfl, Nat.le_of_ble_eq_true rfl, (.cons ⟨_, rfl⟩ (.cons ⟨_, rfl⟩ (.cons ⟨_, rfl⟩ .nil)))⟩,
    t_SLOTS := t_SLOTS,
    c_SLOTS := PySem.W.mg_of X G q_SLOTS,
    r_SLOTS := ⟨_, rfl⟩,
    t_SUMMARY_HEAD := t_SUMMARY_HEAD,
    c_SUMMARY_HEAD := PySem.W.mg_of X G q_SUMMARY_HEAD,
    r_SUMMARY_HEAD := ⟨_, rfl⟩,
    n_any := PySem.W.mg_none_of X G n_any,
    n_int := PySem.W.mg_none_of X G n_int,
    n_isinstance := PySem.W.mg_none_of X G n_isinstance,
    n_len := PySem.W.mg_none_of X G n_len,
    n_list := PySem.W.mg_none_of X G n_list,
    n_range := PySem.W.mg_none_of X G n_range,
    n_tuple := PySem.W.mg_none_of X G n_tuple }
  exact ⟨_, fun s v => .of_eq rfl, fun base _ _ => ok_law T⟩
theorem walk {l : PySem.W.OpenLaw} {q : Program} {loose : List Str} {XP : (Str → Option Value) → Heap → Prop} {YP : World → Heap → Prop} {d : DefRec} {K : Params → PySem.W.Frag} (hn : l.most = some 63) (hdf : d.params.defaults = [])
    (hY : ∀ (w : World) (h : Heap), YP w h → (K w.params).In h)
    (F : ∀ (w : World) (mg : Str → Option Value) (fa : Addr) (h : Heap), (K w.params).In h → h.Ns mainGlobals mg → mg d.name = some (.ref fa) →
      ∃ fd : FuncData, (∀ (s : Shared) (u : Value), BindsTo s fd ⟨[u], []⟩ [("script", u)]) ∧ ∀ base : Heap, (K w.params).In base → base.Ns mainGlobals mg → FnOk l.prog w (K w.params) mg base CX0 5 fa fd ["script"] (spLaw (K w.params))) :
    PySem.W.WalkO q loose XP YP l.row.toRowW d [] (fun f vs => PySem.call f vs) :=
  L2.walk_of (n := 63) (k := 5) (x := "script") (CX := fun _ => CX0) (sp := fun w => spLaw (K w.params)) hn (by decide) hdf ⟨rfl, by decide, by decide⟩ hY F (fun _ _ a ns hl hO hS => ⟨a, ns, rfl, hS, hl, fun _ => rfl⟩) fun _ _ _ _ _ z => z
end Sg

open PySem PySem.W PyProof.Rows in
set_option maxRecDepth 100000 in
set_option maxHeartbeats 0 in
theorem PySem.Challenge.cw_segmentfs_k09_numbers_of_a_checkpoint_ar_holds : PySem.Challenge.rw_segmentfs_k09_numbers_of_a_checkpoint_ar.Holds := by
  w_on; o_law; k_head; (case hw => w_witness2)
  k_fill
  refine Sg.walk (l := PySem.Challenge.rw_segmentfs_k09_numbers_of_a_checkpoint_ar) rfl rfl (fun w h Y => PySem.W.kIn_of Y) ?F
  case F =>
    intro w mg fa h KX G hmg
    refine' Sg.all_mk KX G hmg ?mC_Layout ?pg_Layout ?hd_Layout ?po_Layout ?sa_Layout ?mk_Layout ?kc_Layout ?na_Layout_segments ?na_Layout_segment_blocks ?na_Layout_block_size ?na_Layout_payload ?na_Layout_limit ?na_Layout_last_id ?na_Layout_fan ?na_Layout_region_blocks ?na_Layout_device_blocks ?a_Layout___init ?i_Layout___init ?l_Layout___init ?c_Layout___init ?k_Layout___init ?a_parts_of ?l_parts_of ?c_parts_of ?k_parts_of ?a_read_numbers ?l_read_numbers ?c_read_numbers ?k_read_numbers ?a_law_row ?l_law_row ?c_law_row ?k_law_row ?a_law_digits ?l_law_digits ?c_law_digits ?k_law_digits ?a_law_layout ?l_law_layout ?c_law_layout ?k_law_layout ?a_law_table ?l_law_table ?c_law_table ?k_law_table ?a_law_wrong ?l_law_wrong ?c_law_wrong ?k_law_wrong ?a_law ?l_law ?c_law ?k_law ?q_BLOCK_SIZES ?y_BLOCK_SIZES ?q_SLOTS ?q_SUMMARY_HEAD ?n_any ?n_int ?n_isinstance ?n_len ?n_list ?n_range ?n_tuple
    (case mC_Layout => k_is)
    (case pg_Layout => k_is)
    (case hd_Layout => k_is)
    (case po_Layout => k_is)
    (case sa_Layout => k_is)
    (case mk_Layout => k_is)
    (case kc_Layout => k_is)
    (case na_Layout_segments => k_is)
    (case na_Layout_segment_blocks => k_is)
    (case na_Layout_block_size => k_is)
    (case na_Layout_payload => k_is)
    (case na_Layout_limit => k_is)
    (case na_Layout_last_id => k_is)
    (case na_Layout_fan => k_is)
    (case na_Layout_region_blocks => k_is)
    (case na_Layout_device_blocks => k_is)
    (case a_Layout___init => k_is)
    (case i_Layout___init => k_is)
    (case l_Layout___init => k_is)
    (case c_Layout___init => k_is)
    (case k_Layout___init => k_is)
    (case a_parts_of => k_is)
    (case l_parts_of => k_is)
    (case c_parts_of => k_is)
    (case k_parts_of => k_is)
    (case a_read_numbers => k_is)
    (case l_read_numbers => k_is)
    (case c_read_numbers => k_is)
    (case k_read_numbers => k_is)
    (case a_law_row => k_is)
    (case l_law_row => k_is)
    (case c_law_row => k_is)
    (case k_law_row => k_is)
    (case a_law_digits => k_is)
    (case l_law_digits => k_is)
    (case c_law_digits => k_is)
    (case k_law_digits => k_is)
    (case a_law_layout => k_is)
    (case l_law_layout => k_is)
    (case c_law_layout => k_is)
    (case k_law_layout => k_is)
    (case a_law_table => k_is)
    (case l_law_table => k_is)
    (case c_law_table => k_is)
    (case k_law_table => k_is)
    (case a_law_wrong => k_is)
    (case l_law_wrong => k_is)
    (case c_law_wrong => k_is)
    (case k_law_wrong => k_is)
    (case a_law => k_is)
    (case l_law => k_is)
    (case c_law => k_is)
    (case k_law => k_is)
    (case q_BLOCK_SIZES => k_is)
    (case y_BLOCK_SIZES => k_is)
    (case q_SLOTS => k_is)
    (case q_SUMMARY_HEAD => k_is)
    (case n_any => k_is)
    (case n_int => k_is)
    (case n_isinstance => k_is)
    (case n_len => k_is)
    (case n_list => k_is)
    (case n_range => k_is)
    (case n_tuple => k_is)

