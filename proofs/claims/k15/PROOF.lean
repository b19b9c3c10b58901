import PyProof.Rows.All
import Wide.All
import OpenK.AllK
import Wide.FinOn
import HandS.ForMost
import HandS.IsInst
import HandS.Style
import HandS.Wide
import HandS.Codes
import HandS.NoneIn
import HandS.Defaults
import HandS.TupMul
import HandS.Zip
import HandS.SetFor
import HandS.Walk
import HandS.MakeKwOnly
import HandS.Style
import PySem.Challenge.RW_segmentfs_k15_batches_that_stand_whole
set_option Elab.async false
set_option maxRecDepth 100000
set_option maxHeartbeats 4000000
/-! what every text of mine begins with: heaps that grow, and a rule for each head that a reading has -/
namespace Sg
open PySem L2
theorem sz : sizeLine = 16777216 := by decide
theorem Same.of_new {H H' : Hp} {p : Addr} {o : HO} (e : upd H p o = H') (h : H p = none) : Same H H' := fun b u q => by
  rw [← e, upd_ne (ne_of_none q h)]; exact q
theorem at_new {H H' : Hp} {p : Addr} {o : HO} (e : upd H p o = H') : H' p = some o := by rw [← e]; exact upd_same
theorem Same.tup {K : PySem.W.Frag} {H H' : Hp} {a : Addr} {xs : List V} (e : Same H H') (h : SqT K H a xs) : SqT K H' a xs := by
  rcases h with (h | ⟨o, h⟩) | h
  · exact .inl (.inl (e _ _ h))
  · exact .inl (.inr ⟨o, e _ _ h⟩)
  · exact .inr h
/-- an object that is younger than H0 is changed -/
theorem Same.old {H0 H H' : Hp} {p : Addr} {o : HO} (s : Same H0 H) (h : H0 p = none) (e : upd H p o = H') : Same H0 H' := fun b u q => by
  rw [← e, upd_ne (ne_of_none q h)]; exact s _ _ q
theorem at_keep {H H' : Hp} {l a : Addr} {o o' ol : HO} (e : upd H l o' = H') (h : H a = some o) (h' : H l = some ol) (d : o ≠ ol) : H' a = some o := by
  rw [← e, upd_ne (ne_of h h' d)]; exact h
theorem lk_eq {f : Str} {v : V} {fs : List (Str × V)} : (putF f v fs).lookup f = some v := by rw [lookup_putF, if_pos rfl]
theorem lk_ne {f g : Str} {v x : V} {fs : List (Str × V)} (h : ¬ g = f) (q : fs.lookup g = some v) : (putF f x fs).lookup g = some v := by rw [lookup_putF, if_neg h]; exact q
theorem lk_no {f g : Str} {x : V} {fs : List (Str × V)} (h : ¬ g = f) (q : fs.lookup g = none) : (putF f x fs).lookup g = none := by rw [lookup_putF, if_neg h]; exact q
theorem putF_len {f : Str} {v : V} : ∀ {fs : List (Str × V)} {n : Nat}, fs.length ≤ n → (putF f v fs).length ≤ n + 1
  | [], n, _ => by simp [putF]
  | (g, x) :: r, n, h => by
    unfold putF
    split
    · simp at h ⊢; omega
    · cases n with
      | zero => simp at h
      | succ n =>
        simp at h ⊢
        exact putF_len h
theorem to_ite {A B : Prop} {b : Bool} (h1 : b = true → A) (h2 : b = false → B) : if b = true then A else B := by
  cases b with
  | true => exact iteT (h1 rfl)
  | false => exact iteF (h2 rfl)
theorem iteT' {A B : Prop} (h : A) : if (true : Bool) = true then A else B := iteT h
theorem iteF' {A B : Prop} (h : B) : if (false : Bool) = true then A else B := iteF h
theorem r_iteb {A B : Prop} {b : Bool} (hb : b = true) (h : A) : if b = true then A else B := to_ite (fun _ => h) fun z => by rw [hb] at z; cases z
theorem r_iteB {A B : Prop} {b : Bool} (hb : b = false) (h : B) : if b = true then A else B := to_ite (fun z => by rw [hb] at z; cases z) fun _ => h
theorem r_ite {A B c : Prop} [Decidable c] (h1 : c → A) (h2 : ¬ c → B) : if decide c = true then A else B :=
  to_ite (fun h => h1 (of_decide_eq_true h)) (fun h => h2 (of_decide_eq_false h))
theorem r_iteN {A B c : Prop} [Decidable c] (h1 : ¬ c → A) (h2 : c → B) : if (!decide c) = true then A else B :=
  to_ite (fun h => h1 (by simpa using h)) (fun h => h2 (by simpa using h))
theorem r_iteD {A B c : Prop} [Decidable c] (hc : c) (h : A) : if decide c = true then A else B := r_ite (fun _ => h) fun z => absurd hc z
theorem r_iteDn {A B c : Prop} [Decidable c] (hc : ¬ c) (h : B) : if decide c = true then A else B := r_ite (fun z => absurd z hc) fun _ => h
theorem r_iteND {A B c : Prop} [Decidable c] (hc : ¬ c) (h : A) : if (!decide c) = true then A else B := r_iteN (fun _ => h) fun z => absurd z hc
theorem r_iteNDn {A B c : Prop} [Decidable c] (hc : c) (h : B) : if (!decide c) = true then A else B := r_iteN (fun z => absurd hc z) fun _ => h
/-- the continuations of a reading, by name -/
def kTest (QB : Bool → Hp → Prop) : V → Hp → Prop := fun x H => ∃ k, x = .bl k ∧ QB k H
def kFld (K : PySem.W.Frag) (f : Str) (Q : V → Hp → Prop) : V → Hp → Prop := fun x H => ∃ a C dx fs v, x = .ref a ∧ H a = some (.ins C dx fs) ∧ Cls K C ∧ NoAttr K C f ∧ fs.lookup f = some v ∧ Q v H
def kSfld (K : PySem.W.Frag) (D : Ends) (σ : L2.St) (f : Str) (y : V) : V → Hp → Prop := fun x H => ∃ a C dx fs, x = .ref a ∧ H a = some (.ins C dx fs) ∧ Cls K C ∧ NoAttr K C f ∧ fs.length < 1000 ∧
  D.nx σ (upd H a (.ins C dx (putF f y fs)))
def kMeth (C : Addr) (m : Str) (sp : Sp) (dvs : List V) (E : XK) (σ : L2.St) (t : TA) (Q : V → Hp → Prop) : V → Hp → Prop := fun x H => ∃ a dx fs, x = .ref a ∧ H a = some (.ins C dx fs) ∧ fs.lookup m = none ∧ t σ H fun vs H2 => sp (x :: (vs ++ dvs)) H2 Q E
def kTup (Q : V → Hp → Prop) : List V → Hp → Prop := fun xs H => xs.length ≤ sizeLine ∧ ∀ p, H p = none → Q (.ref p) (upd H p (.tup xs))
def kLst (Q : V → Hp → Prop) : List V → Hp → Prop := fun xs H => xs.length ≤ sizeLine ∧ ∀ p, H p = none → Q (.ref p) (upd H p (.lst xs))
def rLen (K : PySem.W.Frag) : List V → Hp → (V → Hp → Prop) → Prop := fun xs H Q => ∃ p ys, xs = [.ref p] ∧ (SqL K H p ys ∨ SqT K H p ys) ∧ Q (.int ys.length) H
theorem c_len {X : Cx} : CallR X (.builtin "len") (rLen X.K) := call_len_seq
def rInt : List V → Hp → (V → Hp → Prop) → Prop := fun xs H Q => (∃ i, xs = [.int i] ∧ Q (.int i) H) ∨ ∃ k, xs = [.bl k] ∧ Q (.int (if k then 1 else 0)) H
theorem c_int {X : Cx} : CallR X (.type "int") rInt := call_int1
def rListOf (K : PySem.W.Frag) : List V → Hp → (V → Hp → Prop) → Prop := fun xs H Q => ∃ p ys, xs = [.ref p] ∧ (SqL K H p ys ∨ SqT K H p ys) ∧ ∀ l, H l = none → Q (.ref l) (upd H l (.lst ys))
theorem c_list {X : Cx} : CallR X (.type "list") (rListOf X.K) := call_list_of
def rTupOf (K : PySem.W.Frag) : List V → Hp → (V → Hp → Prop) → Prop := fun xs H Q => ∃ p ys, xs = [.ref p] ∧ ((SqL K H p ys ∧ ∀ l, H l = none → Q (.ref l) (upd H l (.tup ys))) ∨ (SqT K H p ys ∧ Q (.ref p) H))
theorem c_tuple {X : Cx} : CallR X (.type "tuple") (rTupOf X.K) := call_tuple_of
/-! the same rules within a comprehension: the written part by its own name -/
section
variable {X : Cx}
theorem c_listK (K : PySem.W.Frag) (h : X.K = K) : CallR X (.type "list") (rListOf K) := by subst h; exact c_list
theorem c_tupleK (K : PySem.W.Frag) (h : X.K = K) : CallR X (.type "tuple") (rTupOf K) := by subst h; exact c_tuple
theorem c_lenK (K : PySem.W.Frag) (h : X.K = K) : CallR X (.builtin "len") (rLen K) := by subst h; exact c_len
theorem ix_listK (K : PySem.W.Frag) (h : X.K = K) : IxR X (rIxL K) := by subst h; exact ix_list
theorem ix_tupK (K : PySem.W.Frag) (h : X.K = K) : IxR X (rIxT K) := by subst h; exact ix_tup
theorem op_in_seqK (K : PySem.W.Frag) (h : X.K = K) : OpR X (compareOp .In) (rIn K false) := by subst h; exact op_in_seq
theorem op_notIn_seqK (K : PySem.W.Frag) (h : X.K = K) : OpR X (compareOp .NotIn) (rIn K true) := by subst h; exact op_notIn_seq
theorem pe_fldK (K : PySem.W.Frag) (h : X.K = K) {e : Expr} {f : Str} {pos : Pos} {ta : TE} (he : PE X e ta) (hb : attributeBase e f X.env (eval e X.env) = eval e X.env) : PE X (.Attribute e f pos) (tFld K ta f) := by subst h; exact pe_fld he hb
end
section
variable {σ : L2.St} {H : Hp} {D : Ends} {t u : TS} {te ta tb tc : TE} {g : TG} {c ct cu : TT} {Q : VK} {QB : Bool → Hp → Prop} {QS : L2.St → Hp → Prop} {QA : List V → Hp → Prop} {v x y : V} {K : PySem.W.Frag} {a p l : Addr} {xs ys : List V} {i j : Int} {b : Bool}
theorem r_seq (h : t { D with nx := u D } σ H) : tSeq t u D σ H := h
theorem r_cut (Mid : L2.St → Hp → Prop) (h1 : t { D with nx := Mid } σ H) (h2 : ∀ σ' H', Mid σ' H' → u D σ' H') : C8.tCut t u D σ H := ⟨Mid, h1, h2⟩
/-- a test with nothing kept behind it -/
theorem r_cutS (h1 : t { D with nx := fun σ' H' => σ = σ' ∧ H = H' } σ H) (h2 : u D σ H) : C8.tCut t u D σ H := ⟨_, h1, fun _ _ ⟨e1, e2⟩ => by subst e1; subst e2; exact h2⟩
/-- .. but a heap that grew -/
theorem r_cutH (h1 : t { D with nx := fun σ' H' => σ = σ' ∧ L2.Same H H' } σ H) (h2 : ∀ H', L2.Same H H' → u D σ H') : C8.tCut t u D σ H := ⟨_, h1, fun _ _ ⟨e1, e2⟩ => by subst e1; exact h2 _ e2⟩
theorem r_asg (h : te σ H fun x H1 => g x σ H1 D.nx) : tAsg te g D σ H := h
theorem r_drop (h : te σ H fun _ H1 => D.nx σ H1) : tDrop te D σ H := h
theorem r_ret (h : te σ H D.rt) : tRet te D σ H := h
theorem r_ifs (h : c σ H fun b H1 => if b = true then t D σ H1 else u D σ H1) : tIfS c t u D σ H := h
theorem r_next (h : D.nx σ H) : tNext D σ H := h
theorem r_gname {n : Nat} (h : QS (σ.set n (some v)) H) : gName n v σ H QS := h
theorem r_gtup {n : Nat} {t : TGs} (hx : SqT K H a xs) (hl : xs.length = n) (h : t xs σ H QS) : gTup K n t (.ref a) σ H QS := ⟨a, xs, rfl, hx, hl, h⟩
theorem r_gunl {n : Nat} {t : TGs} (hx : SqL K H a xs) (hl : xs.length = n) (h : t xs σ H QS) : gUnl K n t (.ref a) σ H QS := ⟨a, xs, rfl, hx, hl, h⟩
theorem r_chain {r r' : R2} (h : ta σ H fun x H1 => tb σ H1 fun y H2 => r x y H2 fun z H3 => ∃ k, z = .bl k ∧ (if k = true then tc σ H3 fun w' H4 => r' y w' H4 Q else Q (.bl false) H3)) : tChain r r' ta tb tc σ H Q := h
theorem r_sfldL {C dx : Addr} {fs : List (Str × V)} {f : Str} (h : H a = some (.ins C dx fs)) (hc : Cls K C) (hn : NoAttr K C f) (hl : fs.length < 1000) (q : D.nx σ (upd H a (.ins C dx (putF f y fs)))) : kSfld K D σ f y (.ref a) H := ⟨a, C, dx, fs, rfl, h, hc, hn, hl, q⟩
theorem r_gmap {α : Type} {f : α → V} {y : α} {r : List α} {t : TG} {u : TGs} (h : t (f y) σ H fun σ' H' => u (List.map f r) σ' H' QS) : gCons t u (List.map f (y :: r)) σ H QS := ⟨_, _, rfl, h⟩
theorem r_gmapn {α : Type} {f : α → V} (h : QS σ H) : gNil (List.map f []) σ H QS := ⟨rfl, h⟩
theorem r_gnil (h : QS σ H) : gNil [] σ H QS := ⟨rfl, h⟩
theorem r_gcons {t : TG} {u : TGs} {r : List V} (h : t v σ H fun σ' H' => u r σ' H' QS) : gCons t u (v :: r) σ H QS := ⟨v, r, rfl, h⟩
theorem r_gsub {t : TSet} (h : ta σ H fun o H1 => tb σ H1 fun i H2 => t o i v H2 fun H3 => QS σ H3) : gSub ta tb t v σ H QS := h
theorem r_setl {k : Int} {n : Nat} {R : Hp → Prop} (h1 : H p = some (.lst xs)) (h2 : ixN xs.length k = some n) (q : R (upd H p (.lst (xs.set n v)))) : rSetL (.ref p) (.int k) v H R := ⟨p, xs, k, n, rfl, rfl, h1, h2, q⟩
theorem r_var {n : Nat} (h : σ[n]? = some (some v)) (q : Q v H) : tVar n σ H Q := ⟨v, h, q⟩
theorem r_c (q : Q v H) : tC v σ H Q := q
theorem r_op {r : R2} (h : ta σ H fun x H1 => tb σ H1 fun y H2 => r x y H2 Q) : tOp r ta tb σ H Q := h
theorem r_un {r : V → Hp → VK → Prop} (h : ta σ H fun x H1 => r x H1 Q) : tUn r ta σ H Q := h
theorem r_rI {C : Int → Int → Prop} {g : Int → Int → V} (hc : C i j) (q : Q (g i j) H) : rI C g (.int i) (.int j) H Q := ⟨i, j, rfl, rfl, hc, q⟩
theorem r_mod (hc : 0 < j) (q : ∀ z : Int, z = i % j → 0 ≤ z → z < j → Q (.int z) H) : rI (fun _ j => 0 < j) (fun i j => .int (i % j)) (.int i) (.int j) H Q :=
  ⟨i, j, rfl, rfl, hc, q _ rfl (Int.emod_nonneg i (by omega)) (Int.emod_lt_of_pos i hc)⟩
theorem r_rI0 {g : Int → Int → V} (q : Q (g i j) H) : rI0 g (.int i) (.int j) H Q := ⟨i, j, rfl, rfl, q⟩
theorem r_rU {g : Int → V} (q : Q (g i) H) : rU g (.int i) H Q := ⟨i, rfl, q⟩
theorem r_eq (hs : scal x y = true) (q : Q (.bl (decide (x = y))) H) : rEq x y H Q := ⟨hs, q⟩
theorem r_ne (hs : scal x y = true) (q : Q (.bl (!decide (x = y))) H) : rNe x y H Q := ⟨hs, q⟩
theorem r_eqi (q : Q (.bl (decide (i = j))) H) : rEq (.int i) (.int j) H Q := ⟨rfl, by
  rw [show decide (V.int i = V.int j) = decide (i = j) from by by_cases e : i = j <;> simp [e]]; exact q⟩
theorem r_nei (q : Q (.bl (!decide (i = j))) H) : rNe (.int i) (.int j) H Q := ⟨rfl, by
  rw [show decide (V.int i = V.int j) = decide (i = j) from by by_cases e : i = j <;> simp [e]]; exact q⟩
theorem r_nonR {A B : Prop} (h : A) : if (!decide (V.ref a = V.non)) = true then A else B := iteT' h
theorem r_nonN {A B : Prop} (h : B) : if (!decide (V.non = V.non)) = true then A else B := iteF' h
theorem r_isR {A B : Prop} (h : B) : if decide (V.ref a = V.non) = true then A else B := iteF' h
theorem r_isNN {A B : Prop} (h : A) : if decide (V.non = V.non) = true then A else B := iteT' h
theorem r_nonI {A B : Prop} (h : A) : if (!decide (V.int i = V.non)) = true then A else B := iteT' h
theorem r_isI {A B : Prop} (h : B) : if decide (V.int i = V.non) = true then A else B := iteF' h
theorem r_nil (q : QA [] H) : tNil σ H QA := q
theorem r_cons {tr : TA} (h : ta σ H fun x H1 => tr σ H1 fun xs H2 => QA (x :: xs) H2) : tCons ta tr σ H QA := h
theorem r_cb {r : List V → Hp → VK → Prop} {t : TA} (h : t σ H fun vs H1 => r vs H1 Q) : tCB r t σ H Q := h
theorem r_call {sp : Sp} {dvs : List V} {E : XK} {t : TA} (h : t σ H fun vs H1 => sp (vs ++ dvs) H1 Q E) : tCall sp dvs E t σ H Q := h
theorem r_make {C : Addr} {sp : Sp} {dvs : List V} {E : XK} {t : TA} (h : t σ H fun vs H1 => ∀ x dx, H1 x = none → H1 dx = none → dx ≠ x →
  sp (.ref x :: (vs ++ dvs)) (upd (upd H1 dx (.own x)) x (.ins C dx [])) (fun v H2 => v = .non ∧ Q (.ref x) H2) E) : tMake C sp dvs E t σ H Q := h
theorem r_meth {C : Addr} {m : Str} {sp : Sp} {dvs : List V} {E : XK} {t : TA} (h : ta σ H (kMeth C m sp dvs E σ t Q)) : tMeth C m sp dvs E ta t σ H Q := h
theorem r_methL {C : Addr} {dx : Addr} {fs : List (Str × V)} {m : Str} {sp : Sp} {dvs : List V} {E : XK} {t : TA} (h : H a = some (.ins C dx fs)) (hl : fs.lookup m = none) (q : t σ H fun vs H2 => sp (.ref a :: (vs ++ dvs)) H2 Q E) : kMeth C m sp dvs E σ t Q (.ref a) H := ⟨a, dx, fs, rfl, h, hl, q⟩
theorem r_fld {f : Str} (h : ta σ H (kFld K f Q)) : tFld K ta f σ H Q := h
theorem r_fldL {C dx : Addr} {fs : List (Str × V)} {f : Str} (h : H a = some (.ins C dx fs)) (hc : Cls K C) (hn : NoAttr K C f) (hl : fs.lookup f = some v) (q : Q v H) : kFld K f Q (.ref a) H := ⟨a, C, dx, fs, v, rfl, h, hc, hn, hl, q⟩
theorem r_sfld {f : Str} (h : tb σ H fun y H1 => ta σ H1 (kSfld K D σ f y)) : sFld K ta tb f D σ H := h
theorem r_test (h : te σ H (kTest QB)) : tTest te σ H QB := h
theorem r_tB (h : te σ H (kTest QB)) : tB te σ H QB := h
theorem r_exb (q : QB b H) : kTest QB (.bl b) H := ⟨b, rfl, q⟩
theorem r_and (h : ct σ H fun c H1 => if c = true then cu σ H1 QB else QB false H1) : tAnd ct cu σ H QB := h
theorem r_or (h : ct σ H fun c H1 => if c = true then QB true H1 else cu σ H1 QB) : tOr ct cu σ H QB := h
theorem r_not (h : ct σ H fun c H1 => QB (!c) H1) : tNot ct σ H QB := h
theorem r_andV (h : ta σ H fun x H1 => ∃ c, x = .bl c ∧ if c = true then tb σ H1 Q else Q (.bl false) H1) : tAndV ta tb σ H Q := h
theorem r_orV (h : ta σ H fun x H1 => ∃ c, x = .bl c ∧ if c = true then Q (.bl true) H1 else tb σ H1 Q) : tOrV ta tb σ H Q := h
theorem r_exbP {A : Bool → Prop} (q : A b) : ∃ c, V.bl b = .bl c ∧ A c := ⟨b, rfl, q⟩
theorem r_notV (h : ta σ H fun x H1 => ∃ c, x = .bl c ∧ Q (.bl (!c)) H1) : tNotV ta σ H Q := h
theorem r_tif (h : c σ H fun b H1 => if b = true then ta σ H1 Q else tb σ H1 Q) : tIf c ta tb σ H Q := h
theorem r_isN (h : ta σ H fun x H1 => Q (.bl (decide (x = .non))) H1) : tIsN ta σ H Q := h
theorem r_notN (h : ta σ H fun x H1 => Q (.bl (!decide (x = .non))) H1) : tNotN ta σ H Q := h
theorem r_tup {t : TA} (h : t σ H (kTup Q)) : tTup t σ H Q := h
theorem r_lst {t : TA} (h : t σ H (kLst Q)) : tLst t σ H Q := h
theorem r_ktup (hl : xs.length ≤ sizeLine) (h : ∀ p, H p = none → Q (.ref p) (upd H p (.tup xs))) : kTup Q xs H := ⟨hl, h⟩
theorem r_klst (hl : xs.length ≤ sizeLine) (h : ∀ p, H p = none → Q (.ref p) (upd H p (.lst xs))) : kLst Q xs H := ⟨hl, h⟩
theorem r_ixl (h : SqL K H p xs) (e : atI xs i = some v) (q : Q v H) : rIxL K (.ref p) (.int i) H Q := ⟨p, xs, i, v, rfl, rfl, h, e, q⟩
theorem r_ixt (h : SqT K H p xs) (e : atI xs i = some v) (q : Q v H) : rIxT K (.ref p) (.int i) H Q := ⟨p, xs, i, v, rfl, rfl, h, e, q⟩
theorem r_int (q : Q (.int i) H) : rInt [V.int i] H Q := .inl ⟨i, rfl, q⟩
theorem r_lenl (h : SqL K H p xs) (q : Q (.int xs.length) H) : rLen K [V.ref p] H Q := ⟨p, xs, rfl, .inl h, q⟩
theorem r_lent (h : SqT K H p xs) (q : Q (.int xs.length) H) : rLen K [V.ref p] H Q := ⟨p, xs, rfl, .inr h, q⟩
theorem r_listl (h : SqL K H p xs) (q : ∀ l, H l = none → Q (.ref l) (upd H l (.lst xs))) : rListOf K [V.ref p] H Q := ⟨p, xs, rfl, .inl h, q⟩
theorem r_listt (h : SqT K H p xs) (q : ∀ l, H l = none → Q (.ref l) (upd H l (.lst xs))) : rListOf K [V.ref p] H Q := ⟨p, xs, rfl, .inr h, q⟩
theorem r_tupl (h : SqL K H p xs) (q : ∀ l, H l = none → Q (.ref l) (upd H l (.tup xs))) : rTupOf K [V.ref p] H Q := ⟨p, xs, rfl, .inl ⟨h, q⟩⟩
theorem r_tupt (h : SqT K H p xs) (q : Q (.ref p) H) : rTupOf K [V.ref p] H Q := ⟨p, xs, rfl, .inr ⟨h, q⟩⟩
theorem r_in {neg : Bool} (h : SqL K H p xs ∨ SqT K H p xs) (fx : flatV x = true) (fs : xs.all flatV = true) (q : Q (.bl (if neg = true then !inV x xs else inV x xs)) H) : rIn K neg x (.ref p) H Q := ⟨p, xs, rfl, h, fx, fs, q⟩
theorem r_bm {T : String} {r : V → List V → Hp → VK → Prop} {t : TA} (h : ta σ H fun x H1 => tyV K T x H1 ∧ t σ H1 fun xs H2 => r x xs H2 Q) : tBM K T r ta t σ H Q := h
theorem r_bm0 {T : String} {r : V → List V → Hp → VK → Prop} (h : ta σ H fun x H1 => tyV K T x H1 ∧ r x [] H1 Q) : tBM0 K T r ta σ H Q := h
theorem r_tyl {A : Prop} (h : SqL K H l xs) (q : A) : tyV K "list" (.ref l) H ∧ A := ⟨.inl ⟨rfl, _, h⟩, q⟩
theorem r_app (h : H l = some (.lst xs)) (hl : xs.length < sizeLine) (q : Q .non (upd H l (.lst (xs ++ [v])))) : rAppend (.ref l) [v] H Q := ⟨l, xs, v, rfl, rfl, h, hl, q⟩
theorem r_isi {c : V} {t u : Value} (hc : ClsV c u) (ht : TyX K H x t) (hk : PySem.W.kitOne K t u = some b) (q : Q (.bl b) H) : rIsi K [x, c] H Q := ⟨x, c, t, u, b, rfl, hc, ht, hk, q⟩
theorem r_isb {a b : Bool} (q : Q (.bl (decide (a = b))) H) : rIsB (.bl a) (.bl b) H Q := ⟨a, b, rfl, rfl, q⟩
theorem r_notb {a b : Bool} (q : Q (.bl (!decide (a = b))) H) : rNotB (.bl a) (.bl b) H Q := ⟨a, b, rfl, rfl, q⟩
theorem r_eqd {d e : PyData} (h1 : Dp K H x d) (h2 : Dp K H y e) (s1 : SeqAt.shaped d = true) (s2 : SeqAt.shaped e = true) (q : Q (.bl (PyData.eqv d e)) H) : rEqD K x y H Q := ⟨d, e, h1, h2, s1, s2, q⟩
theorem r_ned {d e : PyData} (h1 : Dp K H x d) (h2 : Dp K H y e) (s1 : SeqAt.shaped d = true) (s2 : SeqAt.shaped e = true) (q : Q (.bl (!PyData.eqv d e)) H) : rNeD K x y H Q := ⟨d, e, h1, h2, s1, s2, q⟩
theorem r_rep {k : Int} (h : H l = some (.lst xs)) (h1 : -(2 ^ 63) ≤ k) (h2 : k < 2 ^ 63) (hz : xs.length * k.toNat ≤ sizeLine) (q : ∀ p, H p = none → Q (.ref p) (upd H p (.lst (List.replicate k.toNat xs).flatten))) : rRep (.ref l) (.int k) H Q := ⟨l, k, xs, rfl, rfl, h, h1, h2, hz, q⟩
theorem r_cat (h : H l = some (.lst xs)) (h' : H p = some (.lst ys)) (hz : xs.length + ys.length ≤ sizeLine) (q : ∀ r, H r = none → Q (.ref r) (upd H r (.lst (xs ++ ys)))) : rCat (.ref l) (.ref p) H Q := ⟨l, p, xs, ys, rfl, rfl, h, h', hz, q⟩
theorem r_aug {n : Nat} {ti : TIp} (h : σ[n]? = some (some x)) (q : te σ H fun y H1 => ti x y H1 fun z H2 => D.nx (σ.set n (some z)) H2) : tAug n te ti D σ H := ⟨x, h, q⟩
theorem r_ipI {f : Int → Int → Int} (q : Q (.int (f i j)) H) : ipI f (.int i) (.int j) H Q := ⟨i, j, rfl, rfl, q⟩
theorem r_sorted {ns : List Int} (h : SqL K H a (ns.map V.int)) (h64 : ns.length < 64) (q : ∀ (ns' : List Int) (p : Addr), ns'.Perm ns → ns'.Pairwise (· ≤ ·) → H p = none → Q (.ref p) (upd H p (.lst (ns'.map V.int)))) : rSorted K [.ref a] H Q := ⟨a, ns, rfl, h, h64, q⟩
end
/-! slices, texts -/
def kPart (Q : Option Int → Hp → Prop) : V → Hp → Prop := fun x H => ∃ i, x = .int i ∧ Q (some i) H
section
variable {σ : L2.St} {H : Hp} {te : TE} {tl th : TO} {Q : V → Hp → Prop} {QO : Option Int → Hp → Prop} {K : PySem.W.Frag} {a : Addr} {xs : List V} {lo hi : Option Int} {i : Int} {z : Str}
theorem r_sl {r : V → Option Int → Option Int → Hp → VK → Prop} (h : te σ H fun x H1 => tl σ H1 fun l H2 => th σ H2 fun u H3 => r x l u H3 Q) : tSl r te tl th σ H Q := h
theorem r_noP (q : QO none H) : tNoPart σ H QO := q
theorem r_part (h : te σ H (kPart QO)) : tPart te σ H QO := h
theorem r_kPart (q : QO (some i) H) : kPart QO (.int i) H := ⟨i, rfl, q⟩
theorem r_slS (hl : z.length ≤ 1000000) (q : Q (.str (cutS z lo hi)) H) : rSlS (.str z) lo hi H Q := ⟨z, rfl, by rw [sz]; omega, q⟩
theorem r_slL (h : SqL K H a xs) (q : ∀ p, H p = none → Q (.ref p) (upd H p (.lst (cutV xs lo hi)))) : rSlL K (.ref a) lo hi H Q := ⟨a, xs, rfl, h, q⟩
end
/-! loops and comprehensions -/
def kLc (g : TG) (tt : TT) (te : TE) (vs : List Nat) (σ : L2.St) (Q : V → Hp → Prop) : It → Hp → Prop := fun J H1 => ∀ D, H1 D = none → ∃ W : Nat → Nat → Hp → Prop, (∃ m, W 0 m (upd H1 D (.lst []))) ∧ ∀ i m H, W i m H →
  (J.stop i H ∧ Q (.ref D) H) ∨ (J.go i H ∧ ∃ Nx : Hp → Prop, (∀ H', Nx H' → ∃ m', m' < m ∧ W (i + 1) m' H') ∧ ∀ x H', J.yld i H x H' → g x (wipe σ vs) H' fun σ2 H2 => wipe σ2 vs = wipe σ vs ∧ tt σ2 H2 fun b H3 =>
    if b = true then te σ2 H3 fun y H4 => ∃ acc, H4 D = some (.lst acc) ∧ acc.length < sizeLine ∧ Nx (upd H4 D (.lst (acc ++ [y]))) else Nx H3)
def kR1 (R : It → Hp → Prop) : List V → Hp → Prop := fun vs H1 => ∃ j : Int, vs = [.int j] ∧ -(2 ^ 62) ≤ j ∧ j < 2 ^ 62 ∧ R (Itr 0 j.toNat) H1
def kR2 (R : It → Hp → Prop) : List V → Hp → Prop := fun vs H1 => ∃ i j : Int, vs = [.int i, .int j] ∧ (-(2 ^ 62) ≤ i ∧ i < 2 ^ 62 ∧ -(2 ^ 62) ≤ j ∧ j < 2 ^ 62) ∧ R (Itr i (j - i).toNat) H1
def kIl (K : PySem.W.Frag) (R : It → Hp → Prop) : V → Hp → Prop := fun x H1 => ∃ a, x = .ref a ∧ (∃ xs, SqL K H1 a xs) ∧ R (Itl K a) H1
def kIt (K : PySem.W.Frag) (R : It → Hp → Prop) : V → Hp → Prop := fun x H1 => ∃ a, x = .ref a ∧ (∃ xs, SqT K H1 a xs) ∧ R (Itt K a) H1
def kFor (g : TG) (tb : TS) (D : Ends) (σ : L2.St) : It → Hp → Prop := fun J H1 => ∃ W : Nat → Nat → L2.St → Hp → Prop, (∃ m, W 0 m σ H1) ∧ ∀ i m σ H, W i m σ H →
  (J.stop i H ∧ D.nx σ H) ∨ (J.go i H ∧ ∃ N : L2.St → Hp → Prop, (∀ σ' H', N σ' H' → ∃ m', m' < m ∧ W (i + 1) m' σ' H') ∧ ∀ x H', J.yld i H x H' → g x σ H' fun σ2 H2 => tb { D with nx := N, ct := N, bk := D.nx } σ2 H2)
section
variable {σ : L2.St} {H : Hp} {D : Ends} {te : TE} {ta : TA} {g : TG} {tt : TT} {tb : TS} {wi : TI} {vs : List Nat} {Q : V → Hp → Prop} {R : It → Hp → Prop} {K : PySem.W.Frag} {a : Addr} {xs : List V} {i j : Int}
theorem r_lc (h : wi σ H (kLc g tt te vs σ Q)) : tLc wi g tt te vs σ H Q := h
theorem r_for (h : wi σ H (kFor g tb D σ)) : tFor wi g tb D σ H := h
theorem r_irng1 (h : ta σ H (kR1 R)) : iRng1 ta σ H R := h
theorem r_irng2 (h : ta σ H (kR2 R)) : iRng2 ta σ H R := h
theorem r_ilist (h : te σ H (kIl K R)) : iList K te σ H R := h
theorem r_itup (h : te σ H (kIt K R)) : iTup K te σ H R := h
theorem r_kR1 (h1 : -(2 ^ 62) ≤ j) (h2 : j < 2 ^ 62) (h : R (Itr 0 j.toNat) H) : kR1 R [.int j] H := ⟨j, rfl, h1, h2, h⟩
theorem r_kR2 (h1 : -(2 ^ 62) ≤ i ∧ i < 2 ^ 62 ∧ -(2 ^ 62) ≤ j ∧ j < 2 ^ 62) (h : R (Itr i (j - i).toNat) H) : kR2 R [.int i, .int j] H := ⟨i, j, rfl, h1, h⟩
theorem r_kIl (h1 : SqL K H a xs) (h : R (Itl K a) H) : kIl K R (.ref a) H := ⟨a, rfl, ⟨_, h1⟩, h⟩
theorem r_kIt (h1 : SqT K H a xs) (h : R (Itt K a) H) : kIt K R (.ref a) H := ⟨a, rfl, ⟨_, h1⟩, h⟩
theorem r_forR {lo : Int} {n : Nat} (Pv : Nat → L2.St → Hp → Prop) (h0 : Pv 0 σ H)
    (hs : ∀ i σ H, i < n → Pv i σ H → g (.int (lo + i)) σ H fun σ2 H2 => tb { D with nx := Pv (i + 1), ct := Pv (i + 1), bk := D.nx } σ2 H2) (hd : ∀ σ H, Pv n σ H → D.nx σ H) : kFor g tb D σ (Itr lo n) H := for_range Pv h0 hs hd
theorem r_forL (Pv : Nat → L2.St → Hp → Prop) (h0 : Pv 0 σ H) (hl : ∀ i σ H, i ≤ xs.length → Pv i σ H → SqL K H a xs)
    (hs : ∀ i x σ H, xs[i]? = some x → Pv i σ H → g x σ H fun σ2 H2 => tb { D with nx := Pv (i + 1), ct := Pv (i + 1), bk := D.nx } σ2 H2) (hd : ∀ σ H, Pv xs.length σ H → D.nx σ H) : kFor g tb D σ (Itl K a) H := for_list Pv h0 hl hs hd
theorem r_forT (Pv : Nat → L2.St → Hp → Prop) (h0 : Pv 0 σ H) (hl : ∀ i σ H, i ≤ xs.length → Pv i σ H → SqT K H a xs)
    (hs : ∀ i x σ H, xs[i]? = some x → Pv i σ H → g x σ H fun σ2 H2 => tb { D with nx := Pv (i + 1), ct := Pv (i + 1), bk := D.nx } σ2 H2) (hd : ∀ σ H, Pv xs.length σ H → D.nx σ H) : kFor g tb D σ (Itt K a) H := for_tup Pv h0 hl hs hd
/-- [e for x in range], e an int -/
theorem r_lcI {lo : Int} {n slot : Nat} (P : Nat → Int → Prop) (hn : n ≤ 100000) (hv : vs = [slot])
    (hs : ∀ (i : Nat) (H' : Hp), i < n → L2.Same H H' → ∀ R : V → Hp → Prop, (∀ z : Int, P i z → R (.int z) H') → te ((wipe σ vs).set slot (some (.int (lo + i)))) H' R)
    (q : ∀ (H' : Hp) (l : Addr) (zs : List Int), L2.Same H H' → H l = none → H' l = some (.lst (zs.map V.int)) → zs.length = n → (∀ (i : Nat) (z : Int), zs[i]? = some z → P i z) → Q (.ref l) H') :
    kLc (gName slot) tYes te vs σ Q (Itr lo n) H := by
  intro L hL
  have hw : ∀ (τ : L2.St) (x : V), wipe (τ.set slot (some x)) [slot] = wipe τ [slot] := fun τ x => by simp [wipe, List.set_set]
  have hw2 : wipe (wipe σ vs) vs = wipe σ vs := by subst hv; simp [wipe, List.set_set]
  refine lc_range (fun i H' => ∃ zs : List Int, zs.length = i ∧ H' L = some (.lst (zs.map V.int)) ∧ L2.Same H H' ∧ ∀ (k : Nat) (z : Int), zs[k]? = some z → P k z) ⟨[], rfl, upd_same, fun b o e => by rw [upd_ne (ne_of_none e hL)]; exact e, fun k z e => by simp at e⟩ ?_ ?_
  · rintro i H' hi ⟨zs, el, eL, s, hp⟩
    refine ⟨?_, ?_⟩
    · subst hv
      rw [hw]
      exact hw2
    · show te ((wipe σ vs).set slot (some (.int (lo + i)))) H' _
      refine hs i H' hi s _ fun z hz => ⟨_, eL, ?_, zs ++ [z], ?_, ?_, ?_, ?_⟩
      · rw [List.length_map, el]
        exact Nat.lt_of_lt_of_le (Nat.lt_of_lt_of_le hi hn) (by decide)
      · rw [List.length_append, el]; rfl
      · rw [upd_same, List.map_append]; rfl
      · intro b o e
        rw [upd_ne (ne_of_none e hL)]
        exact s _ _ e
      · intro k y e
        rw [List.getElem?_append] at e
        split at e
        · exact hp k y e
        · rename_i hk
          have ek : k = zs.length := by
            have := (List.getElem?_eq_some_iff.mp e).1
            simp at this
            omega
          subst ek
          simp at e
          rw [el, ← e]
          exact hz
  · rintro H' ⟨zs, el, eL, s, hp⟩
    exact q H' L zs s hL eL el hp
end
end Sg
/-! data behind values, as the heap grows -/
namespace Sg
open PySem L2
mutual
theorem Dp.mono {K : PySem.W.Frag} {H H' : Hp} (s : L2.Same H H') : ∀ (d : PyData) (v : V), Dp K H v d → Dp K H' v d
  | .none, _, h => by cases h; exact .non
  | .bool b, _, h => by cases h; exact .bl b
  | .int i, _, h => by cases h; exact .int i
  | .str x, _, h => by cases h; exact .str x
  | .list ds, _, h => by
    cases h with
    | lst hs ha => exact .lst (L2.Same.seq s hs) (DpAll.mono s ds _ ha)
  | .tuple ds, _, h => by
    cases h with
    | tup hs ha => exact .tup (Sg.Same.tup s hs) (DpAll.mono s ds _ ha)
  | .dict _, _, h => by cases h
theorem DpAll.mono {K : PySem.W.Frag} {H H' : Hp} (s : L2.Same H H') : ∀ (ds : List PyData) (vs : List V), DpAll K H vs ds → DpAll K H' vs ds
  | [], _, h => by cases h; exact .nil
  | d :: ds, _, h => by
    cases h with
    | cons h1 h2 => exact .cons (Dp.mono s d _ h1) (DpAll.mono s ds _ h2)
end
theorem DpAll.ints {K : PySem.W.Frag} {H : Hp} : ∀ ns : List Int, DpAll K H (ns.map V.int) (ns.map PyData.int)
  | [] => .nil
  | n :: ns => .cons (.int n) (DpAll.ints ns)
theorem DpAll.at {K : PySem.W.Frag} {H : Hp} : ∀ {vs : List V} {ds : List PyData}, DpAll K H vs ds → ∀ (i : Nat) (v : V), vs[i]? = some v → ∃ d, ds[i]? = some d ∧ Dp K H v d
  | _, _, .nil, i, v, e => by simp at e
  | _, _, .cons h t, 0, v, e => by simp at e; subst e; exact ⟨_, rfl, h⟩
  | _, _, .cons h t, i + 1, v, e => by
    obtain ⟨d, e1, h1⟩ := DpAll.at t i v (by simpa using e)
    exact ⟨d, by simpa using e1, h1⟩
theorem DpAll.length {K : PySem.W.Frag} {H : Hp} : ∀ {vs : List V} {ds : List PyData}, DpAll K H vs ds → vs.length = ds.length
  | _, _, .nil => rfl
  | _, _, .cons _ t => by simp [DpAll.length t]
/-- data that can be compared, at most n deep -/
def Fl (n : Nat) (d : PyData) : Prop := d.canLay0 = true ∧ d.depth ≤ n
theorem Fl.int (i : Int) (n : Nat) : Fl n (.int i) := ⟨by simp [PyData.canLay0], by simp [PyData.depth]⟩
theorem Fl.non (n : Nat) : Fl n .none := ⟨by simp [PyData.canLay0], by simp [PyData.depth]⟩
theorem Fl.bool (b : Bool) (n : Nat) : Fl n (.bool b) := ⟨by simp [PyData.canLay0], by simp [PyData.depth]⟩
theorem Fl.all {n : Nat} : ∀ {ds : List PyData}, (∀ d ∈ ds, Fl n d) → PyData.canLayAll0 ds = true ∧ PyData.depthAll ds ≤ n
  | [], _ => ⟨by simp [PyData.canLayAll0], by simp [PyData.depthAll]⟩
  | d :: ds, h => by
    obtain ⟨h1, h2⟩ := h d List.mem_cons_self
    obtain ⟨h3, h4⟩ := Fl.all (ds := ds) fun x hx => h x (List.mem_cons_of_mem _ hx)
    refine ⟨by simp [PyData.canLayAll0, h1, h3], ?_⟩
    simp only [PyData.depthAll]
    exact Nat.max_le.mpr ⟨h2, h4⟩
theorem Fl.tup {n : Nat} {ds : List PyData} (h : ∀ d ∈ ds, Fl n d) : Fl (n + 1) (.tuple ds) := by
  obtain ⟨h1, h2⟩ := Fl.all h
  exact ⟨by simp [PyData.canLay0, h1], by simp only [PyData.depth]; omega⟩
theorem Fl.lst {n : Nat} {ds : List PyData} (h : ∀ d ∈ ds, Fl n d) : Fl (n + 1) (.list ds) := by
  obtain ⟨h1, h2⟩ := Fl.all h
  exact ⟨by simp [PyData.canLay0, h1], by simp only [PyData.depth]; omega⟩
theorem Fl.mono {n m : Nat} {d : PyData} (h : Fl n d) (hm : n ≤ m) : Fl m d := ⟨h.1, Nat.le_trans h.2 hm⟩
theorem Fl.ints (ns : List Int) : Fl 1 (.tuple (ns.map PyData.int)) := Fl.tup fun d hd => by
  obtain ⟨i, _, rfl⟩ := List.mem_map.mp hd
  exact Fl.int i 0
theorem Fl.intl (ns : List Int) : Fl 1 (.list (ns.map PyData.int)) := Fl.lst fun d hd => by
  obtain ⟨i, _, rfl⟩ := List.mem_map.mp hd
  exact Fl.int i 0
theorem Fl.nil {n : Nat} : ∀ d ∈ ([] : List PyData), Fl n d := fun d h => by cases h
theorem Fl.cons {n : Nat} {d : PyData} {ds : List PyData} (h : Fl n d) (t : ∀ x ∈ ds, Fl n x) : ∀ x ∈ d :: ds, Fl n x := fun x hx => by
  rcases List.mem_cons.mp hx with rfl | hx
  · exact h
  · exact t x hx
theorem Fl.mapi {n : Nat} {ns : List Int} : ∀ d ∈ ns.map PyData.int, Fl n d := fun d hd => by
  obtain ⟨i, _, rfl⟩ := List.mem_map.mp hd
  exact Fl.int i n
theorem Fl.shaped {n : Nat} {d : PyData} (h : Fl n d) (hn : n ≤ 64 := by decide) : SeqAt.shaped d = true := by
  unfold SeqAt.shaped
  rw [h.1, decide_eq_true (Nat.le_trans h.2 hn)]
  rfl
theorem Fl.self {n : Nat} {d : PyData} (h : Fl n d) : PyData.eqv d d = true := SeqAt.eqv_refl d h.1
/-! lists of ints -/
theorem ixN_ok {n : Nat} {k : Int} (h0 : 0 ≤ k) (h1 : k < n) : ixN n k = some k.toNat := by unfold ixN; rw [if_pos h0, if_pos h1]
theorem at_ints {ts : List Int} {k : Int} (h0 : 0 ≤ k) (h1 : k < ts.length) : atI (ts.map V.int) k = some (.int (ts.getD k.toNat 0)) := by
  obtain ⟨n, rfl⟩ := Int.eq_ofNat_of_zero_le h0
  have hn : n < ts.length := by omega
  refine atI_nat ?_
  rw [List.getElem?_map, List.getElem?_eq_getElem hn, List.getD_eq_getElem?_getD, Int.toNat_natCast, List.getElem?_eq_getElem hn]
  rfl
theorem rep_ints (n : Nat) (z : Int) : (List.replicate n [V.int z]).flatten = (List.replicate n z).map V.int := by
  induction n with
  | zero => rfl
  | succ n ih => rw [List.replicate_succ, List.flatten_cons, ih, List.replicate_succ, List.map_cons]; rfl
theorem set_ints (ts : List Int) (n : Nat) (z : Int) : (ts.map V.int).set n (.int z) = (ts.set n z).map V.int := by rw [List.map_set]
theorem eqv_ints {as bs : List Int} : PyData.eqv (.list (as.map PyData.int)) (.list (bs.map PyData.int)) = decide (as = bs) := by
  rw [PyData.eqv]
  induction as generalizing bs with
  | nil => cases bs <;> simp [PyData.eqvAll]
  | cons a as ih =>
    cases bs with
    | nil => simp [PyData.eqvAll]
    | cons b bs =>
      rw [List.map_cons, List.map_cons, PyData.eqvAll, ih, PyData.eqv]
      by_cases e : a = b
      · subst e; simp
      · simp [e]
theorem Dp.ints {K : PySem.W.Frag} {H : Hp} {a : Addr} {ns : List Int} (h : SqL K H a (ns.map V.int)) : Dp K H (.ref a) (.list (ns.map PyData.int)) := .lst h (DpAll.ints ns)
theorem Fl.intlS (ns : List Int) : SeqAt.shaped (.list (ns.map PyData.int)) = true := (Fl.intl ns).shaped
/-! a comprehension over a list, its items anything -/
/-- the heap without the list that grows -/
def hid (D : Addr) (H : Hp) : Hp := fun b => if b = D then none else H b
theorem hid_ne {D b : Addr} {H : Hp} (h : b ≠ D) : hid D H b = H b := by unfold hid; rw [if_neg h]
theorem hid_at {D : Addr} {H : Hp} : hid D H D = none := by unfold hid; rw [if_pos rfl]
theorem hid_same {D : Addr} {H : Hp} : L2.Same (hid D H) H := fun b o e => by
  by_cases hb : b = D
  · rw [hb, hid_at] at e; cases e
  · rw [hid_ne hb] at e; exact e
theorem of_hid {D b : Addr} {H : Hp} {o : HO} (e : hid D H b = some o) : b ≠ D ∧ H b = some o := by
  by_cases hb : b = D
  · rw [hb, hid_at] at e; cases e
  · rw [hid_ne hb] at e; exact ⟨hb, e⟩
theorem same_hid {D : Addr} {H H' : Hp} (s : L2.Same H H') (n : H D = none) : L2.Same H (hid D H') := fun b o e => by
  rw [hid_ne (ne_of_none e n)]; exact s _ _ e
theorem hid_upd {D : Addr} {H : Hp} {o : HO} : hid D (upd H D o) = hid D H := by
  funext b
  by_cases hb : b = D
  · rw [hb, hid_at, hid_at]
  · rw [hid_ne hb, hid_ne hb, upd_ne hb]
theorem hid_none {D : Addr} {H : Hp} (n : H D = none) : hid D H = H := by
  funext b
  by_cases hb : b = D
  · rw [hb, hid_at, n]
  · rw [hid_ne hb]
theorem r_lcL {K : PySem.W.Frag} {a : Addr} {xs : List V} {slot : Nat} {vs : List Nat} {te : TE} {σ : L2.St} {H : Hp} {Q : V → Hp → Prop} (P : Nat → List V → Hp → Prop) (hx : SqL K H a xs) (hn : xs.length ≤ 100000) (hv : vs = [slot])
    (h0 : P 0 [] H)
    (hs : ∀ (i : Nat) (x : V) (acc : List V) (H0 H' : Hp), xs[i]? = some x → L2.Same H H0 → P i acc H0 → L2.Same H0 H' → ∀ R : V → Hp → Prop,
      (∀ (v : V) (H'' : Hp), L2.Same H' H'' → (∀ D, H0 D = none → H' D ≠ none → P (i + 1) (acc ++ [v]) (hid D H'')) → R v H'') → te ((wipe σ vs).set slot (some x)) H' R)
    (q : ∀ (H' : Hp) (l : Addr) (acc : List V), L2.Same H H' → H l = none → H' l = some (.lst acc) → acc.length = xs.length → P xs.length acc (hid l H') → Q (.ref l) H') :
    kLc (gName slot) tYes te vs σ Q (Itl K a) H := by
  intro L hL
  have hw : ∀ (τ : L2.St) (x : V), wipe (τ.set slot (some x)) [slot] = wipe τ [slot] := fun τ x => by simp [wipe, List.set_set]
  have hw2 : wipe (wipe σ vs) vs = wipe σ vs := by subst hv; simp [wipe, List.set_set]
  refine lc_list (xs := xs) (fun i H' => ∃ acc : List V, acc.length = i ∧ H' L = some (.lst acc) ∧ L2.Same H H' ∧ P i acc (hid L H')) ⟨[], rfl, upd_same, fun b o e => by rw [upd_ne (ne_of_none e hL)]; exact e, by rw [hid_upd, hid_none hL]; exact h0⟩ ?_ ?_ ?_
  · rintro i H' hi ⟨acc, _, _, s, _⟩
    exact s.seq hx
  · rintro i x H' hi ⟨acc, el, eL, s, hp⟩
    refine ⟨?_, ?_⟩
    · subst hv
      rw [hw]
      exact hw2
    · show te ((wipe σ vs).set slot (some x)) H' _
      refine hs i x acc (hid L H') H' hi (same_hid s hL) hp hid_same _ fun v H'' s2 hP => ⟨acc, s2 _ _ eL, ?_, acc ++ [v], ?_, upd_same, ?_, ?_⟩
      · have := (List.getElem?_eq_some_iff.mp hi).1
        rw [el, sz]
        omega
      · rw [List.length_append, el]; rfl
      · intro b o e
        rw [upd_ne (ne_of_none e hL)]
        exact s2 _ _ (s _ _ e)
      · rw [hid_upd]
        exact hP L hid_at (by rw [eL]; intro z; cases z)
  · rintro H' ⟨acc, el, eL, s, hp⟩
    exact q H' L acc s hL eL el hp
end Sg
namespace Sg
open PySem L2
def top (i : Nat) : Stmt := PySem.Challenge.pw_segmentfs_k15_batches_that_stand_whole.main.body.getD i (.Pass ⟨0, 0, 0, 0⟩)
abbrev s_is_payload : Stmt := top 6
abbrev s_Layout___init : Stmt := inClass (top 13) 0
abbrev s_address_at : Stmt := top 14
abbrev s_parts_of : Stmt := top 15
abbrev s_listed_in : Stmt := top 17
abbrev s_batch_at : Stmt := top 19
abbrev s_Device___init : Stmt := inClass (top 21) 0
abbrev s_Device_read : Stmt := inClass (top 21) 1
abbrev s_Device_write : Stmt := inClass (top 21) 2
abbrev s_Device_pending : Stmt := inClass (top 21) 6
abbrev s_Device__takes_place : Stmt := inClass (top 21) 11
abbrev s_put_block : Stmt := top 22
abbrev s_law_row : Stmt := top 24
abbrev s_law_digits : Stmt := top 25
abbrev s_law_layout : Stmt := top 26
abbrev s_law_spoilt : Stmt := top 27
abbrev s_law : Stmt := top 28
abbrev n_is_payload : List Str := ["block"]
theorem sc_is_payload : FnScope n_is_payload ["block"] (defScope s_is_payload) := ⟨rfl, rfl, rfl, by decide +kernel, rfl, by decide +kernel, by decide +kernel⟩
abbrev n_Layout___init : List Str := ["self", "segments", "segment_blocks", "block_size"]
theorem sc_Layout___init : FnScope n_Layout___init ["self", "segments", "segment_blocks", "block_size"] (defScope s_Layout___init) := ⟨rfl, rfl, rfl, by decide +kernel, rfl, by decide +kernel, by decide +kernel⟩
abbrev n_address_at : List Str := ["layout", "segment", "place"]
theorem sc_address_at : FnScope n_address_at ["layout", "segment", "place"] (defScope s_address_at) := ⟨rfl, rfl, rfl, by decide +kernel, rfl, by decide +kernel, by decide +kernel⟩
abbrev n_parts_of : List Str := ["number", "size"]
theorem sc_parts_of : FnScope n_parts_of ["number", "size"] (defScope s_parts_of) := ⟨rfl, rfl, rfl, by decide +kernel, rfl, by decide +kernel, by decide +kernel⟩
abbrev n_listed_in : List Str := ["summary"]
theorem sc_listed_in : FnScope n_listed_in ["summary"] (defScope s_listed_in) := ⟨rfl, rfl, rfl, by decide +kernel, rfl, by decide +kernel, by decide +kernel⟩
abbrev n_batch_at : List Str := ["device", "segment", "place", "sequence", "layout", "start", "summary", "count", "rank", "block"]
theorem sc_batch_at : FnScope n_batch_at ["device", "segment", "place", "sequence"] (defScope s_batch_at) := ⟨rfl, rfl, rfl, by decide +kernel, rfl, by decide +kernel, by decide +kernel⟩
abbrev n_Device___init : List Str := ["self", "layout", "blocks"]
theorem sc_Device___init : FnScope n_Device___init ["self", "layout", "blocks"] (defScope s_Device___init) := ⟨rfl, rfl, rfl, by decide +kernel, rfl, by decide +kernel, by decide +kernel⟩
abbrev n_Device_read : List Str := ["self", "address"]
theorem sc_Device_read : FnScope n_Device_read ["self", "address"] (defScope s_Device_read) := ⟨rfl, rfl, rfl, by decide +kernel, rfl, by decide +kernel, by decide +kernel⟩
abbrev n_Device_write : List Str := ["self", "address", "block"]
theorem sc_Device_write : FnScope n_Device_write ["self", "address", "block"] (defScope s_Device_write) := ⟨rfl, rfl, rfl, by decide +kernel, rfl, by decide +kernel, by decide +kernel⟩
abbrev n_Device_pending : List Str := ["self"]
theorem sc_Device_pending : FnScope n_Device_pending ["self"] (defScope s_Device_pending) := ⟨rfl, rfl, rfl, by decide +kernel, rfl, by decide +kernel, by decide +kernel⟩
abbrev n_Device__takes_place : List Str := ["self"]
theorem sc_Device__takes_place : FnScope n_Device__takes_place ["self"] (defScope s_Device__takes_place) := ⟨rfl, rfl, rfl, by decide +kernel, rfl, by decide +kernel, by decide +kernel⟩
abbrev n_put_block : List Str := ["blocks", "address", "block"]
theorem sc_put_block : FnScope n_put_block ["blocks", "address", "block"] (defScope s_put_block) := ⟨rfl, rfl, rfl, by decide +kernel, rfl, by decide +kernel, by decide +kernel⟩
abbrev n_law_row : List Str := ["script", "k", "cell", "first", "second"]
theorem sc_law_row : FnScope n_law_row ["script", "k"] (defScope s_law_row) := ⟨rfl, rfl, rfl, by decide +kernel, rfl, by decide +kernel, by decide +kernel⟩
abbrev n_law_digits : List Str := ["row", "sizes", "digits", "size"]
theorem sc_law_digits : FnScope n_law_digits ["row", "sizes"] (defScope s_law_digits) := ⟨rfl, rfl, rfl, by decide +kernel, rfl, by decide +kernel, by decide +kernel⟩
abbrev n_law_layout : List Str := ["row", "choice", "more", "size", "segments", "blocks", "ids"]
theorem sc_law_layout : FnScope n_law_layout ["row"] (defScope s_law_layout) := ⟨rfl, rfl, rfl, by decide +kernel, rfl, by decide +kernel, by decide +kernel⟩
abbrev n_law_spoilt : List Str := ["layout", "block", "fault", "change"]
theorem sc_law_spoilt : FnScope n_law_spoilt ["layout", "block", "fault", "change"] (defScope s_law_spoilt) := ⟨rfl, rfl, rfl, by decide +kernel, rfl, by decide +kernel, by decide +kernel⟩
abbrev n_law : List Str := ["script", "layout", "size", "row", "segment", "place", "kind", "count", "few", "sequence", "fault", "at", "change", "more", "start", "k", "ids", "batch", "good", "blocks", "device", "fits", "told"]
theorem sc_law : FnScope n_law ["script"] (defScope s_law) := ⟨rfl, rfl, rfl, by decide +kernel, rfl, by decide +kernel, by decide +kernel⟩
structure Txt (K : PySem.W.Frag) (mg : Str → Option Value) where
  a_is_payload : Addr
  fd_is_payload : FuncData
  a_Layout___init : Addr
  fd_Layout___init : FuncData
  a_address_at : Addr
  fd_address_at : FuncData
  a_parts_of : Addr
  fd_parts_of : FuncData
  a_listed_in : Addr
  fd_listed_in : FuncData
  a_batch_at : Addr
  fd_batch_at : FuncData
  a_Device___init : Addr
  fd_Device___init : FuncData
  a_Device_read : Addr
  fd_Device_read : FuncData
  a_Device_write : Addr
  fd_Device_write : FuncData
  a_Device_pending : Addr
  fd_Device_pending : FuncData
  a_Device__takes_place : Addr
  fd_Device__takes_place : FuncData
  a_put_block : Addr
  fd_put_block : FuncData
  a_law_row : Addr
  fd_law_row : FuncData
  a_law_digits : Addr
  fd_law_digits : FuncData
  a_law_layout : Addr
  fd_law_layout : FuncData
  a_law_spoilt : Addr
  fd_law_spoilt : FuncData
  a_law : Addr
  fd_law : FuncData
  A_Layout : Addr
  A_Device : Addr
  a_BLOCK_SIZES : Addr
  t_COMMIT : Tok
  t_DATA : Tok
  t_MOVE : Tok
  t_NODE : Tok
  t_SUMMARY_HEAD : Tok
  F_is_payload : Fun K "is_payload" "is_payload" s_is_payload a_is_payload fd_is_payload
  b_is_payload : Binds K fd_is_payload ["block"] []
  m_is_payload : mg "is_payload" = some (.ref a_is_payload)
  F_Layout___init : Fun K "__init__" "Layout.__init__" s_Layout___init a_Layout___init fd_Layout___init
  b_Layout___init : Binds K fd_Layout___init ["self", "segments", "segment_blocks", "block_size"] []
  F_address_at : Fun K "address_at" "address_at" s_address_at a_address_at fd_address_at
  b_address_at : Binds K fd_address_at ["layout", "segment", "place"] []
  m_address_at : mg "address_at" = some (.ref a_address_at)
  F_parts_of : Fun K "parts_of" "parts_of" s_parts_of a_parts_of fd_parts_of
  b_parts_of : Binds K fd_parts_of ["number", "size"] []
  m_parts_of : mg "parts_of" = some (.ref a_parts_of)
  F_listed_in : Fun K "listed_in" "listed_in" s_listed_in a_listed_in fd_listed_in
  b_listed_in : Binds K fd_listed_in ["summary"] []
  m_listed_in : mg "listed_in" = some (.ref a_listed_in)
  F_batch_at : Fun K "batch_at" "batch_at" s_batch_at a_batch_at fd_batch_at
  b_batch_at : Binds K fd_batch_at ["device", "segment", "place", "sequence"] []
  m_batch_at : mg "batch_at" = some (.ref a_batch_at)
  F_Device___init : FunD K "__init__" "Device.__init__" (defArgs s_Device___init) (defBody s_Device___init) (defScope s_Device___init) [V.non] [] a_Device___init fd_Device___init
  b_Device___init : Binds K fd_Device___init ["self", "layout", "blocks"] []
  F_Device_read : Fun K "read" "Device.read" s_Device_read a_Device_read fd_Device_read
  b_Device_read : Binds K fd_Device_read ["self", "address"] []
  me_Device_read : Meth K A_Device "read" a_Device_read
  F_Device_write : Fun K "write" "Device.write" s_Device_write a_Device_write fd_Device_write
  b_Device_write : Binds K fd_Device_write ["self", "address", "block"] []
  me_Device_write : Meth K A_Device "write" a_Device_write
  F_Device_pending : Fun K "pending" "Device.pending" s_Device_pending a_Device_pending fd_Device_pending
  b_Device_pending : Binds K fd_Device_pending ["self"] []
  me_Device_pending : Meth K A_Device "pending" a_Device_pending
  F_Device__takes_place : Fun K "_takes_place" "Device._takes_place" s_Device__takes_place a_Device__takes_place fd_Device__takes_place
  b_Device__takes_place : Binds K fd_Device__takes_place ["self"] []
  me_Device__takes_place : Meth K A_Device "_takes_place" a_Device__takes_place
  F_put_block : Fun K "_put_block" "_put_block" s_put_block a_put_block fd_put_block
  b_put_block : Binds K fd_put_block ["blocks", "address", "block"] []
  m_put_block : mg "_put_block" = some (.ref a_put_block)
  F_law_row : Fun K "_law_row" "_law_row" s_law_row a_law_row fd_law_row
  b_law_row : Binds K fd_law_row ["script", "k"] []
  m_law_row : mg "_law_row" = some (.ref a_law_row)
  F_law_digits : Fun K "_law_digits" "_law_digits" s_law_digits a_law_digits fd_law_digits
  b_law_digits : Binds K fd_law_digits ["row", "sizes"] []
  m_law_digits : mg "_law_digits" = some (.ref a_law_digits)
  F_law_layout : Fun K "_law_layout" "_law_layout" s_law_layout a_law_layout fd_law_layout
  b_law_layout : Binds K fd_law_layout ["row"] []
  m_law_layout : mg "_law_layout" = some (.ref a_law_layout)
  F_law_spoilt : Fun K "_law_spoilt" "_law_spoilt" s_law_spoilt a_law_spoilt fd_law_spoilt
  b_law_spoilt : Binds K fd_law_spoilt ["layout", "block", "fault", "change"] []
  m_law_spoilt : mg "_law_spoilt" = some (.ref a_law_spoilt)
  F_law : Fun K "law" "law" s_law a_law fd_law
  b_law : Binds K fd_law ["script"] []
  m_law : mg "law" = some (.ref a_law)
  m_Layout : mg "Layout" = some (.ref A_Layout)
  cl_Layout : Cls K A_Layout
  M_Layout : Mk K A_Layout a_Layout___init
  na_Layout_segments : NoAttr K A_Layout "segments"
  na_Layout_segment_blocks : NoAttr K A_Layout "segment_blocks"
  na_Layout_block_size : NoAttr K A_Layout "block_size"
  na_Layout_payload : NoAttr K A_Layout "payload"
  na_Layout_limit : NoAttr K A_Layout "limit"
  na_Layout_last_id : NoAttr K A_Layout "last_id"
  na_Layout_fan : NoAttr K A_Layout "fan"
  na_Layout_region_blocks : NoAttr K A_Layout "region_blocks"
  na_Layout_device_blocks : NoAttr K A_Layout "device_blocks"
  m_Device : mg "Device" = some (.ref A_Device)
  cl_Device : Cls K A_Device
  M_Device : Mk K A_Device a_Device___init
  na_Device_layout : NoAttr K A_Device "layout"
  na_Device__sure : NoAttr K A_Device "_sure"
  na_Device__shown : NoAttr K A_Device "_shown"
  na_Device__unsure : NoAttr K A_Device "_unsure"
  na_Device__commands_left : NoAttr K A_Device "_commands_left"
  na_Device__power_is_off : NoAttr K A_Device "_power_is_off"
  c_BLOCK_SIZES : mg "BLOCK_SIZES" = some (.ref a_BLOCK_SIZES)
  r_BLOCK_SIZES : RelV (.ref a_BLOCK_SIZES) (.ref a_BLOCK_SIZES)
  v_BLOCK_SIZES : ∀ H : Hp, SqT K H a_BLOCK_SIZES [.int 64, .int 128, .int 256]
  c_COMMIT : mg "COMMIT" = some (.int 1 t_COMMIT)
  r_COMMIT : RelV (.int 1) (.int 1 t_COMMIT)
  c_DATA : mg "DATA" = some (.int 3 t_DATA)
  r_DATA : RelV (.int 3) (.int 3 t_DATA)
  c_MOVE : mg "MOVE" = some (.int 2 t_MOVE)
  r_MOVE : RelV (.int 2) (.int 2 t_MOVE)
  c_NODE : mg "NODE" = some (.int 4 t_NODE)
  r_NODE : RelV (.int 4) (.int 4 t_NODE)
  c_SUMMARY_HEAD : mg "SUMMARY_HEAD" = some (.int 16 t_SUMMARY_HEAD)
  r_SUMMARY_HEAD : RelV (.int 16) (.int 16 t_SUMMARY_HEAD)
  n_int : mg "int" = none
  n_isinstance : mg "isinstance" = none
  n_len : mg "len" = none
  n_list : mg "list" = none
  n_max : mg "max" = none
  n_min : mg "min" = none
  n_range : mg "range" = none
  n_tuple : mg "tuple" = none
end Sg
namespace Sg
open PySem L2
local macro_rules | `(tactic| walk_at "size") => `(tactic| first | ((simp only [List.length_append, List.length_cons, List.length_nil, List.length_map, Sg.sz]) <;> omega) | (rw [Sg.sz]; simp <;> omega))
local macro_rules | `(tactic| walk_at "side") => `(tactic| first | with_reducible rfl | with_reducible assumption | (show (_ : Int) < _; omega) | omega | (simp only [List.length_map]; omega) | assumption | rfl | decide | exact Or.inr ⟨by decide, by decide⟩ | exact Or.inl ⟨by decide, by decide⟩ | exact Or.inr ⟨by omega, by omega⟩ | exact Or.inl ⟨by omega, by omega⟩ | exact ⟨by omega, by omega⟩ | exact ⟨by decide, by decide, by decide⟩ | (simp; done))
local macro_rules | `(tactic| walk_at "hp") => `(tactic| first | assumption | (refine' L2.SqT.of ?h1; (case h1 => walk_at "hp")) | (refine' L2.SqL.of ?h1; (case h1 => walk_at "hp")) | (refine' Sg.Same.tup ?h1 ?h2; (case h1 => assumption); (case h2 => walk_at "hp")) | (refine' L2.Same.seq ?h1 ?h2; (case h1 => assumption); (case h2 => walk_at "hp")) | (refine' (show L2.Same _ _ from ?h1) _ _ ?h2; (case h1 => assumption); (case h2 => walk_at "hp")) | (refine' Sg.at_keep ?he ?h1 ?h2 ?h3; (case he => assumption); (case h1 => walk_at "hp"); (case h2 => walk_at "hp"); (case h3 => (intro z; cases z))))
local macro_rules | `(tactic| walk_at "al") => `(tactic| (intro p hn; generalize hH : upd _ _ _ = H'; have hs := Sg.Same.of_new hH hn; have ho := Sg.at_new hH; clear hH))
local macro_rules | `(tactic| walk_at "sm1") => `(tactic| first | (refine' L2.Same.trans ?ha ?hb; (case hb => assumption)) | (refine' Sg.Same.old ?ha ?hb ?hc; (case hc => assumption); (case hb => walk_at "nn")))
local macro_rules | `(tactic| walk_at "sm") => `(tactic| first | exact L2.Same.refl _ | assumption | (walk_at "sm1"; walk_at "sm"))
local macro_rules | `(tactic| walk_at "nn") => `(tactic| first | assumption | ((refine' L2.Same.free ?ha ?hb; (case hb => assumption)); walk_at "sm"))
local macro_rules | `(tactic| walk_at "dp") => `(tactic| first | assumption | exact L2.Dp.int _ | exact L2.Dp.non | exact L2.Dp.bl _ | exact L2.Dp.str _ | (refine' L2.Dp.tup ?ha ?hb; (case ha => walk_at "hp"); (case hb => walk_at "dpa")) | (refine' L2.Dp.lst ?ha ?hb; (case ha => walk_at "hp"); (case hb => walk_at "dpa")))
local macro_rules | `(tactic| walk_at "dpa") => `(tactic| first | assumption | exact L2.DpAll.nil | exact Sg.DpAll.ints _ | (refine' L2.DpAll.cons ?ha ?hb; (case ha => walk_at "dp"); (case hb => walk_at "dpa")))
local macro_rules | `(tactic| walk_at "fl") => `(tactic| first | assumption | exact Sg.Fl.int _ _ | exact Sg.Fl.non _ | exact Sg.Fl.bool _ _ | (refine' Sg.Fl.tup ?ha; (case ha => walk_at "fla")) | (refine' Sg.Fl.lst ?ha; (case ha => walk_at "fla")))
local macro_rules | `(tactic| walk_at "fla") => `(tactic| first | assumption | exact Sg.Fl.nil | exact Sg.Fl.mapi | (refine' Sg.Fl.cons ?ha ?hb; (case ha => walk_at "fl"); (case hb => walk_at "fla")))
local macro_rules | `(tactic| walk_at "tyx") => `(tactic| first | exact L2.TyX.base (L2.TyOf.int _) | exact L2.TyX.base (L2.TyOf.bl _) | exact L2.TyX.base L2.TyOf.non | exact L2.TyX.base (L2.TyOf.str _) | (refine' L2.TyX.base (L2.TyOf.tup ?ha); (case ha => walk_at "hp")) | (refine' L2.TyX.base (L2.TyOf.lst ?ha); (case ha => walk_at "hp")) | (refine' L2.TyX.base (L2.TyOf.frz ?ha); (case ha => walk_at "hp")))
local macro_rules | `(tactic| walk_at "up") => `(tactic| (generalize hH : upd _ _ _ = H'; have ho := Sg.at_new hH))
local macro_rules | `(tactic| walk_at "lk") => `(tactic| first | with_reducible assumption | with_reducible exact Sg.lk_eq | (refine' Sg.lk_ne ?ha ?hb; (case ha => decide +kernel); (case hb => walk_at "lk")) | (refine' Sg.lk_no ?ha ?hb; (case ha => decide +kernel); (case hb => walk_at "lk")) | rfl)
local macro_rules | `(tactic| walk_at "few") => `(tactic| first | assumption | omega | decide | (refine' Nat.lt_of_le_of_lt (Sg.putF_len ?ha) ?hb; (case ha => walk_at "fewi"); (case hb => decide)))
local macro_rules | `(tactic| walk_at "fewi") => `(tactic| first | assumption | (refine' Sg.putF_len ?ha; (case ha => walk_at "fewi")) | exact Nat.le_refl _)
local macro_rules | `(tactic| walk_at "rd1") => `(tactic| with_reducible (first | refine' Sg.r_seq ?_ | refine' Sg.r_asg ?_ | refine' Sg.r_gname ?_ | (refine' Sg.r_var (by with_unfolding_all rfl) ?_) | refine' Sg.r_c ?_ | refine' Sg.r_op ?_ | refine' Sg.r_un ?_ | refine' Sg.r_cb ?_ | refine' Sg.r_cons ?_ | refine' Sg.r_nil ?_ | (refine' Sg.r_mod ?hc ?_; (case hc => (with_unfolding_all walk_at "side")); (intro z hz z0 z1)) | (refine' Sg.r_rI ?hc ?_; (case hc => (with_unfolding_all walk_at "side"))) | refine' Sg.r_rI0 ?_ | refine' Sg.r_rU ?_ | refine' Sg.r_int ?_ | refine' Sg.r_eqi ?_ | refine' Sg.r_nei ?_ | (refine' Sg.r_ixl ?h ?e ?_; (case h => (with_unfolding_all walk_at "hp")); (case e => (with_unfolding_all rfl))) | (refine' Sg.r_ixt ?h ?e ?_; (case h => (with_unfolding_all walk_at "hp")); (case e => (with_unfolding_all rfl))) | (refine' Sg.r_lenl ?h ?_; (case h => (with_unfolding_all walk_at "hp"))) | (refine' Sg.r_lent ?h ?_; (case h => (with_unfolding_all walk_at "hp"))) | refine' Sg.r_test ?_ | refine' Sg.r_exb ?_ | refine' Sg.r_tB ?_ | refine' Sg.r_exbP ?_ | refine' Sg.r_ifs ?_ | refine' Sg.r_and ?_ | refine' Sg.r_or ?_ | refine' Sg.r_not ?_ | refine' Sg.r_andV ?_ | refine' Sg.r_orV ?_ | refine' Sg.r_notV ?_ | refine' Sg.r_tif ?_ | refine' Sg.r_isN ?_ | refine' Sg.r_notN ?_ | refine' Sg.r_ret ?_ | refine' Sg.r_drop ?_ | refine' Sg.r_next ?_ | refine' Sg.r_call ?_ | refine' Sg.r_make ?_ | refine' Sg.r_meth ?_ | refine' Sg.r_fld ?_ | refine' Sg.r_sfld ?_ | refine' Sg.r_chain ?_ | (refine' Sg.r_fldL ?h ?hc ?hn ?hl ?_; (case h => (with_unfolding_all walk_at "hp")); (case hc => assumption); (case hn => assumption); (case hl => (with_unfolding_all walk_at "lk"))) | (refine' Sg.r_sfldL ?h ?hc ?hn ?hl ?_; (case h => (with_unfolding_all walk_at "hp")); (case hc => assumption); (case hn => assumption); (case hl => (with_unfolding_all walk_at "few")); (with_unfolding_all walk_at "up")) | (refine' Sg.r_gunl ?h ?hl ?_; (case h => (with_unfolding_all walk_at "hp")); (case hl => (with_unfolding_all walk_at "side"))) | (refine' Sg.r_gtup ?h ?hl ?_; (case h => (with_unfolding_all walk_at "hp")); (case hl => (with_unfolding_all walk_at "side"))) | (refine' Sg.r_methL ?h ?hl ?_; (case h => (with_unfolding_all walk_at "hp")); (case hl => (with_unfolding_all walk_at "lk"))) | refine' Sg.r_tup ?_ | refine' Sg.r_lst ?_ | (refine' Sg.r_ktup ?hl ?_; (case hl => (with_unfolding_all first | exact Nat.le_of_ble_eq_true rfl | decide)); (with_unfolding_all walk_at "al")) | (refine' Sg.r_klst ?hl ?_; (case hl => (with_unfolding_all first | exact Nat.le_of_ble_eq_true rfl | decide)); (with_unfolding_all walk_at "al")) | (refine' Sg.r_listl ?h ?_; (case h => (with_unfolding_all walk_at "hp")); (with_unfolding_all walk_at "al")) | (refine' Sg.r_listt ?h ?_; (case h => (with_unfolding_all walk_at "hp")); (with_unfolding_all walk_at "al")) | (refine' Sg.r_tupl ?h ?_; (case h => (with_unfolding_all walk_at "hp")); (with_unfolding_all walk_at "al")) | (refine' Sg.r_tupt ?h ?_; (case h => (with_unfolding_all walk_at "hp"))) | (refine' Sg.r_in (.inr ?h) ?fx ?fs ?_; (case h => (with_unfolding_all walk_at "hp")); (case fx => (with_unfolding_all rfl)); (case fs => (with_unfolding_all rfl))) | (refine' Sg.r_in (.inl ?h) ?fx ?fs ?_; (case h => (with_unfolding_all walk_at "hp")); (case fx => (with_unfolding_all rfl)); (case fs => (with_unfolding_all rfl))) | (refine' Sg.r_sorted ?h ?h64 ?_; (case h => (with_unfolding_all walk_at "hp")); (case h64 => (with_unfolding_all walk_at "side")); (intro ns' p perm rising; revert p; (with_unfolding_all walk_at "al"))) | (refine' Sg.r_app ?h ?hl ?_; (case h => (with_unfolding_all walk_at "hp")); (case hl => (with_unfolding_all walk_at "size")); (with_unfolding_all walk_at "up")) | refine' Sg.r_lc ?_ | refine' Sg.r_for ?_ | refine' Sg.r_irng1 ?_ | refine' Sg.r_irng2 ?_ | refine' Sg.r_ilist ?_ | refine' Sg.r_itup ?_ | (refine' Sg.r_kR1 ?h1 ?h2 ?_; (case h1 => (with_unfolding_all walk_at "side")); (case h2 => (with_unfolding_all walk_at "side"))) | (refine' Sg.r_kR2 ?h1 ?_; (case h1 => (with_unfolding_all refine ⟨?_, ?_, ?_, ?_⟩ <;> walk_at "side"))) | (refine' Sg.r_kIl ?h ?_; (case h => (with_unfolding_all walk_at "hp"))) | (refine' Sg.r_kIt ?h ?_; (case h => (with_unfolding_all walk_at "hp"))) | refine' Sg.r_bm ?_ | refine' Sg.r_bm0 ?_ | (refine' Sg.r_tyl ?h ?_; (case h => (with_unfolding_all walk_at "hp"))) | refine' Sg.r_nonR ?_ | refine' Sg.r_nonN ?_ | refine' Sg.r_isR ?_ | refine' Sg.r_isNN ?_ | refine' Sg.r_nonI ?_ | refine' Sg.r_isI ?_ | refine' L2.iteT ?_ | refine' L2.iteF ?_ | refine' Sg.r_gcons ?_ | refine' Sg.r_gnil ?_ | refine' Sg.r_gsub ?_ | refine' Sg.r_isb ?_ | refine' Sg.r_notb ?_ | (refine' Sg.r_aug (by with_unfolding_all rfl) ?_) | refine' Sg.r_ipI ?_ | (refine' Sg.r_isi (b := true) (L2.ClsV.ty _) ?ht ?hk ?_; (case ht => (with_unfolding_all walk_at "tyx")); (case hk => (with_unfolding_all exact L2.kit_ty (by decide +kernel)))) | (refine' Sg.r_isi (b := false) (L2.ClsV.ty _) ?ht ?hk ?_; (case ht => (with_unfolding_all walk_at "tyx")); (case hk => (with_unfolding_all exact L2.kit_ty (by decide +kernel)))) | refine' Sg.r_gmap ?_ | refine' Sg.r_gmapn ?_ | (refine' Sg.r_iteb ?hb ?_; (case hb => (with_unfolding_all rfl))) | (refine' Sg.r_iteB ?hb ?_; (case hb => (with_unfolding_all rfl)))))
local macro_rules | `(tactic| walk_at "rd") => `(tactic| repeat walk_at "rd1")
local macro_rules | `(tactic| walk_at "rdo") => `(tactic| repeat (first | walk_at "rd1" | (with_reducible refine' Sg.r_iteD ?hc ?_; (case hc => first | assumption | omega)) | (with_reducible refine' Sg.r_iteDn ?hc ?_; (case hc => first | assumption | omega)) | (with_reducible refine' Sg.r_iteND ?hc ?_; (case hc => first | assumption | omega)) | (with_reducible refine' Sg.r_iteNDn ?hc ?_; (case hc => first | assumption | omega))))
local macro_rules | `(tactic| walk_at "rd1") => `(tactic| with_reducible (first | refine' Sg.r_sl ?_ | refine' Sg.r_noP ?_ | refine' Sg.r_part ?_ | refine' Sg.r_kPart ?_ | (refine' Sg.r_slL ?h ?_; (case h => (with_unfolding_all walk_at "hp")); (with_unfolding_all walk_at "al"))))
local macro_rules | `(tactic| walk_at "ca1") => `(tactic| fail)
local macro_rules | `(tactic| walk_at "pr") => `(tactic| first | assumption | omega | walk_at "hp" | rfl)
local macro_rules | `(tactic| walk_at "it1") => `(tactic| with_reducible (first | (refine' Sg.r_iteD ?hc ?_; (case hc => first | assumption | omega)) | (refine' Sg.r_iteDn ?hc ?_; (case hc => first | assumption | omega)) | (refine' Sg.r_iteND ?hc ?_; (case hc => first | assumption | omega)) | (refine' Sg.r_iteNDn ?hc ?_; (case hc => first | assumption | omega))))
local macro_rules | `(tactic| walk_at "go1") => `(tactic| first | walk_at "rd1" | walk_at "rx1" | walk_at "ca1" | walk_at "it1")
local macro_rules | `(tactic| walk_at "go") => `(tactic| repeat walk_at "go1")
local macro_rules | `(tactic| walk_at "gs") => `(tactic| repeat' (first | walk_at "go1" | with_reducible refine' Sg.r_ite (fun _ => ?_) (fun _ => ?_) | with_reducible refine' Sg.r_iteN (fun _ => ?_) (fun _ => ?_)))
-- imports: HandS.NoneIn HandS.Defaults HandS.TupMul HandS.Zip HandS.SetFor HandS.Walk HandS.MakeKwOnly HandS.Style
section
variable {P : Program} {w : World} {K : PySem.W.Frag} {mg : Str → Option Value} {base : Heap}
/-! ### numbers drawn from the script -/
def sp_row (K : PySem.W.Frag) : Sp := fun vs H Q _ => ∃ (a : Addr) (ns : List Int) (k : Int), vs = [.ref a, .int k] ∧ SqL K H a (ns.map V.int) ∧ ns.length ≤ 63 ∧ 0 ≤ k ∧ k ≤ 1000 ∧ ∀ z : Int, 0 ≤ z → Q (.int z) H
theorem ok_law_row (T : Txt K mg) : FnOk P w K mg base CX0 1 T.a_law_row T.fd_law_row ["script", "k"] (sp_row K) := by
  refine T.F_law_row.ok sc_law_row (fun vs H Q E h => ?_) (fun cdv A outer s H vs Q E hr h => ?_)
  · obtain ⟨a, ns, k, rfl, _⟩ := h
    rfl
  · refine ⟨_, (pss_cons (ps_set (i := 2) sc_law_row.nd rfl (Or.inl rfl) pe_int)
       (C8.pss_cut (ps_if (pt_cmpR op_gt (pe_callB (c_len) (by rfl) T.n_len (by decide +kernel) (pa_cons (pv 0) pa_nil)) pe_int (nomark _))
       (pss_one (ps_set (i := 2) sc_law_row.nd rfl (Or.inl rfl) (pe_ix ix_list (pv 0) (pe_op op_mod (pe_callTy c_int (by rfl) T.n_int (by decide +kernel) (pa_cons (pv 1) pa_nil)) (pe_callB (c_len) (by rfl) T.n_len (by decide +kernel) (pa_cons (pv 0) pa_nil))) (fun _ _ => rfl))))
       pss_nil)
       (C8.pss_cut (ps_if (pt_cmpR op_lt (pv 2) pe_int (nomark _))
       (pss_one (ps_set (i := 2) sc_law_row.nd rfl (Or.inl rfl) (pe_op op_sub pe_int (pe_op op_mul pe_int (pv 2)))))
       pss_nil)
       (C8.pss_cut (ps_if (PW.pt (pw_and (pt_cmpR op_ge (pv 2) (pe_op op_pow pe_int pe_int) (nomark _)) (pw_and1 (pt_cmpR op_lt (pv 1) (pe_callB (c_len) (by rfl) T.n_len (by decide +kernel) (pa_cons (pv 0) pa_nil)) (nomark _)))))
       (pss_one (ps_ret (pv 2)))
       pss_nil)
       (pss_cons (ps_set (i := 3) sc_law_row.nd rfl (Or.inl rfl) (pe_op op_mod (pe_callTy c_int (by rfl) T.n_int (by decide +kernel) (pa_cons (pe_op op_add (pe_op op_add (pe_op op_mul (pv 2) pe_int) (pe_op op_mul (pe_op op_add (pv 1) pe_int) pe_int)) (pe_callB (c_len) (by rfl) T.n_len (by decide +kernel) (pa_cons (pv 0) pa_nil))) pa_nil)) pe_int))
       (pss_cons (ps_set (i := 4) sc_law_row.nd rfl (Or.inl rfl) (pe_op op_mod (pe_callTy c_int (by rfl) T.n_int (by decide +kernel) (pa_cons (pe_op op_add (pe_op op_add (pe_op op_mul (pv 3) (pv 3)) (pe_op op_mul (pv 2) pe_int)) (pv 1)) pa_nil)) pe_int))
       (pss_one (ps_ret (pe_op op_add (pe_op op_mul (pv 4) pe_int) (pe_op op_mod (pe_callTy c_int (by rfl) T.n_int (by decide +kernel) (pa_cons (pe_op op_mul (pv 3) pe_int) pa_nil)) pe_int)))))))))), ?_⟩
    try dsimp only [cxOf, Cx.nox, Cx.wish]
    obtain ⟨a, ns, k, rfl, hS, h63, k0, k1, q⟩ := h
    walk_at "rd"
    refine r_cut (fun σ' H' => ∃ z : Int, σ' = [some (.ref a), some (.int k), some (.int z), none, none] ∧ H = H') ?_ ?_
    · walk_at "rd"
      refine r_ite (fun hlen => ?_) (fun _ => ?_)
      · rw [List.length_map] at hlen
        walk_at "rd"
        rename_i z hz z0 z1
        rw [List.length_map] at z1
        refine r_ixl hS (v := .int (ns.getD z.toNat 0)) ?_ ?_
        · obtain ⟨n, rfl⟩ := Int.eq_ofNat_of_zero_le z0
          refine atI_nat ?_
          have hn : n < ns.length := by omega
          rw [List.getElem?_map, List.getElem?_eq_getElem hn, List.getD_eq_getElem?_getD, Int.toNat_natCast, List.getElem?_eq_getElem hn]
          rfl
        · walk_at "rd"
          exact ⟨_, rfl, rfl⟩
      · exact ⟨0, rfl, rfl⟩
    · rintro _ _ ⟨z, rfl, rfl⟩
      walk_at "rd"
      refine r_cut (fun σ' H' => ∃ z : Int, 0 ≤ z ∧ σ' = [some (.ref a), some (.int k), some (.int z), none, none] ∧ H = H') ?_ ?_
      · walk_at "rd"
        refine r_ite (fun _ => ?_) (fun _ => ?_)
        · walk_at "rd"
          exact ⟨_, by omega, rfl, rfl⟩
        · exact ⟨_, by omega, rfl, rfl⟩
      · rintro _ _ ⟨y, y0, rfl, rfl⟩
        walk_at "rd"
        refine r_cutS ?_ ?_
        · walk_at "rd"
          refine r_ite (fun _ => ?_) (fun _ => ?_)
          · walk_at "rd"
            refine r_ite (fun _ => ?_) (fun _ => ?_)
            · walk_at "rd"
              exact q _ y0
            · exact ⟨rfl, rfl⟩
          · walk_at "rd"
            exact ⟨rfl, rfl⟩
        · walk_at "rd"
          exact q _ (by omega)
/-- digits by their sizes -/
abbrev Digs (ds ss : List Int) : Prop := Paired (fun (d s : Int) => 0 ≤ d ∧ d < s) ds ss
def sp_digits (K : PySem.W.Frag) : Sp := fun vs H Q _ => ∃ (r : Int) (l : Addr) (ss : List Int), vs = [.int r, .ref l] ∧ SqL K H l (ss.map V.int) ∧ ss.length ≤ 1000 ∧ (∀ s ∈ ss, 0 < s ∧ s < 1000000000000000000) ∧
  ∀ H' d (ds : List Int), Same H H' → H d = none → H' d = some (.lst (ds.map V.int)) → Digs ds ss → Q (.ref d) H'
theorem paired_snoc {α β : Type} {F : α → β → Prop} : ∀ {xs : List α} {ys : List β} {x : α} {y : β}, Paired F xs ys → F x y → Paired F (xs ++ [x]) (ys ++ [y])
  | _, _, _, _, .nil, h => .cons h .nil
  | _, _, _, _, .cons r t, h => .cons r (paired_snoc t h)
theorem ok_law_digits (T : Txt K mg) : FnOk P w K mg base CX0 1 T.a_law_digits T.fd_law_digits ["row", "sizes"] (sp_digits K) := by
  refine T.F_law_digits.ok sc_law_digits (fun vs H Q E h => ?_) (fun cdv A outer s H vs Q E hr h => ?_)
  · obtain ⟨r, l, ss, rfl, _⟩ := h
    rfl
  · refine ⟨_, (pss_cons (ps_set (i := 2) sc_law_digits.nd rfl (Or.inl rfl) (pe_lst pa_nil))
       (pss_cons (ps_for PassesOwn.never rfl (pi_list (pv 1)) (pg_name (i := 3) sc_law_digits.nd rfl (Or.inl rfl))
       (pss_cons (ps_expr (pe_bm PySem.F.plainAttrs_list PySem.F.slot_list_append PySem.F.type_list_append mt_append (pv 2) (pa_cons (pe_op op_mod (pe_callTy c_int (by rfl) T.n_int (by decide +kernel) (pa_cons (pv 0) pa_nil)) (pv 3)) pa_nil)))
       (pss_one (ps_set (i := 0) sc_law_digits.nd rfl (Or.inl rfl) (pe_op op_fdivW (pv 0) (pv 3))))))
       (pss_one (ps_ret (pv 2))))), ?_⟩
    try dsimp only [cxOf, Cx.nox, Cx.wish]
    obtain ⟨r, l, ss, rfl, hS, hlen, hss, q⟩ := h
    walk_at "rd"
    rename_i p hn H1 s1 h1
    refine r_forL (xs := ss.map V.int) (fun i σ' H' => ∃ (z : Int) (ds : List Int) (v : Option V), σ' = [some (.int z), some (.ref l), some (.ref p), v] ∧ Same H H' ∧ H' p = some (.lst (ds.map V.int)) ∧ Digs ds (ss.take i)) ?_ ?_ ?_ ?_
    · exact ⟨r, [], none, rfl, s1, h1, .nil⟩
    · rintro i σ' H' _ ⟨z, ds, v, rfl, s2, h2, hd⟩
      exact s2.seq hS
    · rintro i x σ' H' hx ⟨z, ds, v, rfl, s2, h2, hd⟩
      rw [List.getElem?_map] at hx
      obtain ⟨y, hy, rfl⟩ := Option.map_eq_some_iff.mp hx
      obtain ⟨y0, y1⟩ := hss y (List.mem_of_getElem? hy)
      have hdl : ds.length ≤ 1000 := by
        rw [Paired.length hd, List.length_take]
        omega
      walk_at "rd"
      rename_i d hd1 d0 d1 H3 e3 h3
      refine ⟨_, _, rfl, rfl, wide_div (b := 64) y0 (by omega) (by decide) (by decide), ?_⟩
      walk_at "rd"
      refine ⟨_, ds ++ [d], _, rfl, Sg.Same.old s2 hn e3, ?_, ?_⟩
      · rw [h3, List.map_append]
        rfl
      · have e : ss.take (i + 1) = ss.take i ++ [y] := by rw [List.take_add_one, hy]; rfl
        rw [e]
        exact paired_snoc hd ⟨d0, d1⟩
    · rintro σ' H' ⟨z, ds, v, rfl, s2, h2, hd⟩
      rw [List.length_map, List.take_length] at hd
      walk_at "rd"
      exact q _ _ _ s2 hn h2 hd
def sp_parts_of : Sp := fun vs H Q _ => ∃ n s : Int, vs = [.int n, .int s] ∧ 0 < s ∧ s < 1073741824 ∧ Q (.int ((n + s - 1) / s)) H
theorem ok_parts_of (T : Txt K mg) : FnOk P w K mg base CX0 1 T.a_parts_of T.fd_parts_of ["number", "size"] sp_parts_of := by
  refine T.F_parts_of.ok sc_parts_of (fun vs H Q E h => ?_) (fun cdv A outer s H vs Q E hr h => ?_)
  · obtain ⟨n, s, rfl, _⟩ := h
    rfl
  · refine ⟨_, (pss_one (ps_ret (pe_op op_fdiv (pe_op op_sub (pe_op op_add (pv 0) (pv 1)) pe_int) (pv 1)))), ?_⟩
    try dsimp only [cxOf, Cx.nox, Cx.wish]
    obtain ⟨n, s, rfl, h1, h2, q⟩ := h
    walk_at "rd"
    exact q
/-! ### layouts -/
/-- the numbers of a layout -/
structure Lay where
  seg : Int
  blk : Int
  size : Int
  pay : Int
  lim : Int
  last : Int
  fan : Int
  reg : Int
  dev : Int
def layOf (s b z : Int) : Lay := ⟨s, b, z, b - 1, (s - 2) * (b - 1), (s - 2) * (b - 1) + (b - 1), z / 2, (2 * (4 * ((s - 2) * (b - 1) + (b - 1)) + 6 + s) + z - 1) / z, 2 * ((2 * (4 * ((s - 2) * (b - 1) + (b - 1)) + 6 + s) + z - 1) / z) + s * b⟩
/-- three sizes that a layout can have -/
structure Fits (s b z : Int) : Prop where
  s0 : 4 ≤ s
  s1 : s ≤ 16
  b0 : 16 ≤ b
  b1 : b ≤ 32
  zz : z = 64 ∨ z = 128 ∨ z = 256
  fit : 16 + 2 * (b - 1) + ((s - 2) * (b - 1) + (b - 1) + 8 - 1) / 8 ≤ z
/-- the fields of a layout -/
structure LayFs (L : Lay) (fs : List (Str × V)) : Prop where
  seg : fs.lookup ("segments" : Str) = some (V.int L.seg)
  blk : fs.lookup ("segment_blocks" : Str) = some (V.int L.blk)
  size : fs.lookup ("block_size" : Str) = some (V.int L.size)
  pay : fs.lookup ("payload" : Str) = some (V.int L.pay)
  lim : fs.lookup ("limit" : Str) = some (V.int L.lim)
  last : fs.lookup ("last_id" : Str) = some (V.int L.last)
  fan : fs.lookup ("fan" : Str) = some (V.int L.fan)
  reg : fs.lookup ("region_blocks" : Str) = some (V.int L.reg)
  dev : fs.lookup ("device_blocks" : Str) = some (V.int L.dev)
def LayAt (C : Addr) (L : Lay) (H : Hp) (p : Addr) : Prop := ∃ dx fs, H p = some (.ins C dx fs) ∧ LayFs L fs
theorem LayAt.mono {C : Addr} {L : Lay} {H H' : Hp} {p : Addr} (s : Same H H') (h : LayAt C L H p) : LayAt C L H' p := by
  obtain ⟨dx, fs, h1, h2⟩ := h
  exact ⟨dx, fs, s _ _ h1, h2⟩
def sp_layout (C : Addr) : Sp := fun vs H Q _ => ∃ (p dx : Addr) (s b z : Int), vs = [.ref p, .int s, .int b, .int z] ∧ H p = some (.ins C dx []) ∧ Fits s b z ∧
  ∀ H' fs, (∀ q, q ≠ p → H' q = H q) → H' p = some (.ins C dx fs) → LayFs (layOf s b z) fs → Q .non H'
theorem in_sizes {z : Int} (h : z = 64 ∨ z = 128 ∨ z = 256) : (!inV (V.int z) [V.int 64, V.int 128, V.int 256]) = false := by
  rcases h with rfl | rfl | rfl <;> decide
theorem keep1 {H H1 H' : Hp} {p : Addr} {o : HO} (h : ∀ q, q ≠ p → H1 q = H q) (e : upd H1 p o = H') : ∀ q, q ≠ p → H' q = H q := fun q hq => by
  rw [← e, upd_ne hq]
  exact h q hq
theorem ok_Layout___init (T : Txt K mg) : FnOk P w K mg base CX0 2 T.a_Layout___init T.fd_Layout___init ["self", "segments", "segment_blocks", "block_size"] (sp_layout T.A_Layout) := by
  refine T.F_Layout___init.ok sc_Layout___init (fun vs H Q E h => ?_) (fun cdv A outer s H vs Q E hr h => ?_)
  · obtain ⟨p, dx, s, b, z, rfl, _⟩ := h
    rfl
  · refine ⟨_, (pss_cons (ps_if (pt_not (pt_chain op_le op_le pe_int (pv 1) pe_int))
       (pss_one ps_never)
       pss_nil)
       (pss_cons (ps_if (pt_not (pt_chain op_le op_le pe_int (pv 2) pe_int))
       (pss_one ps_never)
       pss_nil)
       (pss_cons (ps_if (pt_cmpR op_notIn_seq (pv 3) (pe_glob rfl T.c_BLOCK_SIZES T.r_BLOCK_SIZES) (by with_unfolding_all rfl))
       (pss_one ps_never)
       pss_nil)
       (pss_cons (ps_fld (pv 0) (pv 1) rfl)
       (pss_cons (ps_fld (pv 0) (pv 2) rfl)
       (pss_cons (ps_fld (pv 0) (pv 3) rfl)
       (pss_cons (ps_fld (pv 0) (pe_op op_sub (pv 2) pe_int) rfl)
       (pss_cons (ps_fld (pv 0) (pe_op op_mul (pe_op op_sub (pv 1) pe_int) (pe_fld (pv 0) rfl)) rfl)
       (pss_cons (ps_fld (pv 0) (pe_op op_add (pe_fld (pv 0) rfl) (pe_fld (pv 0) rfl)) rfl)
       (pss_cons (ps_fld (pv 0) (pe_op op_fdiv (pv 3) pe_int) rfl)
       (pss_cons (ps_fld (pv 0) (pe_call (ok_parts_of T) (hr.mono (by decide)) rfl T.m_parts_of T.F_parts_of.kp T.b_parts_of .nil pass0 (pa_cons (pe_op op_mul pe_int (pe_op op_add (pe_op op_add (pe_op op_mul pe_int (pe_fld (pv 0) rfl)) pe_int) (pv 1))) (pa_cons (pv 3) pa_nil))) rfl)
       (pss_cons (ps_fld (pv 0) (pe_op op_add (pe_op op_mul pe_int (pe_fld (pv 0) rfl)) (pe_op op_mul (pv 1) (pv 2))) rfl)
       (pss_one (ps_if (pt_cmpR op_gt (pe_op op_add (pe_op op_add (pe_glob rfl T.c_SUMMARY_HEAD T.r_SUMMARY_HEAD) (pe_op op_mul pe_int (pe_fld (pv 0) rfl))) (pe_call (ok_parts_of T) (hr.mono (by decide)) rfl T.m_parts_of T.F_parts_of.kp T.b_parts_of .nil pass0 (pa_cons (pe_fld (pv 0) rfl) (pa_cons pe_int pa_nil)))) (pv 3) (nomark _))
       (pss_one ps_never)
       pss_nil)))))))))))))), ?_⟩
    try dsimp only [cxOf, Cx.nox, Cx.wish]
    obtain ⟨p, dx, s, b, z, rfl, hp, hF, q⟩ := h
    obtain ⟨s0, s1, b0, b1, hz, fit⟩ := hF
    have cl := T.cl_Layout
    have na1 := T.na_Layout_segments
    have na2 := T.na_Layout_segment_blocks
    have na3 := T.na_Layout_block_size
    have na4 := T.na_Layout_payload
    have na5 := T.na_Layout_limit
    have na6 := T.na_Layout_last_id
    have na7 := T.na_Layout_fan
    have na8 := T.na_Layout_region_blocks
    have na9 := T.na_Layout_device_blocks
    walk_at "rdo"
    refine r_in (.inr (T.v_BLOCK_SIZES _)) rfl rfl ?_
    walk_at "rd"
    refine r_iteB (in_sizes hz) ?_
    walk_at "rdo"
    refine ⟨_, _, rfl, by omega, by omega, ?_⟩
    walk_at "rdo"
    refine ⟨_, _, rfl, by omega, by omega, ?_⟩
    walk_at "rdo"
    refine q _ _ ?kk (by walk_at "hp") ⟨by walk_at "lk", by walk_at "lk", by walk_at "lk", by walk_at "lk", by walk_at "lk", by walk_at "lk", by walk_at "lk", by walk_at "lk", by walk_at "lk"⟩
    case kk =>
      repeat (refine keep1 ?_ (by assumption))
      exact fun _ _ => rfl
/-- the sizes of a law's layout -/
def sp_lawlay (C : Addr) : Sp := fun vs H Q _ => ∃ r : Int, vs = [.int r] ∧ ∀ (s b z : Int) (H' : Hp) (p : Addr), Fits s b z → Same H H' → H p = none → LayAt C (layOf s b z) H' p → Q (.ref p) H'
theorem made_same {H H1 : Hp} {x dx : Addr} {o : HO} (nx : H x = none) (nd : H dx = none) (k : ∀ q, q ≠ x → H1 q = upd (upd H dx (.own x)) x o q) : Same H H1 := fun b u e => by
  rw [k b (ne_of_none e nx), upd_ne (ne_of_none e nx), upd_ne (ne_of_none e nd)]
  exact e
theorem ok_law_layout (T : Txt K mg) : FnOk P w K mg base CX0 4 T.a_law_layout T.fd_law_layout ["row"] (sp_lawlay T.A_Layout) := by
  refine T.F_law_layout.ok sc_law_layout (fun vs H Q E h => ?_) (fun cdv A outer s H vs Q E hr h => ?_)
  · obtain ⟨r, rfl, _⟩ := h
    rfl
  · refine ⟨_, (pss_cons (ps_asg (pe_call (ok_law_digits T) (hr.mono (by decide)) rfl T.m_law_digits T.F_law_digits.kp T.b_law_digits .nil pass0 (pa_cons (pv 0) (pa_cons (pe_lst (pa_cons pe_int (pa_cons pe_int (pa_cons pe_int (pa_cons pe_int (pa_cons pe_int pa_nil)))))) pa_nil))) (pg_unl (by rfl) (pgs_cons (pg_name (i := 1) sc_law_layout.nd rfl (Or.inl rfl)) (pgs_cons (pg_name (i := 2) sc_law_layout.nd rfl (Or.inl rfl)) (pgs_cons (pg_name (i := 3) sc_law_layout.nd rfl (Or.inl rfl)) (pgs_cons (pg_name (i := 4) sc_law_layout.nd rfl (Or.inl rfl)) (pgs_cons (pg_name (i := 5) sc_law_layout.nd rfl (Or.inl rfl)) pgs_nil)))))))
       (C8.pss_cut (ps_if (pt_cmpR op_eq (pv 1) pe_int (nomark _))
       (pss_cons (ps_set (i := 4) sc_law_layout.nd rfl (Or.inl rfl) (pe_op op_add pe_int (pv 4)))
       (pss_cons (ps_set (i := 5) sc_law_layout.nd rfl (Or.inl rfl) (pe_op op_add pe_int (pv 5)))
       (pss_one (ps_set (i := 3) sc_law_layout.nd rfl (Or.inl rfl) (pe_ix ix_list (pe_lst (pa_cons pe_int (pa_cons pe_int (pa_cons pe_int pa_nil)))) (pv 3) (fun _ _ => rfl))))))
       (pss_cons (ps_set (i := 4) sc_law_layout.nd rfl (Or.inl rfl) (pe_op op_add pe_int (pe_op op_mul (pv 2) (pe_op op_fdiv (pv 1) pe_int))))
       (pss_cons (ps_set (i := 5) sc_law_layout.nd rfl (Or.inl rfl) pe_int)
       (pss_one (ps_set (i := 3) sc_law_layout.nd rfl (Or.inl rfl) pe_int)))))
       (pss_cons (ps_set (i := 6) sc_law_layout.nd rfl (Or.inl rfl) (pe_op op_mul (pe_op op_sub (pv 4) pe_int) (pe_op op_sub (pv 5) pe_int)))
       (pss_cons (ps_if (pt_cmpR op_gt (pe_op op_add (pe_op op_add pe_int (pe_op op_mul pe_int (pe_op op_sub (pv 5) pe_int))) (pe_op op_fdiv (pe_op op_add (pv 6) pe_int) pe_int)) (pv 3) (nomark _))
       (pss_one (ps_ret (pe_make T.M_Layout (ok_Layout___init T) (hr.mono (by decide)) rfl T.m_Layout T.b_Layout___init .nil pass0 (pa_cons pe_int (pa_cons pe_int (pa_cons pe_int pa_nil))))))
       pss_nil)
       (pss_one (ps_ret (pe_make T.M_Layout (ok_Layout___init T) (hr.mono (by decide)) rfl T.m_Layout T.b_Layout___init .nil pass0 (pa_cons (pv 4) (pa_cons (pv 5) (pa_cons (pv 3) pa_nil)))))))))), ?_⟩
    try dsimp only [cxOf, Cx.nox, Cx.wish]
    obtain ⟨r, rfl, q⟩ := h
    walk_at "rd"
    refine ⟨_, _, [4, 3, 3, 13, 17], rfl, by walk_at "hp", by decide, by decide, fun H1 d ds s1 n1 h1 hd => ?_⟩
    obtain _ | ⟨⟨c0, c1⟩, _ | ⟨⟨m0, m1⟩, _ | ⟨⟨z0, z1⟩, _ | ⟨⟨g0, g1⟩, _ | ⟨⟨b0, b1⟩, _ | _⟩⟩⟩⟩⟩ := hd
    rename_i choice more size segments blocks
    walk_at "rd"
    refine r_cut (fun σ' H' => ∃ s b z : Int, 4 ≤ s ∧ s ≤ 16 ∧ 16 ≤ b ∧ b ≤ 32 ∧ (z = 64 ∨ z = 128 ∨ z = 256) ∧ σ' = [some (.int r), some (.int choice), some (.int more), some (.int z), some (.int s), some (.int b), none] ∧ Same H1 H') ?_ ?_
    · walk_at "rd"
      refine r_ite (fun e => ?_) (fun _ => ?_)
      · walk_at "rd"
        have e3 : size = 0 ∨ size = 1 ∨ size = 2 := by omega
        rcases e3 with rfl | rfl | rfl
        · refine r_ixl (by walk_at "hp") rfl ?_
          walk_at "rd"
          exact ⟨_, _, _, by omega, by omega, by omega, by omega, .inl rfl, rfl, by walk_at "sm"⟩
        · refine r_ixl (by walk_at "hp") rfl ?_
          walk_at "rd"
          exact ⟨_, _, _, by omega, by omega, by omega, by omega, .inr (.inl rfl), rfl, by walk_at "sm"⟩
        · refine r_ixl (by walk_at "hp") rfl ?_
          walk_at "rd"
          exact ⟨_, _, _, by omega, by omega, by omega, by omega, .inr (.inr rfl), rfl, by walk_at "sm"⟩
      · walk_at "rd"
        have hc : choice / 2 = 0 ∨ choice / 2 = 1 := by omega
        rcases hc with hc | hc <;> rw [hc] <;> exact ⟨_, _, _, by omega, by omega, by omega, by omega, .inl rfl, rfl, by walk_at "sm"⟩
    rintro _ H2 ⟨s, b, z, s0, s1', b0', b1', hz, rfl, s2⟩
    walk_at "rd"
    have en : (s - 2) * (b - 1) + (b - 1) = (s - 1) * (b - 1) := by
      have e : s - 1 = (s - 2) + 1 := by omega
      rw [e, Int.add_mul, Int.one_mul]
    refine r_ite (fun _ => ?_) (fun hle => ?_)
    · walk_at "rd"
      intro x dx nx nd ne
      have hF : Fits 4 16 64 := ⟨by decide, by decide, by decide, by decide, .inl rfl, by decide⟩
      refine ⟨x, dx, _, _, _, rfl, upd_same, hF, fun H3 fs k h3 hL => ⟨rfl, ?_⟩⟩
      have s3 := made_same nx nd k
      exact q _ _ _ _ _ hF (by walk_at "sm") (by walk_at "nn") ⟨_, _, h3, hL⟩
    · walk_at "rd"
      intro x dx nx nd ne
      have hF : Fits s b z := ⟨s0, s1', b0', b1', hz, by rw [en]; omega⟩
      refine ⟨x, dx, _, _, _, rfl, upd_same, hF, fun H3 fs k h3 hL => ⟨rfl, ?_⟩⟩
      have s3 := made_same nx nd k
      exact q _ _ _ _ _ hF (by walk_at "sm") (by walk_at "nn") ⟨_, _, h3, hL⟩

theorem paired_at {α β : Type} {F : α → β → Prop} : ∀ {xs : List α} {ys : List β} {i : Nat} {x : α}, Paired F xs ys → xs[i]? = some x → ∃ y, ys[i]? = some y ∧ F x y
  | _, _, _, _, .nil, e => by simp at e
  | _, _, 0, _, .cons r t, e => by simp at e; subst e; exact ⟨_, rfl, r⟩
  | _, _, i + 1, _, .cons r t, e => by
    obtain ⟨y, e1, h1⟩ := paired_at (i := i) t (by simpa using e)
    exact ⟨y, by simpa using e1, h1⟩
/-! ### what stays: tuples, and what is frozen -/
def Fixed : HO → Prop
  | .tup _ => True
  | .frz _ _ => True
  | _ => False
def Keeps (H H' : Hp) : Prop := ∀ b o, Fixed o → H b = some o → H' b = some o
theorem Keeps.refl (H : Hp) : Keeps H H := fun _ _ _ h => h
theorem Keeps.trans {H H1 H2 : Hp} (a : Keeps H H1) (b : Keeps H1 H2) : Keeps H H2 := fun c o f h => b c o f (a c o f h)
theorem Keeps.of {H H' : Hp} (s : Same H H') : Keeps H H' := fun b o _ h => s b o h
theorem Keeps.upd {H H' : Hp} {l : Addr} {o ol : HO} (h : H l = some ol) (n : ¬ Fixed ol) (e : L2.upd H l o = H') : Keeps H H' := fun b u f q => by
  rw [← e, upd_ne]
  · exact q
  · rintro rfl
    rw [h] at q
    cases q
    exact n f
theorem Keeps.tup {K : PySem.W.Frag} {H H' : Hp} {a : Addr} {xs : List V} (s : Keeps H H') (h : SqT K H a xs) : SqT K H' a xs := by
  rcases h with (h | ⟨o, h⟩) | h
  · exact .inl (.inl (s _ _ trivial h))
  · exact .inl (.inr ⟨o, s _ _ trivial h⟩)
  · exact .inr h
/-- the script, and what stands written -/
theorem Keeps.script {K : PySem.W.Frag} {H H' : Hp} {a : Addr} {o : Obj} {xs : List V} (s : Keeps H H') (h : H a = some (.frz o (.lst xs))) : SqL K H' a xs := .inl (.inr ⟨o, s _ _ trivial h⟩)
theorem SqL.keep {K : PySem.W.Frag} {H H' : Hp} {a d C dx : Addr} {fs : List (Str × V)} {o : HO} {xs : List V} (h : SqL K H a xs) (hd : H d = some (.ins C dx fs)) (e : L2.upd H d o = H') : SqL K H' a xs := by
  rcases h with (h | ⟨o', h⟩) | h
  · exact .inl (.inl (at_keep e h hd (by intro z; cases z)))
  · exact .inl (.inr ⟨o', at_keep e h hd (by intro z; cases z)⟩)
  · exact .inr h
/-- the script: a list that is read for as long as what is fixed stays -/
def Scr (K : PySem.W.Frag) (H : Hp) (a : Addr) (ns : List Int) : Prop := ∀ H', Keeps H H' → SqL K H' a (ns.map V.int)
theorem scr_of {K : PySem.W.Frag} {H : Hp} {a : Addr} {ns : List Int} (hO : Only H) (h : SqL K H a (ns.map V.int)) : Scr K H a ns := fun H' k => by
  rcases h with (h | ⟨o', h⟩) | h
  · rcases hO a with z | ⟨o, xs, z⟩ <;> rw [h] at z <;> cases z
  · exact .inl (.inr ⟨o', k _ _ trivial h⟩)
  · exact .inr h
/-- [e for x in range], its items anything -/
theorem r_lcR {lo : Int} {n slot : Nat} {vs : List Nat} {te : TE} {σ : L2.St} {H : Hp} {Q : V → Hp → Prop} (P : Nat → List V → Hp → Prop) (hn : n ≤ 100000) (hv : vs = [slot])
    (h0 : P 0 [] H)
    (hs : ∀ (i : Nat) (acc : List V) (H0 H' : Hp), i < n → L2.Same H H0 → P i acc H0 → L2.Same H0 H' → ∀ R : V → Hp → Prop,
      (∀ (v : V) (H'' : Hp), L2.Same H' H'' → (∀ D, H0 D = none → H' D = some (.lst acc) → P (i + 1) (acc ++ [v]) (hid D H'')) → R v H'') → te ((wipe σ vs).set slot (some (.int (lo + i)))) H' R)
    (q : ∀ (H' : Hp) (l : Addr) (acc : List V), L2.Same H H' → H l = none → H' l = some (.lst acc) → acc.length = n → P n acc (hid l H') → Q (.ref l) H') :
    kLc (gName slot) tYes te vs σ Q (Itr lo n) H := by
  intro L hL
  have hw : ∀ (τ : L2.St) (x : V), wipe (τ.set slot (some x)) [slot] = wipe τ [slot] := fun τ x => by simp [wipe, List.set_set]
  have hw2 : wipe (wipe σ vs) vs = wipe σ vs := by subst hv; simp [wipe, List.set_set]
  refine lc_range (fun i H' => ∃ acc : List V, acc.length = i ∧ H' L = some (.lst acc) ∧ L2.Same H H' ∧ P i acc (hid L H')) ⟨[], rfl, upd_same, fun b o e => by rw [upd_ne (ne_of_none e hL)]; exact e, by rw [hid_upd, hid_none hL]; exact h0⟩ ?_ ?_
  · rintro i H' hi ⟨acc, el, eL, s, hp⟩
    refine ⟨?_, ?_⟩
    · subst hv
      rw [hw]
      exact hw2
    · show te ((wipe σ vs).set slot (some (.int (lo + i)))) H' _
      refine hs i acc (hid L H') H' hi (same_hid s hL) hp hid_same _ fun v H'' s2 hP => ⟨acc, s2 _ _ eL, ?_, acc ++ [v], ?_, upd_same, ?_, ?_⟩
      · rw [el, sz]
        omega
      · rw [List.length_append, el]; rfl
      · intro b o e
        rw [upd_ne (ne_of_none e hL)]
        exact s2 _ _ (s _ _ e)
      · rw [hid_upd]
        exact hP L hid_at eL
  · rintro H' ⟨acc, el, eL, s, hp⟩
    exact q H' L acc s hL eL el hp
theorem keeps_hid {H : Hp} {D : Addr} {xs : List V} (h : H D = some (.lst xs)) : Keeps H (hid D H) := fun b o f e => by
  rw [hid_ne (ne_of e h (by rintro rfl; exact f))]
  exact e
theorem Keeps.hid {H H' : Hp} {D : Addr} (k : Keeps H H') (n : H D = none) : Keeps H (hid D H') := fun b o f e => by
  rw [hid_ne (ne_of_none e n)]
  exact k _ _ f e
mutual
/-- data of tuples alone -/
def tOnly : PyData → Bool
  | .none => true
  | .bool _ => true
  | .int _ => true
  | .str _ => true
  | .tuple ds => tOnlyAll ds
  | _ => false
def tOnlyAll : List PyData → Bool
  | [] => true
  | d :: ds => tOnly d && tOnlyAll ds
end
mutual
theorem Dp.keeps {K : PySem.W.Frag} {H H' : Hp} (s : Keeps H H') : ∀ (d : PyData) (v : V), tOnly d = true → Dp K H v d → Dp K H' v d
  | .none, _, _, h => by cases h; exact .non
  | .bool b, _, _, h => by cases h; exact .bl b
  | .int i, _, _, h => by cases h; exact .int i
  | .str x, _, _, h => by cases h; exact .str x
  | .list ds, _, t, _ => by simp [tOnly] at t
  | .tuple ds, _, t, h => by
    cases h with
    | tup hs ha => exact .tup (s.tup hs) (DpAll.keeps s ds _ (by simpa [tOnly] using t) ha)
  | .dict _, _, _, h => by cases h
theorem DpAll.keeps {K : PySem.W.Frag} {H H' : Hp} (s : Keeps H H') : ∀ (ds : List PyData) (vs : List V), tOnlyAll ds = true → DpAll K H vs ds → DpAll K H' vs ds
  | [], _, _, h => by cases h; exact .nil
  | d :: ds, _, t, h => by
    cases h with
    | cons h1 h2 =>
      have t' : tOnly d = true ∧ tOnlyAll ds = true := by simpa [tOnlyAll] using t
      exact .cons (Dp.keeps s d _ t'.1 h1) (DpAll.keeps s ds _ t'.2 h2)
end
/-- a block's value: data of tuples, not deep -/
def Bk (K : PySem.W.Frag) (H : Hp) (v : V) : Prop := ∃ d, Dp K H v d ∧ Fl 3 d ∧ tOnly d = true
theorem Bk.keeps {K : PySem.W.Frag} {H H' : Hp} {v : V} (s : Keeps H H') (h : Bk K H v) : Bk K H' v := by
  obtain ⟨d, h1, h2, h3⟩ := h
  exact ⟨d, Dp.keeps s d v h3 h1, h2, h3⟩
theorem Bk.non {K : PySem.W.Frag} {H : Hp} : Bk K H .non := ⟨.none, .non, Fl.non 3, rfl⟩
theorem tOnly_ints : ∀ ns : List Int, tOnlyAll (ns.map PyData.int) = true
  | [] => rfl
  | n :: ns => by rw [List.map_cons, tOnlyAll, tOnly, tOnly_ints ns]; rfl
/-- a block that the text writes: (kind, sequence, rank, body), the body a tuple of ints -/
theorem Bk.mk {K : PySem.W.Frag} {H : Hp} {t b : Addr} {i j k : Int} {ns : List Int} (h : H t = some (.tup [.int i, .int j, .int k, .ref b])) (hb : SqT K H b (ns.map V.int)) : Bk K H (.ref t) :=
  ⟨.tuple [.int i, .int j, .int k, .tuple (ns.map PyData.int)], .tup (.of h) (.cons (.int _) (.cons (.int _) (.cons (.int _) (.cons (.tup hb (DpAll.ints ns)) .nil)))), (Fl.tup (Fl.cons (Fl.int _ _) (Fl.cons (Fl.int _ _) (Fl.cons (Fl.int _ _) (Fl.cons (Fl.ints ns) Fl.nil))))).mono (by decide),
    by simp [tOnly, tOnlyAll, tOnly_ints]⟩
/-- equal values are equal -/
theorem r_neB {K : PySem.W.Frag} {H : Hp} {v : V} {Q : V → Hp → Prop} (h : Bk K H v) (q : Q (.bl false) H) : rNeD K v v H Q := by
  obtain ⟨d, h1, h2, _⟩ := h
  refine r_ned h1 h1 h2.shaped h2.shaped ?_
  rw [h2.self]
  exact q
/-! ### the device -/
structure DevM where
  lay : Addr
  sure : List V
  shown : List V
  wait : List (Int × V)
  left : Option Int
  off : Bool
def leftV : Option Int → V
  | none => .non
  | some n => .int n
structure DevFs (fs : List (Str × V)) (m : DevM) (su sh un : Addr) : Prop where
  few : fs.length ≤ 20
  lay : fs.lookup ("layout" : Str) = some (.ref m.lay)
  sure : fs.lookup ("_sure" : Str) = some (.ref su)
  shown : fs.lookup ("_shown" : Str) = some (.ref sh)
  uns : fs.lookup ("_unsure" : Str) = some (.ref un)
  left : fs.lookup ("_commands_left" : Str) = some (leftV m.left)
  off : fs.lookup ("_power_is_off" : Str) = some (.bl m.off)
  nT : fs.lookup ("_takes_place" : Str) = none
  nR : fs.lookup ("read" : Str) = none
  nW : fs.lookup ("write" : Str) = none
  nB : fs.lookup ("barrier" : Str) = none
  nC : fs.lookup ("cut_after" : Str) = none
  nP : fs.lookup ("pending" : Str) = none
  nS : fs.lookup ("sure_blocks" : Str) = none
  nU : fs.lookup ("was_cut" : Str) = none
  nL : fs.lookup ("left" : Str) = none
  nK : fs.lookup ("fork" : Str) = none
  nG : fs.lookup ("written_blocks" : Str) = none
theorem DevFs.to {fs : List (Str × V)} {m m' : DevM} {su sh un : Addr} (h : DevFs fs m su sh un) (e1 : m'.lay = m.lay) (e2 : m'.left = m.left) (e3 : m'.off = m.off) : DevFs fs m' su sh un := by
  obtain ⟨h1, h2, h3, h4, h5, h6, h7, g1, g2, g3, g4, g5, g6, g7, g8, g9, g10, g11⟩ := h
  exact ⟨h1, by rw [e1]; exact h2, h3, h4, h5, by rw [e2]; exact h6, by rw [e3]; exact h7, g1, g2, g3, g4, g5, g6, g7, g8, g9, g10, g11⟩
/-- a device over what stood ahead of it -/
structure DevIn (C : Addr) (H0 H : Hp) (d : Addr) (m : DevM) : Prop where
  same : Same H0 H
  new : H0 d = none
  at_ : ∃ (dx : Addr) (fs : List (Str × V)) (su sh un : Addr) (us : List Addr), H d = some (.ins C dx fs) ∧ DevFs fs m su sh un ∧ H0 su = none ∧ H0 sh = none ∧ H0 un = none ∧ su ≠ sh ∧ su ≠ un ∧ sh ≠ un ∧
    H su = some (.lst m.sure) ∧ H sh = some (.lst m.shown) ∧ H un = some (.lst (us.map V.ref)) ∧ Paired (fun (u : Addr) (p : Int × V) => H u = some (.tup [.int p.1, p.2])) us m.wait
theorem pairs_keeps {H H' : Hp} (s : Keeps H H') : ∀ {us : List Addr} {ps : List (Int × V)}, Paired (fun (u : Addr) (p : Int × V) => H u = some (.tup [.int p.1, p.2])) us ps → Paired (fun (u : Addr) (p : Int × V) => H' u = some (.tup [.int p.1, p.2])) us ps
  | _, _, .nil => .nil
  | _, _, .cons h t => .cons (s _ _ trivial h) (pairs_keeps s t)
theorem DevIn.mono {C : Addr} {H0 H H' : Hp} {d : Addr} {m : DevM} (s : Same H H') (h : DevIn C H0 H d m) : DevIn C H0 H' d m := by
  obtain ⟨s0, n0, dx, fs, su, sh, un, us, h1, h2, h3, h4, h5, h6, h7, h8, h9, h10, h11, h12⟩ := h
  exact ⟨s0.trans s, n0, dx, fs, su, sh, un, us, s _ _ h1, h2, h3, h4, h5, h6, h7, h8, s _ _ h9, s _ _ h10, s _ _ h11, pairs_keeps (Keeps.of s) h12⟩
/-- what stood ahead of it is changed -/
theorem DevIn.rebase {C : Addr} {H0 H : Hp} {d e : Addr} {m : DevM} {o ol : HO} (h : DevIn C H0 H d m) (he : H0 e = some ol) (hn : ¬ Fixed ol) : DevIn C (upd H0 e o) (upd H e o) d m := by
  obtain ⟨s0, n0, dx, fs, su, sh, un, us, h1, h2, h3, h4, h5, h6, h7, h8, h9, h10, h11, h12⟩ := h
  have ne : ∀ {x : Addr}, H0 x = none → x ≠ e := fun h z => by rw [z, he] at h; cases h
  refine ⟨fun b u q => ?_, by rw [upd_ne (ne n0)]; exact n0, dx, fs, su, sh, un, us, by rw [upd_ne (ne n0)]; exact h1, h2, by rw [upd_ne (ne h3)]; exact h3, by rw [upd_ne (ne h4)]; exact h4, by rw [upd_ne (ne h5)]; exact h5, h6, h7, h8,
    by rw [upd_ne (ne h3)]; exact h9, by rw [upd_ne (ne h4)]; exact h10, by rw [upd_ne (ne h5)]; exact h11, pairs_keeps (Keeps.upd (s0 _ _ he) hn rfl) h12⟩
  by_cases hb : b = e
  · rw [hb, upd_same] at q
    rw [hb, upd_same]
    exact q
  · rw [upd_ne hb] at q
    rw [upd_ne hb]
    exact s0 _ _ q

/-! ### methods of the device -/
def putB (xs : List V) (a : Int) (v : V) : List V := if 0 ≤ a ∧ a < xs.length then xs.set a.toNat v else xs
theorem putB_len {xs : List V} {a : Int} {v : V} : (putB xs a v).length = xs.length := by
  unfold putB
  split
  · rw [List.length_set]
  · rfl
def sp_put_block : Sp := fun vs H Q _ => ∃ (l : Addr) (a : Int) (v : V) (xs : List V), vs = [.ref l, .int a, v] ∧ H l = some (.lst xs) ∧ ∀ H', upd H l (.lst (putB xs a v)) = H' → Q .non H'
theorem upd_self {H : Hp} {l : Addr} {o : HO} (h : H l = some o) : upd H l o = H := by
  funext b
  by_cases hb : b = l
  · rw [hb, upd_same, h]
  · rw [upd_ne hb]
theorem ok_put_block (T : Txt K mg) : FnOk P w K mg base CX0 1 T.a_put_block T.fd_put_block ["blocks", "address", "block"] sp_put_block := by
  refine T.F_put_block.ok sc_put_block (fun vs H Q E h => ?_) (fun cdv A outer s H vs Q E hr h => ?_)
  · obtain ⟨l, a, v, xs, rfl, _⟩ := h
    rfl
  · refine ⟨_, (pss_one (ps_if (pt_chain op_le op_lt pe_int (pv 1) (pe_callB (c_len) (by rfl) T.n_len (by decide +kernel) (pa_cons (pv 0) pa_nil)))
       (pss_one (ps_asg (pv 2) (pg_sub (pv 0) (pv 1) set_list)))
       pss_nil)), ?_⟩
    try dsimp only [cxOf, Cx.nox, Cx.wish]
    obtain ⟨l, a, v, xs, rfl, hl, q⟩ := h
    walk_at "rd"
    refine r_ite (fun h0 => ?_) (fun h0 => ?_)
    · walk_at "rd"
      refine r_ite (fun h1 => ?_) (fun h1 => ?_)
      · walk_at "rd"
        refine r_setl hl (ixN_ok h0 h1) ?_
        exact q _ (by rw [putB, if_pos ⟨h0, h1⟩])
      · walk_at "rd"
        exact q _ (by rw [putB, if_neg (fun z => h1 z.2)]; exact upd_self hl)
    · walk_at "rd"
      exact q _ (by rw [putB, if_neg (fun z => h0 z.1)]; exact upd_self hl)
theorem putF_same {f : Str} {x v : V} : ∀ {fs : List (Str × V)}, fs.lookup f = some v → (putF f x fs).length = fs.length
  | [], h => by simp at h
  | (g, y) :: r, h => by
    unfold putF
    by_cases e : g = f
    · rw [if_pos e]
      rfl
    · rw [if_neg e]
      rw [List.lookup_cons] at h
      have hb : (f == g) = false := by
        cases hb : f == g with
        | false => rfl
        | true => exact absurd (eq_of_beq hb).symm e
      rw [hb] at h
      rw [List.length_cons, List.length_cons, putF_same h]
/-- a command is counted -/
def takeF (m : DevM) : DevM := match m.left with
  | some n => if n = 0 then { m with off := true } else { m with left := some (n - 1) }
  | none => m
theorem takeF_lists (m : DevM) : (takeF m).sure = m.sure ∧ (takeF m).shown = m.shown ∧ (takeF m).wait = m.wait ∧ (takeF m).lay = m.lay := by
  unfold takeF
  split
  · split <;> exact ⟨rfl, rfl, rfl, rfl⟩
  · exact ⟨rfl, rfl, rfl, rfl⟩
def sp_takes (C : Addr) : Sp := fun vs H Q _ => ∃ (H0 : Hp) (d : Addr) (m : DevM), vs = [.ref d] ∧ DevIn C H0 H d m ∧ ∀ H', DevIn C H0 H' d (takeF m) → Keeps H H' → Q (.bl (!(takeF m).off)) H'
/-- a field of the device is set -/
theorem DevFs.left' {fs : List (Str × V)} {m : DevM} {su sh un : Addr} (h : DevFs fs m su sh un) (n : Option Int) : DevFs (putF "_commands_left" (leftV n) fs) { m with left := n } su sh un := by
  obtain ⟨h1, h2, h3, h4, h5, h6, h7, g1, g2, g3, g4, g5, g6, g7, g8, g9, g10, g11⟩ := h
  exact ⟨by rw [putF_same h6]; exact h1, by walk_at "lk", by walk_at "lk", by walk_at "lk", by walk_at "lk", by walk_at "lk", by walk_at "lk", by walk_at "lk", by walk_at "lk", by walk_at "lk", by walk_at "lk", by walk_at "lk", by walk_at "lk", by walk_at "lk", by walk_at "lk", by walk_at "lk", by walk_at "lk", by walk_at "lk"⟩
theorem DevFs.off' {fs : List (Str × V)} {m : DevM} {su sh un : Addr} (h : DevFs fs m su sh un) (b : Bool) : DevFs (putF "_power_is_off" (.bl b) fs) { m with off := b } su sh un := by
  obtain ⟨h1, h2, h3, h4, h5, h6, h7, g1, g2, g3, g4, g5, g6, g7, g8, g9, g10, g11⟩ := h
  exact ⟨by rw [putF_same h7]; exact h1, by walk_at "lk", by walk_at "lk", by walk_at "lk", by walk_at "lk", by walk_at "lk", by walk_at "lk", by walk_at "lk", by walk_at "lk", by walk_at "lk", by walk_at "lk", by walk_at "lk", by walk_at "lk", by walk_at "lk", by walk_at "lk", by walk_at "lk", by walk_at "lk", by walk_at "lk"⟩
theorem DevFs.uns' {fs : List (Str × V)} {m : DevM} {su sh un : Addr} (h : DevFs fs m su sh un) (u : Addr) (w : List (Int × V)) : DevFs (putF "_unsure" (.ref u) fs) { m with wait := w } su sh u := by
  obtain ⟨h1, h2, h3, h4, h5, h6, h7, g1, g2, g3, g4, g5, g6, g7, g8, g9, g10, g11⟩ := h
  exact ⟨by rw [putF_same h5]; exact h1, by walk_at "lk", by walk_at "lk", by walk_at "lk", by walk_at "lk", by walk_at "lk", by walk_at "lk", by walk_at "lk", by walk_at "lk", by walk_at "lk", by walk_at "lk", by walk_at "lk", by walk_at "lk", by walk_at "lk", by walk_at "lk", by walk_at "lk", by walk_at "lk", by walk_at "lk"⟩
theorem insNF {C dx : Addr} {fs : List (Str × V)} : ¬ Fixed (.ins C dx fs) := fun z => z
theorem lstNF {xs : List V} : ¬ Fixed (.lst xs) := fun z => z
/-- the device's own record is changed -/
theorem DevIn.setd {C : Addr} {H0 H H' : Hp} {d dx : Addr} {m m' : DevM} {fs fs' : List (Str × V)} {su sh un : Addr} {us : List Addr} (s0 : Same H0 H) (n0 : H0 d = none) (h1 : H d = some (.ins C dx fs)) (e : upd H d (.ins C dx fs') = H') (h2 : DevFs fs' m' su sh un)
    (h3 : H0 su = none) (h4 : H0 sh = none) (h5 : H0 un = none) (h6 : su ≠ sh) (h7 : su ≠ un) (h8 : sh ≠ un) (h9 : H su = some (.lst m.sure)) (h10 : H sh = some (.lst m.shown)) (h11 : H un = some (.lst (us.map V.ref)))
    (h12 : Paired (fun (u : Addr) (p : Int × V) => H u = some (.tup [.int p.1, p.2])) us m.wait) (e1 : m'.sure = m.sure) (e2 : m'.shown = m.shown) (e3 : m'.wait = m.wait) : DevIn C H0 H' d m' := by
  have k : ∀ {x : Addr} {xs : List V}, H x = some (.lst xs) → H' x = some (.lst xs) := fun hx => at_keep e hx h1 (by intro z; cases z)
  exact ⟨Same.old s0 n0 e, n0, dx, fs', su, sh, un, us, Sg.at_new e, h2, h3, h4, h5, h6, h7, h8, by rw [e1]; exact k h9, by rw [e2]; exact k h10, k h11, by rw [e3]; exact pairs_keeps (Keeps.upd h1 insNF e) h12⟩
theorem ok_Device__takes_place (T : Txt K mg) : FnOk P w K mg base CX0 1 T.a_Device__takes_place T.fd_Device__takes_place ["self"] (sp_takes T.A_Device) := by
  refine T.F_Device__takes_place.ok sc_Device__takes_place (fun vs H Q E h => ?_) (fun cdv A outer s H vs Q E hr h => ?_)
  · obtain ⟨H0, d, m, rfl, _⟩ := h
    rfl
  · refine ⟨_, (C8.pss_cut (ps_if (pt_cmpR op_eq (pe_fld (pv 0) rfl) pe_int (nomark _))
       (pss_one (ps_fld (pv 0) pe_bl rfl))
       (pss_one (ps_if (pt_cmp (pc_notN (pe_fld (pv 0) rfl)) rfl)
       (pss_one (ps_fldaug (pv 0) pe_int in_sub))
       pss_nil)))
       (pss_one (ps_ret (pe_not (pe_fld (pv 0) rfl))))), ?_⟩
    try dsimp only [cxOf, Cx.nox, Cx.wish]
    obtain ⟨H0, d, m, rfl, ⟨s0, n0, dx, fs, su, sh, un, us, h1, h2, h3, h4, h5, h6, h7, h8, h9, h10, h11, h12⟩, q⟩ := h
    have cl := T.cl_Device
    have na1 := T.na_Device__commands_left
    have na2 := T.na_Device__power_is_off
    obtain ⟨few, lkl, lks, lkh, lku, lkc, lko, _⟩ := id h2
    walk_at "rd"
    refine r_cut (fun σ' H' => σ' = [some (.ref d)] ∧ DevIn T.A_Device H0 H' d (takeF m) ∧ Keeps H H') ?_ ?_
    · walk_at "rd"
      have base : takeF m = m → DevIn T.A_Device H0 H d (takeF m) := fun e => by
        rw [e]
        exact ⟨s0, n0, dx, fs, su, sh, un, us, h1, h2, h3, h4, h5, h6, h7, h8, h9, h10, h11, h12⟩
      cases hl : m.left with
      | none =>
        rw [hl] at lkc
        have lkc : fs.lookup ("_commands_left" : Str) = some .non := lkc
        show rEq .non (.int 0) H _
        refine r_eq rfl ?_
        walk_at "rd"
        exact ⟨rfl, base (by unfold takeF; rw [hl]), Keeps.refl H⟩
      | some n =>
        rw [hl] at lkc
        have lkc : fs.lookup ("_commands_left" : Str) = some (.int n) := lkc
        show rEq (.int n) (.int 0) H _
        walk_at "rd"
        refine r_ite (fun h0 => ?_) (fun h0 => ?_)
        · walk_at "rd"
          rename_i H' e _
          refine ⟨rfl, ?_, Keeps.upd h1 insNF e⟩
          have em : takeF m = { m with off := true } := by unfold takeF; rw [hl]; exact if_pos h0
          rw [em]
          exact DevIn.setd (m := m) s0 n0 h1 e (h2.off' true) h3 h4 h5 h6 h7 h8 h9 h10 h11 h12 rfl rfl rfl
        · walk_at "rd"
          refine ⟨_, rfl, d, _, dx, fs, _, rfl, h1, cl, na1, lkc, ?_⟩
          refine ⟨_, _, rfl, rfl, dx, fs, h1, by omega, ?_⟩
          have em : takeF m = { m with left := some (n - 1) } := by unfold takeF; rw [hl]; exact if_neg h0
          refine ⟨rfl, ?_, Keeps.upd h1 insNF rfl⟩
          rw [em]
          exact DevIn.setd (m := m) s0 n0 h1 rfl (h2.left' (some (n - 1))) h3 h4 h5 h6 h7 h8 h9 h10 h11 h12 rfl rfl rfl
    · rintro _ H' ⟨rfl, hD, hK⟩
      obtain ⟨s0', n0', dx', fs', su', sh', un', us', h1', h2', _⟩ := id hD
      have lko' := h2'.off
      walk_at "rd"
      exact q _ hD hK
def readF (m : DevM) (a : Int) : V := if 0 ≤ a ∧ a < m.shown.length then m.shown.getD a.toNat .non else .non
def sp_read (C : Addr) : Sp := fun vs H Q _ => ∃ (H0 : Hp) (d : Addr) (m : DevM) (a : Int), vs = [.ref d, .int a] ∧ DevIn C H0 H d m ∧ Q (readF m a) H
theorem at_vals {xs : List V} {k : Int} (h0 : 0 ≤ k) (h1 : k < xs.length) : atI xs k = some (xs.getD k.toNat .non) := by
  obtain ⟨n, rfl⟩ := Int.eq_ofNat_of_zero_le h0
  have hn : n < xs.length := by omega
  refine atI_nat ?_
  rw [List.getElem?_eq_getElem hn, List.getD_eq_getElem?_getD, Int.toNat_natCast, List.getElem?_eq_getElem hn]
  rfl
theorem ok_Device_read (T : Txt K mg) : FnOk P w K mg base CX0 1 T.a_Device_read T.fd_Device_read ["self", "address"] (sp_read T.A_Device) := by
  refine T.F_Device_read.ok sc_Device_read (fun vs H Q E h => ?_) (fun cdv A outer s H vs Q E hr h => ?_)
  · obtain ⟨H0, d, m, a, rfl, _⟩ := h
    rfl
  · refine ⟨_, (pss_cons (ps_if (pt_not (pt_chain op_le op_lt pe_int (pv 1) (pe_callB (c_len) (by rfl) T.n_len (by decide +kernel) (pa_cons (pe_fld (pv 0) rfl) pa_nil))))
       (pss_one (ps_ret pe_non))
       pss_nil)
       (pss_one (ps_ret (pe_ix ix_list (pe_fld (pv 0) rfl) (pv 1) (fun _ _ => rfl))))), ?_⟩
    try dsimp only [cxOf, Cx.nox, Cx.wish]
    obtain ⟨H0, d, m, a, rfl, ⟨s0, n0, dx, fs, su, sh, un, us, h1, h2, h3, h4, h5, h6, h7, h8, h9, h10, h11, h12⟩, q⟩ := h
    have cl := T.cl_Device
    have na1 := T.na_Device__shown
    obtain ⟨few, lkl, lks, lkh, lku, lkc, lko, _⟩ := id h2
    by_cases ha : 0 ≤ a ∧ a < m.shown.length
    · obtain ⟨a0, a1⟩ := ha
      walk_at "rdo"
      refine r_ixl (by walk_at "hp") (at_vals a0 a1) ?_
      rw [readF, if_pos ⟨a0, a1⟩] at q
      exact q
    · rw [readF, if_neg ha] at q
      walk_at "rd"
      refine r_ite (fun h0 => ?_) (fun h0 => ?_)
      · walk_at "rdo"
        exact q
      · walk_at "rdo"
        exact q
def writeF (m : DevM) (a : Int) (v : V) : DevM :=
  { takeF m with wait := if (takeF m).off then m.wait else m.wait ++ [(a, v)], shown := putB m.shown a v }
def sp_write (C : Addr) : Sp := fun vs H Q _ => ∃ (H0 : Hp) (d : Addr) (m : DevM) (a : Int) (v : V), vs = [.ref d, .int a, v] ∧ DevIn C H0 H d m ∧ m.wait.length ≤ 1000 ∧ ∀ H', DevIn C H0 H' d (writeF m a v) → Keeps H H' → Q .non H'
theorem ok_Device_write (T : Txt K mg) : FnOk P w K mg base CX0 2 T.a_Device_write T.fd_Device_write ["self", "address", "block"] (sp_write T.A_Device) := by
  refine T.F_Device_write.ok sc_Device_write (fun vs H Q E h => ?_) (fun cdv A outer s H vs Q E hr h => ?_)
  · obtain ⟨H0, d, m, a, v, rfl, _⟩ := h
    rfl
  · refine ⟨_, (C8.pss_cut (ps_if (pt_val (pe_meth0 (pv 0) T.cl_Device T.me_Device__takes_place (ok_Device__takes_place T) (hr.mono (by decide)) T.b_Device__takes_place .nil pass0))
       (pss_one (ps_expr (pe_bm PySem.F.plainAttrs_list PySem.F.slot_list_append PySem.F.type_list_append mt_append (pe_fld (pv 0) rfl) (pa_cons (pe_tup (pa_cons (pv 1) (pa_cons (pv 2) pa_nil))) pa_nil))))
       pss_nil)
       (pss_one (ps_expr (pe_call (ok_put_block T) (hr.mono (by decide)) rfl T.m_put_block T.F_put_block.kp T.b_put_block .nil pass0 (pa_cons (pe_fld (pv 0) rfl) (pa_cons (pv 1) (pa_cons (pv 2) pa_nil))))))), ?_⟩
    try dsimp only [cxOf, Cx.nox, Cx.wish]
    obtain ⟨H0, d, m, a, v, rfl, hD, hw, q⟩ := h
    have cl := T.cl_Device
    have na1 := T.na_Device__shown
    have na2 := T.na_Device__unsure
    obtain ⟨s0, n0, dx, fs, su, sh, un, us, h1, h2, _⟩ := id hD
    have nT := h2.nT
    walk_at "rd"
    refine r_cut (fun σ' H' => σ' = [some (.ref d), some (.int a), some v] ∧ DevIn T.A_Device H0 H' d { takeF m with wait := if (takeF m).off then m.wait else m.wait ++ [(a, v)] } ∧ Keeps H H') ?_ ?_
    · walk_at "rd"
      refine ⟨H0, d, m, rfl, hD, fun H1 hD1 hK1 => ?_⟩
      obtain ⟨t1, t2, t3, t4⟩ := takeF_lists m
      generalize takeF m = m1 at hD1 t1 t2 t3 t4
      walk_at "rd"
      refine to_ite (fun hb => ?_) (fun hb => ?_)
      · have ho : m1.off = false := by simpa using hb
        obtain ⟨s0', n0', dx', fs', su', sh', un', us', h1', h2', h3', h4', h5', h6', h7', h8', h9', h10', h11', h12'⟩ := id hD1
        have lku := h2'.uns
        walk_at "rd"
        rename_i tp ntp H2 s2 htp
        have hl' : us'.length ≤ 1000 := by rw [Paired.length h12', t3]; exact hw
        refine r_app (by walk_at "hp") (by rw [List.length_map, sz]; omega) ?_
        generalize hH : upd _ _ _ = H3
        refine ⟨rfl, ⟨Same.old (s0'.trans s2) h5' hH, n0', dx', fs', su', sh', un', us' ++ [tp], at_keep hH (s2 _ _ h1') (s2 _ _ h11') (by intro z; cases z), h2'.to rfl rfl rfl, h3', h4', h5', h6', h7', h8', ?_, ?_, ?_, ?_⟩, (hK1.trans (Keeps.of s2)).trans (Keeps.upd (s2 _ _ h11') lstNF hH)⟩
        · rw [← hH, upd_ne h7']
          exact s2 _ _ h9'
        · rw [← hH, upd_ne h8']
          exact s2 _ _ h10'
        · rw [← hH, upd_same, List.map_append]
          rfl
        · rw [ho, if_neg (by decide), ← t3]
          exact paired_snoc (pairs_keeps ((Keeps.of s2).trans (Keeps.upd (s2 _ _ h11') lstNF hH)) h12') (by rw [← hH, upd_ne (ne_of htp (s2 _ _ h11') (by intro z; cases z))]; exact htp)
      · have ho : m1.off = true := by simpa using hb
        refine ⟨rfl, ?_, hK1⟩
        rw [ho, if_pos rfl, ← t3]
        exact hD1
    · rintro _ H' ⟨rfl, hD', hK⟩
      obtain ⟨t1, t2, t3, t4⟩ := takeF_lists m
      obtain ⟨s0', n0', dx', fs', su', sh', un', us', h1', h2', h3', h4', h5', h6', h7', h8', h9', h10', h11', h12'⟩ := id hD'
      have lks := h2'.shown
      walk_at "rd"
      refine ⟨sh', a, v, _, rfl, h10', fun H2 hH => ?_⟩
      have kp : Keeps H' H2 := Keeps.upd h10' lstNF hH
      refine q _ ⟨Same.old s0' h4' hH, n0', dx', fs', su', sh', un', us', at_keep hH h1' h10' (by intro z; cases z), h2'.to rfl rfl rfl, h3', h4', h5', h6', h7', h8', ?_, ?_, ?_, pairs_keeps kp h12'⟩ (hK.trans kp)
      · rw [← hH, upd_ne h6']
        exact h9'
      · rw [← hH, upd_same]
        show some (HO.lst (putB (takeF m).shown a v)) = some (HO.lst (putB m.shown a v))
        rw [t2]
      · rw [← hH, upd_ne h8'.symm]
        exact h11'

/-! ### a device is made -/
theorem rep_non (n : Nat) : (List.replicate n [V.non]).flatten = List.replicate n V.non := by
  induction n with
  | zero => rfl
  | succ n ih => rw [List.replicate_succ, List.flatten_cons, ih, List.replicate_succ]; rfl
def newM (lay : Addr) (xs : List V) : DevM := ⟨lay, xs, xs, [], none, false⟩
def sp_dev_init (K : PySem.W.Frag) (C CL : Addr) : Sp := fun vs H Q _ => ∃ (H0 : Hp) (d dx lay : Addr) (L : Lay) (b : V) (xs : List V), vs = [.ref d, .ref lay, b] ∧ H d = some (.ins C dx []) ∧ Same H0 H ∧ H0 d = none ∧ LayAt CL L H lay ∧
  ((b = .non ∧ 0 ≤ L.dev ∧ L.dev ≤ 100000 ∧ xs = List.replicate L.dev.toNat V.non) ∨ ∃ l, b = .ref l ∧ SqL K H l xs) ∧ ∀ H', DevIn C H0 H' d (newM lay xs) → Keeps H H' → Q .non H'
theorem ok_Device___init (T : Txt K mg) : FnOk P w K mg base CX0 1 T.a_Device___init T.fd_Device___init ["self", "layout", "blocks"] (sp_dev_init K T.A_Device T.A_Layout) := by
  refine T.F_Device___init.ok (CX := CX0) sc_Device___init (fun vs H Q E h => ?_) (fun cdv A outer s H vs Q E hr h => ?_)
  · obtain ⟨H0, d, dx, lay, L, b, xs, rfl, _⟩ := h
    rfl
  · refine ⟨_, (C8.pss_cut (ps_if (pt_cmp (pc_isN (pv 2)) rfl)
       (pss_one (ps_set (i := 2) sc_Device___init.nd rfl (Or.inl rfl) (pe_op op_rep (pe_lst (pa_cons pe_non pa_nil)) (pe_fld (pv 1) rfl))))
       pss_nil)
       (pss_cons (ps_fld (pv 0) (pv 1) rfl)
       (pss_cons (ps_fld (pv 0) (pe_callTy c_list (by rfl) T.n_list (by decide +kernel) (pa_cons (pv 2) pa_nil)) rfl)
       (pss_cons (ps_fld (pv 0) (pe_callTy c_list (by rfl) T.n_list (by decide +kernel) (pa_cons (pv 2) pa_nil)) rfl)
       (pss_cons (ps_fld (pv 0) (pe_lst pa_nil) rfl)
       (pss_cons (ps_fld (pv 0) pe_non rfl)
       (pss_one (ps_fld (pv 0) pe_bl rfl)))))))), ?_⟩
    try dsimp only [cxOf, Cx.nox, Cx.wish]
    obtain ⟨H0, d, dx, lay, L, b, xs, rfl, hd, s0, n0, ⟨ldx, lfs, hlay, hL⟩, hb, q⟩ := h
    have clL := T.cl_Layout
    have naL := T.na_Layout_device_blocks
    have lkL := hL.dev
    have cl := T.cl_Device
    have na1 := T.na_Device_layout
    have na2 := T.na_Device__sure
    have na3 := T.na_Device__shown
    have na4 := T.na_Device__unsure
    have na5 := T.na_Device__commands_left
    have na6 := T.na_Device__power_is_off
    walk_at "rd"
    refine r_cut (fun σ' H' => ∃ l, σ' = [some (.ref d), some (.ref lay), some (.ref l)] ∧ Same H H' ∧ SqL K H' l xs) ?_ ?_
    · rcases hb with ⟨rfl, d0, d1, rfl⟩ | ⟨l, rfl, hl⟩
      · walk_at "rd"
        refine r_rep (by walk_at "hp") (by omega) (by omega) ?_ ?_
        · show 1 * _ ≤ sizeLine
          rw [sz]
          omega
        rw [rep_non]
        walk_at "al"
        walk_at "rd"
        exact ⟨_, rfl, by walk_at "sm", by walk_at "hp"⟩
      · walk_at "rd"
        exact ⟨l, rfl, Same.refl _, hl⟩
    · rintro _ H1 ⟨l, rfl, s1, hl⟩
      have hd1 : H1 d = some (.ins T.A_Device dx []) := s1 _ _ hd
      walk_at "rd"
      rename_i H2 e2 h2
      refine r_listl (SqL.keep hl hd1 e2) ?_
      walk_at "al"
      walk_at "rd"
      rename_i su nsu H3 s3 hsu H4 e4 h4
      have hd3 := s3 _ _ h2
      refine r_listl (SqL.keep (s3.seq (SqL.keep hl hd1 e2)) hd3 e4) ?_
      walk_at "al"
      walk_at "rd"
      rename_i sh nsh H5 s5 hsh H6 e6 h6 un nun H7 s7 hun H8 e8 h8 H9 e9 h9 H10 e10 h10
      have b1 : Same H0 H2 := Same.old (s0.trans s1) n0 e2
      have b3 : Same H0 H4 := Same.old (b1.trans s3) n0 e4
      have b5 : Same H0 H6 := Same.old (b3.trans s5) n0 e6
      have b7 : Same H0 H8 := Same.old (b5.trans s7) n0 e8
      have b9 : Same H0 H10 := Same.old (Same.old b7 n0 e9) n0 e10
      have l4 : ∀ {x : Addr} {ys : List V}, H3 x = some (.lst ys) → H4 x = some (.lst ys) := fun h => at_keep e4 h hd3 (by intro z; cases z)
      have l6 : ∀ {x : Addr} {ys : List V}, H5 x = some (.lst ys) → H6 x = some (.lst ys) := fun h => at_keep e6 h (s5 _ _ h4) (by intro z; cases z)
      have l8 : ∀ {x : Addr} {ys : List V}, H7 x = some (.lst ys) → H8 x = some (.lst ys) := fun h => at_keep e8 h (s7 _ _ h6) (by intro z; cases z)
      have l9 : ∀ {x : Addr} {ys : List V}, H8 x = some (.lst ys) → H10 x = some (.lst ys) := fun h => at_keep e10 (at_keep e9 h h8 (by intro z; cases z)) h9 (by intro z; cases z)
      have c4 := l4 hsu
      have c6 := l6 (s5 _ _ c4)
      have c8 := l8 (s7 _ _ c6)
      have d6 := l6 hsh
      have d8 := l8 (s7 _ _ d6)
      have e8' := l8 hun
      have k2 : Keeps H1 H2 := Keeps.upd hd1 insNF e2
      have k4 : Keeps H2 H4 := (Keeps.of s3).trans (Keeps.upd hd3 insNF e4)
      have k6 : Keeps H4 H6 := (Keeps.of s5).trans (Keeps.upd (s5 _ _ h4) insNF e6)
      have k8 : Keeps H6 H8 := (Keeps.of s7).trans (Keeps.upd (s7 _ _ h6) insNF e8)
      have k10 : Keeps H8 H10 := (Keeps.upd h8 insNF e9).trans (Keeps.upd h9 insNF e10)
      refine q _ ⟨b9, n0, dx, _, su, sh, un, [], h10, ⟨Sg.putF_len (Sg.putF_len (Sg.putF_len (Sg.putF_len (Sg.putF_len (Sg.putF_len (Nat.zero_le _)))))), by walk_at "lk", by walk_at "lk", by walk_at "lk", by walk_at "lk", by walk_at "lk", by walk_at "lk", by walk_at "lk", by walk_at "lk", by walk_at "lk", by walk_at "lk", by walk_at "lk", by walk_at "lk", by walk_at "lk", by walk_at "lk", by walk_at "lk", by walk_at "lk", by walk_at "lk"⟩,
        b1.free nsu, b3.free nsh, b5.free nun, fun e => ?_, fun e => ?_, fun e => ?_, l9 c8, l9 d8, l9 e8', .nil⟩ ((Keeps.of s1).trans (k2.trans (k4.trans (k6.trans (k8.trans k10)))))
      · rw [← e, c4] at nsh
        cases nsh
      · rw [← e, c6] at nun
        cases nun
      · rw [← e, d6] at nun
        cases nun

structure LayB (L : Lay) : Prop where
  l0 : 45 ≤ L.last
  l1 : L.last ≤ 465
  d0 : 64 ≤ L.dev
  d1 : L.dev ≤ 1000
  z0 : 64 ≤ L.size
  z1 : L.size ≤ 256
  f0 : 32 ≤ L.fan
  f1 : L.fan ≤ 128
theorem Fits.bounds {s b z : Int} (h : Fits s b z) : LayB (layOf s b z) := by
  obtain ⟨s0, s1, b0, b1, hz, _⟩ := h
  have e : (s - 2) * (b - 1) + (b - 1) = (s - 1) * (b - 1) := by
    have e : s - 1 = (s - 2) + 1 := by omega
    rw [e, Int.add_mul, Int.one_mul]
  have h1 : 3 * (b - 1) ≤ (s - 1) * (b - 1) := Int.mul_le_mul_of_nonneg_right (by omega) (by omega)
  have h2 : (s - 1) * (b - 1) ≤ 15 * (b - 1) := Int.mul_le_mul_of_nonneg_right (by omega) (by omega)
  have h3 : 4 * b ≤ s * b := Int.mul_le_mul_of_nonneg_right (by omega) (by omega)
  have h4 : s * b ≤ 16 * b := Int.mul_le_mul_of_nonneg_right (by omega) (by omega)
  have e1 : (layOf s b z).last = (s - 1) * (b - 1) := e
  have e2 : (layOf s b z).dev = 2 * ((2 * (4 * ((s - 1) * (b - 1)) + 6 + s) + z - 1) / z) + s * b := by
    show 2 * ((2 * (4 * ((s - 2) * (b - 1) + (b - 1)) + 6 + s) + z - 1) / z) + s * b = _
    rw [e]
  have e3 : (layOf s b z).size = z := rfl
  have e4 : (layOf s b z).fan = z / 2 := rfl
  generalize (s - 1) * (b - 1) = l at h1 h2 e1 e2
  generalize s * b = d at h3 h4 e2
  constructor
  · omega
  · omega
  · rcases hz with rfl | rfl | rfl <;> omega
  · rcases hz with rfl | rfl | rfl <;> omega
  · rcases hz with rfl | rfl | rfl <;> omega
  · rcases hz with rfl | rfl | rfl <;> omega
  · rcases hz with rfl | rfl | rfl <;> omega
  · rcases hz with rfl | rfl | rfl <;> omega

/-! ### enumerate of a list -/
def kIe (K : PySem.W.Frag) (R : It → Hp → Prop) : List V → Hp → Prop := fun vs H1 => ∃ a xs, vs = [.ref a] ∧ SqL K H1 a xs ∧ R (Ite K a) H1
theorem r_ienum {K : PySem.W.Frag} {ta : TA} {σ : L2.St} {H : Hp} {R : It → Hp → Prop} (h : ta σ H (kIe K R)) : iEnum K ta σ H R := h
theorem r_kIe {K : PySem.W.Frag} {a : Addr} {xs : List V} {H : Hp} {R : It → Hp → Prop} (h1 : SqL K H a xs) (h : R (Ite K a) H) : kIe K R [.ref a] H := ⟨a, xs, rfl, h1, h⟩
theorem r_forE {K : PySem.W.Frag} {a : Addr} {xs : List V} {σ : L2.St} {H : Hp} {D : Ends} {g : TG} {tb : TS} (Pv : Nat → L2.St → Hp → Prop) (h0 : Pv 0 σ H) (hl : ∀ i σ H, i ≤ xs.length → Pv i σ H → SqL K H a xs)
    (hs : ∀ (i : Nat) (x : V) (σ : L2.St) (H H' : Hp) (T : Addr), xs[i]? = some x → Pv i σ H → H T = none → upd H T (.tup [.int (i : Nat), x]) = H' → g (.ref T) σ H' fun σ2 H2 => tb { D with nx := Pv (i + 1), ct := Pv (i + 1), bk := D.nx } σ2 H2)
    (hd : ∀ σ H, Pv xs.length σ H → D.nx σ H) : kFor g tb D σ (Ite K a) H :=
  for_it walk_enum Pv h0 hl (fun i x σ H H' hlt p y => by
    obtain ⟨T, z, w, e1, e2, e3, e4, e5⟩ := y
    cases e4
    rw [e1]
    exact hs i w σ H H' T e5 p e2 e3.symm) hd
def SqI (K : PySem.W.Frag) (H : Hp) (l : Addr) (ns : List Int) : Prop := SqL K H l (ns.map V.int) ∨ SqT K H l (ns.map V.int)
theorem SqI.mono {K : PySem.W.Frag} {H H' : Hp} {l : Addr} {ns : List Int} (s : Same H H') (h : SqI K H l ns) : SqI K H' l ns := h.imp (fun h => s.seq h) (fun h => Same.tup s h)
theorem inV_ints (k : Int) : ∀ ns : List Int, inV (.int k) (ns.map V.int) = decide (k ∈ ns)
  | [] => rfl
  | n :: ns => by
    have ih := inV_ints k ns
    unfold inV at ih ⊢
    rw [List.map_cons, List.any_cons, ih]
    by_cases e : k = n
    · subst e
      simp [eqV]
    · have e' : ¬ n = k := fun z => e z.symm
      simp [eqV, e, e']
theorem flat_ints : ∀ ns : List Int, (ns.map V.int).all flatV = true
  | [] => rfl
  | n :: ns => by rw [List.map_cons, List.all_cons, flat_ints ns]; rfl

/-! ### blocks by what they tell -/
structure BI where
  kind : Int
  seq : Int
  rank : Int
  cnt : Nat
inductive BAt (K : PySem.W.Frag) (H : Hp) : V → Option BI → Prop
  | none : BAt K H .non none
  | some {t b : Addr} {i : BI} (h : SqT K H t [.int i.kind, .int i.seq, .int i.rank, .ref b]) (h1 : i.kind = 1 → ∃ (x u : Addr) (a : Int) (xs : List V), SqT K H b [.ref x, .ref u, .int a] ∧ SqT K H x xs ∧ xs.length = i.cnt)
      (h2 : i.kind ≠ 1 → ∃ xs : List V, SqT K H b xs ∧ xs.length = i.cnt) : BAt K H (.ref t) (some i)
theorem BAt.keeps {K : PySem.W.Frag} {H H' : Hp} {v : V} {o : Option BI} (s : Keeps H H') (h : BAt K H v o) : BAt K H' v o := by
  cases h with
  | none => exact .none
  | some h h1 h2 =>
    refine .some (s.tup h) (fun e => ?_) (fun e => ?_)
    · obtain ⟨x, u, a, xs, g1, g2, g3⟩ := h1 e
      exact ⟨x, u, a, xs, s.tup g1, s.tup g2, g3⟩
    · obtain ⟨xs, g1, g2⟩ := h2 e
      exact ⟨xs, s.tup g1, g2⟩
def payI : Option BI → Bool
  | none => false
  | some i => decide (i.kind = 3 ∨ i.kind = 4)
theorem in34 (z : Int) : inV (V.int z) [V.int 3, V.int 4] = decide (z = 3 ∨ z = 4) := by
  rw [show [V.int 3, V.int 4] = ([3, 4] : List Int).map V.int from rfl, inV_ints]
  simp
theorem in12 (z : Int) : inV (V.int z) [V.int 1, V.int 2] = decide (z = 1 ∨ z = 2) := by
  rw [show [V.int 1, V.int 2] = ([1, 2] : List Int).map V.int from rfl, inV_ints]
  simp
def sp_isp (K : PySem.W.Frag) : Sp := fun vs H Q _ => ∃ (v : V) (o : Option BI), vs = [v] ∧ BAt K H v o ∧ ∀ H', Same H H' → Q (.bl (payI o)) H'
theorem ok_is_payload (T : Txt K mg) : FnOk P w K mg base CX0 1 T.a_is_payload T.fd_is_payload ["block"] (sp_isp K) := by
  refine T.F_is_payload.ok sc_is_payload (fun vs H Q E h => ?_) (fun cdv A outer s H vs Q E hr h => ?_)
  · obtain ⟨v, o, rfl, _⟩ := h
    rfl
  · refine ⟨_, (pss_one (ps_ret (pe_and (pe_cmp (pc_notN (pv 0)) rfl) (pe_one (pe_cmpR op_in_seq (pe_ix ix_tup (pv 0) pe_int (fun _ _ => rfl)) (pe_tup (pa_cons (pe_glob rfl T.c_DATA T.r_DATA) (pa_cons (pe_glob rfl T.c_NODE T.r_NODE) pa_nil))) (by with_unfolding_all rfl)))))), ?_⟩
    try dsimp only [cxOf, Cx.nox, Cx.wish]
    obtain ⟨v, o, rfl, hv, q⟩ := h
    cases hv with
    | none =>
      walk_at "rd"
      exact q _ (Same.refl _)
    | some ht h1 h2 =>
      walk_at "rd"
      rename_i t nt H1 s1 h1'
      rw [in34]
      exact q _ s1
def sp_listed (K : PySem.W.Frag) : Sp := fun vs H Q _ => ∃ (v : V) (i : BI), vs = [v] ∧ BAt K H v (some i) ∧ ∀ (x : Addr) (xs : List V), SqT K H x xs → xs.length = i.cnt → Q (.ref x) H
theorem ok_listed_in (T : Txt K mg) : FnOk P w K mg base CX0 1 T.a_listed_in T.fd_listed_in ["summary"] (sp_listed K) := by
  refine T.F_listed_in.ok sc_listed_in (fun vs H Q E h => ?_) (fun cdv A outer s H vs Q E hr h => ?_)
  · obtain ⟨v, i, rfl, _⟩ := h
    rfl
  · refine ⟨_, (pss_cons (ps_if (pt_cmpR op_eq (pe_ix ix_tup (pv 0) pe_int (fun _ _ => rfl)) (pe_glob rfl T.c_COMMIT T.r_COMMIT) (nomark _))
       (pss_one (ps_ret (pe_ix ix_tup (pe_ix ix_tup (pv 0) pe_int (fun _ _ => rfl)) pe_int (fun _ _ => rfl))))
       pss_nil)
       (pss_one (ps_ret (pe_ix ix_tup (pv 0) pe_int (fun _ _ => rfl))))), ?_⟩
    try dsimp only [cxOf, Cx.nox, Cx.wish]
    obtain ⟨v, i, rfl, hv, q⟩ := h
    cases hv with
    | some ht h1 h2 =>
      walk_at "rd"
      refine r_ite (fun e => ?_) (fun e => ?_)
      · obtain ⟨x, u, a, xs, g1, g2, g3⟩ := h1 e
        walk_at "rd"
        exact q _ _ g2 g3
      · obtain ⟨xs, g1, g2⟩ := h2 e
        walk_at "rd"
        exact q _ _ g1 g2
theorem eqt_ints {as bs : List Int} : PyData.eqv (.tuple (as.map PyData.int)) (.tuple (bs.map PyData.int)) = decide (as = bs) := by
  rw [← eqv_ints, PyData.eqv, PyData.eqv]
/-- two tuples of two ints are compared -/
theorem r_neT2 {K : PySem.W.Frag} {H : Hp} {a b : Addr} {i j k l : Int} {Q : V → Hp → Prop} (ha : SqT K H a [.int i, .int j]) (hb : SqT K H b [.int k, .int l]) (q : Q (.bl (!decide (i = k ∧ j = l))) H) : rNeD K (.ref a) (.ref b) H Q := by
  refine r_ned (.tup ha (DpAll.ints [i, j])) (.tup hb (DpAll.ints [k, l])) (Fl.ints _).shaped (Fl.ints _).shaped ?_
  rw [eqt_ints]
  simp only [List.cons.injEq, and_true]
  exact q

def sp_addr (C : Addr) : Sp := fun vs H Q _ => ∃ (p : Addr) (L : Lay) (g c : Int), vs = [.ref p, .int g, .int c] ∧ LayAt C L H p ∧ 0 ≤ g ∧ g ≤ 1000 ∧ Q (.int (2 * L.reg + g * L.blk + c)) H
theorem ok_address_at (T : Txt K mg) : FnOk P w K mg base CX0 1 T.a_address_at T.fd_address_at ["layout", "segment", "place"] (sp_addr T.A_Layout) := by
  refine T.F_address_at.ok sc_address_at (fun vs H Q E h => ?_) (fun cdv A outer s H vs Q E hr h => ?_)
  · obtain ⟨p, L, g, c, rfl, _⟩ := h
    rfl
  · refine ⟨_, (pss_one (ps_ret (pe_op op_add (pe_op op_add (pe_op op_mul pe_int (pe_fld (pv 0) rfl)) (pe_op op_mul (pv 1) (pe_fld (pv 0) rfl))) (pv 2)))), ?_⟩
    try dsimp only [cxOf, Cx.nox, Cx.wish]
    obtain ⟨p, L, g, c, rfl, ⟨dx, fs, hp, F⟩, g0, g1, q⟩ := h
    have cl := T.cl_Layout
    have na2 := T.na_Layout_segment_blocks
    have na8 := T.na_Layout_region_blocks
    have l1 := F.reg
    have l2 := F.blk
    walk_at "rd"
    exact q
/-- a batch stands whole -/
def Whole (info : Int → Option BI) (start place width seq : Int) : Prop := ∃ i : BI, info start = some i ∧ (i.kind = 1 ∨ i.kind = 2) ∧ i.seq = seq ∧ i.rank = 0 ∧ place + i.cnt < width ∧
  ∀ r : Int, 1 ≤ r → r ≤ i.cnt → ∃ b : BI, info (start + r) = some b ∧ (b.kind = 3 ∨ b.kind = 4) ∧ b.seq = seq ∧ b.rank = r
def sp_batch (K : PySem.W.Frag) (C CL : Addr) : Sp := fun vs H Q _ => ∃ (H0 : Hp) (d : Addr) (m : DevM) (L : Lay) (seg place seq : Int) (info : Int → Option BI), vs = [.ref d, .int seg, .int place, .int seq] ∧ DevIn C H0 H d m ∧ LayAt CL L H m.lay ∧ 0 ≤ seg ∧ L.seg ≤ 1000 ∧ (∀ a, BAt K H (readF m a) (info a)) ∧
  (∀ i, info (2 * L.reg + seg * L.blk + place) = some i → i.cnt ≤ 100000) ∧
  (seg < L.seg → place < L.blk → Whole info (2 * L.reg + seg * L.blk + place) place L.blk seq → ∀ H', Same H H' → Q (readF m (2 * L.reg + seg * L.blk + place)) H') ∧
  ((seg < L.seg → place < L.blk → ¬ Whole info (2 * L.reg + seg * L.blk + place) place L.blk seq) → ∀ H', Same H H' → Q .non H')
theorem ok_batch_at (T : Txt K mg) : FnOk P w K mg base CX0 2 T.a_batch_at T.fd_batch_at ["device", "segment", "place", "sequence"] (sp_batch K T.A_Device T.A_Layout) := by
  refine T.F_batch_at.ok sc_batch_at (fun vs H Q E h => ?_) (fun cdv A outer s H vs Q E hr h => ?_)
  · obtain ⟨H0, d, m, L, seg, place, seq, info, rfl, _⟩ := h
    rfl
  · refine ⟨_, (pss_cons (ps_set (i := 4) sc_batch_at.nd rfl (Or.inl rfl) (pe_fld (pv 0) rfl))
       (C8.pss_cut (ps_if (PW.pt (pw_or (pt_cmpR op_ge (pv 1) (pe_fld (pv 4) rfl) (nomark _)) (pw_or1 (pt_cmpR op_ge (pv 2) (pe_fld (pv 4) rfl) (nomark _)))))
       (pss_one (ps_ret pe_non))
       pss_nil)
       (pss_cons (ps_set (i := 5) sc_batch_at.nd rfl (Or.inl rfl) (pe_call (ok_address_at T) (hr.mono (by decide)) rfl T.m_address_at T.F_address_at.kp T.b_address_at .nil pass0 (pa_cons (pv 4) (pa_cons (pv 1) (pa_cons (pv 2) pa_nil)))))
       (pss_cons (ps_set (i := 6) sc_batch_at.nd rfl (Or.inl rfl) (pe_meth (pv 0) T.cl_Device T.me_Device_read (ok_Device_read T) (hr.mono (by decide)) T.b_Device_read .nil pass0 (pa_cons (pv 5) pa_nil)))
       (C8.pss_cut (ps_if (PW.pt (pw_or (pt_cmp (pc_isN (pv 6)) rfl) (pw_or (pt_cmpR op_notIn_seq (pe_ix ix_tup (pv 6) pe_int (fun _ _ => rfl)) (pe_tup (pa_cons (pe_glob rfl T.c_COMMIT T.r_COMMIT) (pa_cons (pe_glob rfl T.c_MOVE T.r_MOVE) pa_nil))) (by with_unfolding_all rfl)) (pw_or1 (pt_cmpR (op_neD hr.units) (pe_slice sl_tup (pv 6) (po_some pe_int) (po_some pe_int)) (pe_tup (pa_cons (pv 3) (pa_cons pe_int pa_nil))) (nomark _))))))
       (pss_one (ps_ret pe_non))
       pss_nil)
       (pss_cons (ps_set (i := 7) sc_batch_at.nd rfl (Or.inl rfl) (pe_callB (c_len) (by rfl) T.n_len (by decide +kernel) (pa_cons (pe_call (ok_listed_in T) (hr.mono (by decide)) rfl T.m_listed_in T.F_listed_in.kp T.b_listed_in .nil pass0 (pa_cons (pv 6) pa_nil)) pa_nil)))
       (pss_cons (ps_if (pt_cmpR op_ge (pe_op op_add (pv 2) (pv 7)) (pe_fld (pv 4) rfl) (nomark _))
       (pss_one (ps_ret pe_non))
       pss_nil)
       (pss_cons (ps_for PassesOwn.never rfl (pi_range2 rfl T.n_range (pa_cons pe_int (pa_cons (pe_op op_add (pv 7) pe_int) pa_nil))) (pg_name (i := 8) sc_batch_at.nd rfl (Or.inl rfl))
       (pss_cons (ps_set (i := 9) sc_batch_at.nd rfl (Or.inl rfl) (pe_meth (pv 0) T.cl_Device T.me_Device_read (ok_Device_read T) (hr.mono (by decide)) T.b_Device_read .nil pass0 (pa_cons (pe_op op_add (pv 5) (pv 8)) pa_nil)))
       (pss_one (ps_if (PW.pt (pw_or (pt_not (pt_val (pe_call (ok_is_payload T) (hr.mono (by decide)) rfl T.m_is_payload T.F_is_payload.kp T.b_is_payload .nil pass0 (pa_cons (pv 9) pa_nil)))) (pw_or1 (pt_cmpR (op_neD hr.units) (pe_slice sl_tup (pv 9) (po_some pe_int) (po_some pe_int)) (pe_tup (pa_cons (pv 3) (pa_cons (pv 8) pa_nil))) (nomark _)))))
       (pss_one (ps_ret pe_non))
       pss_nil))))
       (pss_one (ps_ret (pv 6))))))))))), ?_⟩
    try dsimp only [cxOf, Cx.nox, Cx.wish]
    obtain ⟨H0, d, m, L, seg, place, seq, info, rfl, hD, hL, g0, gL, hI, hc, q1, q2⟩ := h
    have cl := T.cl_Layout
    have na1 := T.na_Layout_segments
    have na2 := T.na_Layout_segment_blocks
    have cd := T.cl_Device
    have nd1 := T.na_Device_layout
    obtain ⟨dx, fs, hp, F⟩ := id hL
    have l1 := F.seg
    have l2 := F.blk
    obtain ⟨s0, n0, dxd, fsd, su, sh, un, us, hd1, hd2, _⟩ := id hD
    have dl := hd2.lay
    have nR := hd2.nR
    walk_at "rd"
    refine r_cut (fun σ' H' => seg < L.seg ∧ place < L.blk ∧ σ' = [some (.ref d), some (.int seg), some (.int place), some (.int seq), some (.ref m.lay), none, none, none, none, none] ∧ H = H') ?_ ?_
    · walk_at "rd"
      refine r_ite (fun c => ?_) (fun c1 => ?_)
      · walk_at "rd"
        exact q2 (fun z => absurd z (by omega)) _ (Same.refl _)
      walk_at "rd"
      refine r_ite (fun c => ?_) (fun c2 => ?_)
      · walk_at "rd"
        exact q2 (fun _ z => absurd z (by omega)) _ (Same.refl _)
      walk_at "rd"
      exact ⟨by omega, by omega, rfl, rfl⟩
    rintro _ _ ⟨c1, c2, rfl, rfl⟩
    have q1 := q1 c1 c2
    have q2' : ¬ Whole info (2 * L.reg + seg * L.blk + place) place L.blk seq → ∀ H', Same H H' → Q .non H' := fun h => q2 (fun _ _ => h)
    clear q2
    walk_at "rd"
    refine ⟨m.lay, L, seg, place, rfl, hL, g0, by omega, ?_⟩
    generalize 2 * L.reg + seg * L.blk + place = st at q1 q2' hc
    walk_at "rd"
    refine ⟨H0, d, m, st, rfl, hD, ?_⟩
    have hb := hI st
    walk_at "rd"
    generalize hv : readF m st = v at hb q1
    generalize hi : info st = o at hb hc
    refine r_cut (fun σ' H' => ∃ i : BI, o = some i ∧ (i.kind = 1 ∨ i.kind = 2) ∧ i.seq = seq ∧ i.rank = 0 ∧ σ' = [some (.ref d), some (.int seg), some (.int place), some (.int seq), some (.ref m.lay), some (.int st), some v, none, none, none] ∧ Same H H') ?_ ?_
    · cases hb with
      | none =>
        walk_at "rd"
        exact q2' (fun ⟨i, z, _⟩ => by rw [hi] at z; cases z) _ (Same.refl _)
      | some ht h1 h2 =>
        rename_i t b i
        walk_at "rd"
        rename_i tp ntp H1 s1 h1'
        have ht1 := Sg.Same.tup s1 ht
        by_cases hk : i.kind = 1 ∨ i.kind = 2
        · refine r_iteB (by show (!inV _ _) = false; rw [in12, decide_eq_true hk]; rfl) ?_
          walk_at "rd"
          refine ⟨_, _, rfl, ht1, (show ¬ (HT.sIx 4 0 (some 1) = 0 ∧ HT.sIx 4 4 (some 3) = 4) from by decide), ?_⟩
          walk_at "al"
          rename_i p2 n2 H2 s2 h2'
          walk_at "rd"
          rename_i p3 n3 H3 s3 h3
          have g2 : SqT K H3 p2 [.int i.seq, .int i.rank] := .of (s3 _ _ h2')
          refine r_neT2 g2 (.of h3) ?_
          walk_at "rd"
          refine r_iteN (fun c => ?_) (fun c => ?_)
          · walk_at "rd"
            exact q2' (fun ⟨i', z, _, z1, z2, _⟩ => by rw [hi] at z; cases z; exact c ⟨z1, z2⟩) _ (s1.trans (s2.trans s3))
          · walk_at "rd"
            exact ⟨i, rfl, hk, c.1, c.2, rfl, s1.trans (s2.trans s3)⟩
        · refine r_iteb (by show (!inV _ _) = true; rw [in12, decide_eq_false hk]; rfl) ?_
          walk_at "rd"
          exact q2' (fun ⟨i', z, k, _⟩ => by rw [hi] at z; cases z; exact hk k) _ s1
    rintro _ H1 ⟨i, rfl, k12, ks, kr, rfl, s1⟩
    have hb1 := hb.keeps (Keeps.of s1)
    have hp1 := s1 _ _ hp
    have hD1 := hD.mono s1
    have hd11 := s1 _ _ hd1
    have hcn := hc i rfl
    walk_at "rd"
    refine ⟨v, i, rfl, hb1, fun x xs hx hxl => ?_⟩
    walk_at "rd"
    rw [hxl]
    refine r_ite (fun c => ?_) (fun c => ?_)
    · walk_at "rd"
      exact q2' (fun ⟨i', z, _, _, _, z1, _⟩ => by rw [hi] at z; cases z; omega) _ s1
    walk_at "rd"
    refine r_forR (fun r σ' H' => ∃ v8 v9 : Option V, σ' = [some (.ref d), some (.int seg), some (.int place), some (.int seq), some (.ref m.lay), some (.int st), some v, some (.int i.cnt), v8, v9] ∧ Same H1 H' ∧
      ∀ k : Int, 1 ≤ k → k ≤ r → ∃ b : BI, info (st + k) = some b ∧ (b.kind = 3 ∨ b.kind = 4) ∧ b.seq = seq ∧ b.rank = k) ⟨_, _, rfl, Same.refl _, fun k h1 h2 => by omega⟩ ?_ ?_
    · rintro r σ' H' hr ⟨v8, v9, rfl, s, hall⟩
      have hd12 := s _ _ hd11
      have hlt : (r : Int) + 1 ≤ i.cnt := by omega
      walk_at "rd"
      refine ⟨H0, d, m, _, rfl, hD1.mono s, ?_⟩
      have hb2 := (hI (st + (1 + (r : Int)))).keeps (Keeps.of (s1.trans s))
      generalize hv2 : readF m (st + (1 + (r : Int))) = v2 at hb2
      generalize hi2 : info (st + (1 + (r : Int))) = o2 at hb2
      walk_at "rd"
      refine ⟨v2, o2, rfl, hb2, fun H2 s2 => ?_⟩
      have hb3 := hb2.keeps (Keeps.of s2)
      have s02 : Same H H2 := s1.trans (s.trans s2)
      have bad : (¬ ∃ b : BI, o2 = some b ∧ (b.kind = 3 ∨ b.kind = 4) ∧ b.seq = seq ∧ b.rank = 1 + (r : Int)) → ∀ H', Same H H' → Q .non H' := fun hn => q2' (fun ⟨i', z, _, _, _, _, ha⟩ => by
        rw [hi] at z
        cases z
        obtain ⟨b, hb, hr⟩ := ha (1 + (r : Int)) (by omega) (by omega)
        rw [hi2] at hb
        exact hn ⟨b, hb, hr⟩)
      clear hb2 hb1 hb
      cases hb3 with
      | none =>
        walk_at "rd"
        exact bad (fun ⟨b, z, _⟩ => by cases z) _ s02
      | some ht h1 h2 =>
        rename_i t b bi
        by_cases hk : bi.kind = 3 ∨ bi.kind = 4
        · rw [show payI (some bi) = true from decide_eq_true hk]
          walk_at "rd"
          refine ⟨_, _, rfl, ht, (show ¬ (HT.sIx 4 0 (some 1) = 0 ∧ HT.sIx 4 4 (some 3) = 4) from by decide), ?_⟩
          walk_at "al"
          rename_i p2 n2 H3 s3 h2'
          walk_at "rd"
          rename_i p3 n3 H4 s4 h3
          have g2 : SqT K H4 p2 [.int bi.seq, .int bi.rank] := .of (s4 _ _ h2')
          refine r_neT2 g2 (.of h3) ?_
          walk_at "rd"
          refine r_iteN (fun c => ?_) (fun c => ?_)
          · walk_at "rd"
            exact bad (fun ⟨b, z, _, z1, z2⟩ => by cases z; exact c ⟨z1, z2⟩) _ (s02.trans (s3.trans s4))
          · walk_at "rd"
            refine ⟨_, _, rfl, s.trans (s2.trans (s3.trans s4)), fun k k1 k2 => ?_⟩
            by_cases e : k = 1 + (r : Int)
            · rw [e, hi2]
              exact ⟨bi, rfl, hk, c.1, c.2⟩
            · exact hall k k1 (by omega)
        · rw [show payI (some bi) = false from decide_eq_false hk]
          walk_at "rd"
          exact bad (fun ⟨b, z, k, _⟩ => by cases z; exact hk k) _ s02
    · rintro σ' H' ⟨v8, v9, rfl, s, hall⟩
      walk_at "rd"
      refine q1 ⟨i, hi, k12, ks, kr, by omega, fun r h1 h2 => hall r h1 ?_⟩ _ (s1.trans s)
      omega
def spoilI (f c : Int) (i : BI) (o : Option BI) : Prop := if f = 0 then o = none else if f = 1 then ∃ j, o = some j ∧ j.kind = 5 ∧ j.seq = i.seq ∧ j.rank = i.rank ∧ j.cnt ≤ 100000 else if f = 2 then ∃ j, o = some j ∧ j.kind = i.kind ∧ j.seq = i.seq + 1 + c ∧ j.rank = i.rank ∧ j.cnt = i.cnt else ∃ j, o = some j ∧ j.kind = i.kind ∧ j.seq = i.seq ∧ j.rank = i.rank + 1 + c ∧ j.cnt = i.cnt
def sp_spoilt (K : PySem.W.Frag) (CL : Addr) : Sp := fun vs H Q _ => ∃ (p : Addr) (L : Lay) (v : V) (i : BI) (f c : Int), vs = [.ref p, v, .int f, .int c] ∧ LayAt CL L H p ∧ 32 ≤ L.fan ∧ L.fan ≤ 128 ∧ BAt K H v (some i) ∧ ∀ H' v' o, Same H H' → BAt K H' v' o → spoilI f c i o → Q v' H'
theorem ok_law_spoilt (T : Txt K mg) : FnOk P w K mg base CX0 1 T.a_law_spoilt T.fd_law_spoilt ["layout", "block", "fault", "change"] (sp_spoilt K T.A_Layout) := by
  refine T.F_law_spoilt.ok sc_law_spoilt (fun vs H Q E h => ?_) (fun cdv A outer s H vs Q E hr h => ?_)
  · obtain ⟨p, L, v, i, f, c, rfl, _⟩ := h
    rfl
  · refine ⟨_, (pss_cons (ps_if (pt_cmpR op_eq (pv 2) pe_int (nomark _))
       (pss_one (ps_ret pe_non))
       pss_nil)
       (pss_cons (ps_if (pt_cmpR op_eq (pv 2) pe_int (nomark _))
       (pss_one (ps_ret (pe_tup (pa_cons pe_int (pa_cons (pe_ix ix_tup (pv 1) pe_int (fun _ _ => rfl)) (pa_cons (pe_ix ix_tup (pv 1) pe_int (fun _ _ => rfl)) (pa_cons (pe_op op_repT (pe_tup (pa_cons (pv 3) pa_nil)) (pe_fld (pv 0) rfl)) pa_nil)))))))
       pss_nil)
       (pss_cons (ps_if (pt_cmpR op_eq (pv 2) pe_int (nomark _))
       (pss_one (ps_ret (pe_tup (pa_cons (pe_ix ix_tup (pv 1) pe_int (fun _ _ => rfl)) (pa_cons (pe_op op_add (pe_op op_add (pe_ix ix_tup (pv 1) pe_int (fun _ _ => rfl)) pe_int) (pv 3)) (pa_cons (pe_ix ix_tup (pv 1) pe_int (fun _ _ => rfl)) (pa_cons (pe_ix ix_tup (pv 1) pe_int (fun _ _ => rfl)) pa_nil)))))))
       pss_nil)
       (pss_one (ps_ret (pe_tup (pa_cons (pe_ix ix_tup (pv 1) pe_int (fun _ _ => rfl)) (pa_cons (pe_ix ix_tup (pv 1) pe_int (fun _ _ => rfl)) (pa_cons (pe_op op_add (pe_op op_add (pe_ix ix_tup (pv 1) pe_int (fun _ _ => rfl)) pe_int) (pv 3)) (pa_cons (pe_ix ix_tup (pv 1) pe_int (fun _ _ => rfl)) pa_nil)))))))))), ?_⟩
    try dsimp only [cxOf, Cx.nox, Cx.wish]
    obtain ⟨p, L, v, i, f, c, rfl, ⟨dx, fs, hp, F⟩, f0, f1, hv, q⟩ := h
    have cl := T.cl_Layout
    have na1 := T.na_Layout_fan
    have l1 := F.fan
    cases hv with
    | some ht h1 h2 =>
      rename_i t b
      walk_at "rd"
      refine r_ite (fun e0 => ?_) (fun e0 => ?_)
      · walk_at "rd"
        refine q _ _ none (Same.refl _) .none ?_
        rw [spoilI, if_pos e0]
      walk_at "rd"
      refine r_ite (fun e1 => ?_) (fun e1 => ?_)
      · walk_at "rd"
        rename_i p1 n1 H1 s1 h1'
        refine ⟨_, _, _, rfl, rfl, .of h1', by simp, by omega, by omega, by simp, ?_⟩
        walk_at "al"
        rename_i p2 n2 H2 s2 h2'
        walk_at "rd"
        rename_i p3 n3 H3 s3 h3
        refine q _ _ (some ⟨5, i.seq, i.rank, _⟩) (s1.trans (s2.trans s3)) (.some (.of h3) (fun z => absurd (show (5 : Int) = 1 from z) (by decide)) (fun _ => ⟨_, .of (s3 _ _ h2'), rfl⟩)) ?_
        rw [spoilI, if_neg e0, if_pos e1]
        refine ⟨_, rfl, rfl, rfl, rfl, ?_⟩
        simp only [BI.cnt]
        first | omega | (simp; omega)
      walk_at "rd"
      refine r_ite (fun e2 => ?_) (fun e2 => ?_)
      · walk_at "rd"
        rename_i p3 n3 H3 s3 h3
        have k3 := Keeps.of s3
        refine q _ _ (some ⟨i.kind, i.seq + 1 + c, i.rank, i.cnt⟩) s3 (.some (.of h3) (fun z => ?_) (fun z => ?_)) ?_
        · obtain ⟨x, u, a, xs, g1, g2, g3⟩ := h1 z
          exact ⟨x, u, a, xs, k3.tup g1, k3.tup g2, g3⟩
        · obtain ⟨xs, g1, g2⟩ := h2 z
          exact ⟨xs, k3.tup g1, g2⟩
        · rw [spoilI, if_neg e0, if_neg e1, if_pos e2]
          exact ⟨_, rfl, rfl, rfl, rfl, rfl⟩
      · walk_at "rd"
        rename_i p3 n3 H3 s3 h3
        have k3 := Keeps.of s3
        refine q _ _ (some ⟨i.kind, i.seq, i.rank + 1 + c, i.cnt⟩) s3 (.some (.of h3) (fun z => ?_) (fun z => ?_)) ?_
        · obtain ⟨x, u, a, xs, g1, g2, g3⟩ := h1 z
          exact ⟨x, u, a, xs, k3.tup g1, k3.tup g2, g3⟩
        · obtain ⟨xs, g1, g2⟩ := h2 z
          exact ⟨xs, k3.tup g1, g2⟩
        · rw [spoilI, if_neg e0, if_neg e1, if_neg e2]
          exact ⟨_, rfl, rfl, rfl, rfl, rfl⟩
theorem sp_batch_both {K : PySem.W.Frag} {C CL : Addr} {H : Hp} {Q : V → Hp → Prop} {E : XK} (H0 : Hp) (d : Addr) (m : DevM) (L : Lay) (seg place seq : Int) (info : Int → Option BI) (hD : DevIn C H0 H d m) (hL : LayAt CL L H m.lay) (g0 : 0 ≤ seg) (g1 : L.seg ≤ 1000) (hI : ∀ a, BAt K H (readF m a) (info a))
    (hc : ∀ i, info (2 * L.reg + seg * L.blk + place) = some i → i.cnt ≤ 100000)
    (h : ∀ v H', Same H H' → ((seg < L.seg ∧ place < L.blk ∧ Whole info (2 * L.reg + seg * L.blk + place) place L.blk seq ∧ v = readF m (2 * L.reg + seg * L.blk + place)) ∨ ((seg < L.seg → place < L.blk → ¬ Whole info (2 * L.reg + seg * L.blk + place) place L.blk seq) ∧ v = .non)) → Q v H') :
    sp_batch K C CL [.ref d, .int seg, .int place, .int seq] H Q E :=
  ⟨H0, d, m, L, seg, place, seq, info, rfl, hD, hL, g0, g1, hI, hc, fun a b w H' s => h _ H' s (.inl ⟨a, b, w, rfl⟩), fun w H' s => h _ H' s (.inr ⟨w, rfl⟩)⟩
theorem sp_batch_none {K : PySem.W.Frag} {C CL : Addr} {H : Hp} {Q : V → Hp → Prop} {E : XK} (H0 : Hp) (d : Addr) (m : DevM) (L : Lay) (seg place seq : Int) (info : Int → Option BI) (hD : DevIn C H0 H d m) (hL : LayAt CL L H m.lay) (g0 : 0 ≤ seg) (g1 : L.seg ≤ 1000) (hI : ∀ a, BAt K H (readF m a) (info a))
    (hc : ∀ i, info (2 * L.reg + seg * L.blk + place) = some i → i.cnt ≤ 100000)
    (hw : seg < L.seg → place < L.blk → ¬ Whole info (2 * L.reg + seg * L.blk + place) place L.blk seq)
    (h : ∀ H', Same H H' → Q .non H') :
    sp_batch K C CL [.ref d, .int seg, .int place, .int seq] H Q E :=
  ⟨H0, d, m, L, seg, place, seq, info, rfl, hD, hL, g0, g1, hI, hc, fun a b w => absurd w (hw a b), fun _ H' s => h H' s⟩
/-- the blocks of a good batch -/
def Good (is : List BI) (k1 sq : Int) (c : Nat) : Prop := is.length = c + 1 ∧ (k1 = 1 ∨ k1 = 2) ∧ (∃ i0, is[0]? = some i0 ∧ i0.kind = k1 ∧ i0.seq = sq ∧ i0.rank = 0 ∧ i0.cnt = c) ∧
  ∀ (j : Nat) (b : BI), is[j]? = some b → 0 < j → (b.kind = 3 ∨ b.kind = 4) ∧ b.seq = sq ∧ b.rank = (j : Int)
def Spoil (is : List BI) (ft cg : Int) (at' : Nat) (os : List (Option BI)) : Prop := (ft < 4 → ∃ b o, is[at']? = some b ∧ spoilI ft cg b o ∧ os = (is.map some).set at' o) ∧ (¬ ft < 4 → os = is.map some)
def infoF (st n : Int) (os : List (Option BI)) (a : Int) : Option BI := if st ≤ a ∧ a < st + n then os.getD (a - st).toNat none else none
theorem infoF_in {st n : Int} {os : List (Option BI)} {r : Int} (h0 : 0 ≤ r) (h1 : r < n) : infoF st n os (st + r) = os.getD r.toNat none := by
  unfold infoF
  rw [if_pos ⟨by omega, by omega⟩, show st + r - st = r by omega]
theorem infoF_some {st n : Int} {os : List (Option BI)} {r : Int} {i : BI} (h : infoF st n os (st + r) = some i) : 0 ≤ r ∧ r < n ∧ os.getD r.toNat none = some i := by
  unfold infoF at h
  split at h
  · rename_i h'
    rw [show st + r - st = r by omega] at h
    exact ⟨by omega, by omega, h⟩
  · cases h
theorem spoil_bad {ft cg : Int} {b i : BI} {o : Option BI} (h : spoilI ft cg b o) (f0 : 0 ≤ ft) (f1 : ft < 4) (c0 : 0 ≤ cg) (e : o = some i) : i.kind = 5 ∨ (i.seq = b.seq + 1 + cg) ∨ (i.rank = b.rank + 1 + cg) := by
  unfold spoilI at h
  split at h
  · rw [h] at e; cases e
  split at h
  · obtain ⟨j, e1, h1, _⟩ := h
    rw [e1] at e; cases e
    exact .inl h1
  split at h
  · obtain ⟨j, e1, _, h1, _⟩ := h
    rw [e1] at e; cases e
    exact .inr (.inl h1)
  · obtain ⟨j, e1, _, _, h1, _⟩ := h
    rw [e1] at e; cases e
    exact .inr (.inr h1)
theorem spoil_get {is : List BI} {ft cg : Int} {a : Nat} {os : List (Option BI)} (h : Spoil is ft cg a os) (hn : ¬ (ft < 4 ∧ a = j)) : os.getD j none = is[j]? := by
  have key : (is.map some).getD j none = is[j]? := by
    rw [List.getD_eq_getElem?_getD, List.getElem?_map]
    cases is[j]? <;> rfl
  by_cases hf : ft < 4
  · obtain ⟨b, o, _, _, e⟩ := h.1 hf
    rw [e, List.getD_eq_getElem?_getD, List.getElem?_set_ne (fun z => hn ⟨hf, z⟩), ← List.getD_eq_getElem?_getD, key]
  · rw [h.2 hf, key]
theorem spoil_at {is : List BI} {ft cg : Int} {a : Nat} {os : List (Option BI)} (h : Spoil is ft cg a os) (hf : ft < 4) : ∃ b o, is[a]? = some b ∧ spoilI ft cg b o ∧ os.getD a none = o := by
  obtain ⟨b, o, h1, h2, e⟩ := h.1 hf
  refine ⟨b, o, h1, h2, ?_⟩
  have hl : a < is.length := by
    rcases Nat.lt_or_ge a is.length with z | z
    · exact z
    · rw [List.getElem?_eq_none z] at h1; cases h1
  rw [e, List.getD_eq_getElem?_getD, List.getElem?_set_self (by rw [List.length_map]; exact hl)]
  rfl
theorem neg_head {is : List BI} {k1 sq ft cg st n place width t : Int} {c a : Nat} {os : List (Option BI)} (g : Good is k1 sq c) (h : Spoil is ft cg a os) (f0 : 0 ≤ ft) (c0 : 0 ≤ cg) (c1 : cg < 60000) (ht : t = sq ∨ sq + 60000 < t)
    (w : Whole (infoF st n os) st place width t) : t = sq ∧ place + c < width ∧ ¬ (ft < 4 ∧ a = 0) ∧ ∃ i0, infoF st n os st = some i0 ∧ i0.cnt = c := by
  obtain ⟨i, hi, hk, hs, hr, hp, _⟩ := id w
  obtain ⟨gl, gk, ⟨i0, e0, e1, e2, e3, e4⟩, _⟩ := id g
  have hi' : infoF st n os (st + 0) = some i := by rw [Int.add_zero]; exact hi
  obtain ⟨_, _, hi2⟩ := infoF_some hi'
  simp only [Int.toNat_zero] at hi2
  by_cases hb : ft < 4 ∧ a = 0
  · obtain ⟨hf, rfl⟩ := hb
    obtain ⟨b, o, z1, z2, z3⟩ := spoil_at h hf
    rw [e0] at z1
    cases z1
    rw [z3] at hi2
    rcases spoil_bad z2 f0 hf c0 hi2 with z | z | z <;> omega
  · rw [spoil_get h hb, e0] at hi2
    cases hi2
    exact ⟨by omega, by omega, hb, _, hi, e4⟩
theorem neg_spoilt {is : List BI} {k1 sq ft cg st n place width : Int} {c a : Nat} {os : List (Option BI)} (g : Good is k1 sq c) (h : Spoil is ft cg a os) (f0 : 0 ≤ ft) (f1 : ft < 4) (c0 : 0 ≤ cg) (c1 : cg < 60000) (ha : a ≤ c) : ¬ Whole (infoF st n os) st place width sq := by
  intro w
  obtain ⟨_, hp, hn, i0, hi0, hc0⟩ := neg_head g h f0 c0 c1 (.inl rfl) w
  obtain ⟨i, hi, _, _, _, _, hall⟩ := w
  rw [hi0] at hi
  cases hi
  have ha0 : a ≠ 0 := fun z => hn ⟨f1, z⟩
  obtain ⟨b, hb, hbk, hbs, hbr⟩ := hall (a : Int) (by omega) (by omega)
  obtain ⟨_, _, hb2⟩ := infoF_some hb
  rw [Int.toNat_natCast] at hb2
  obtain ⟨b', o, z1, z2, z3⟩ := spoil_at h f1
  obtain ⟨_, _, _, gall⟩ := g
  obtain ⟨_, y2, y3⟩ := gall a b' z1 (by omega)
  rw [z3] at hb2
  rcases spoil_bad z2 f0 f1 c0 hb2 with z | z | z <;> omega
theorem pos_whole {is : List BI} {k1 sq st n place width : Int} {c : Nat} (g : Good is k1 sq c) (hn : (c : Int) + 1 ≤ n) (hw : place + c < width) : Whole (infoF st n (is.map some)) st place width sq := by
  obtain ⟨gl, gk, ⟨i0, e0, e1, e2, e3, e4⟩, gall⟩ := g
  have key : ∀ j : Nat, (is.map some).getD j none = is[j]? := fun j => by
    rw [List.getD_eq_getElem?_getD, List.getElem?_map]
    cases is[j]? <;> rfl
  refine ⟨i0, ?_, by omega, e2, e3, by omega, fun r r1 r2 => ?_⟩
  · have := infoF_in (st := st) (n := n) (os := is.map some) (r := 0) (by omega) (by omega)
    rw [Int.add_zero] at this
    rw [this, key]
    exact e0
  · rw [infoF_in (by omega) (by omega), key]
    have hl : r.toNat < is.length := by omega
    refine ⟨is[r.toNat], by rw [List.getElem?_eq_getElem hl], ?_⟩
    obtain ⟨y1, y2, y3⟩ := gall r.toNat _ (List.getElem?_eq_getElem hl) (by omega)
    exact ⟨y1, y2, by omega⟩
theorem spoil_cnt {ft cg : Int} {b i : BI} {o : Option BI} (h : spoilI ft cg b o) (e : o = some i) (hc : b.cnt ≤ 100000) : i.cnt ≤ 100000 := by
  unfold spoilI at h
  split at h
  · rw [h] at e; cases e
  split at h
  · obtain ⟨j, e1, _, _, _, h1⟩ := h
    rw [e1] at e; cases e
    exact h1
  split at h
  · obtain ⟨j, e1, _, _, _, h1⟩ := h
    rw [e1] at e; cases e
    omega
  · obtain ⟨j, e1, _, _, _, h1⟩ := h
    rw [e1] at e; cases e
    omega
theorem opt_cnt {is : List BI} (h : ∀ b ∈ is, b.cnt ≤ 100000) (j : Nat) (b : BI) (e : (is.map some).getD j none = some b) : b.cnt ≤ 100000 := by
  rw [List.getD_eq_getElem?_getD, List.getElem?_map] at e
  cases hj : is[j]? with
  | none => rw [hj] at e; cases e
  | some x =>
    rw [hj] at e
    cases e
    exact h _ (List.mem_of_getElem? hj)
theorem paired_opt {K : PySem.W.Frag} {H : Hp} : ∀ {vs : List V} {is : List BI}, Paired (fun v i => BAt K H v (some i)) vs is → Paired (BAt K H) vs (is.map some)
  | _, _, .nil => .nil
  | _, _, .cons h t => .cons h (paired_opt t)
theorem paired_set {α β : Type} {F : α → β → Prop} {x : α} {y : β} (r : F x y) : ∀ {xs : List α} {ys : List β} (i : Nat), Paired F xs ys → Paired F (xs.set i x) (ys.set i y)
  | _, _, _, .nil => .nil
  | _, _, 0, .cons _ t => .cons r t
  | _, _, i + 1, .cons q t => .cons q (paired_set r i t)
theorem paired_bat {K : PySem.W.Frag} {H H' : Hp} (s : Keeps H H') : ∀ {vs : List V} {os : List (Option BI)}, Paired (BAt K H) vs os → Paired (BAt K H') vs os
  | _, _, .nil => .nil
  | _, _, .cons h t => .cons (h.keeps s) (paired_bat s t)
def BkT (K : PySem.W.Frag) (H : Hp) (t : Addr) : Prop := Bk K H (.ref t) ∧ ∃ ts, H t = some (.tup ts)
theorem BkT.keeps {K : PySem.W.Frag} {H H' : Hp} {t : Addr} (s : Keeps H H') (h : BkT K H t) : BkT K H' t := by
  obtain ⟨h1, ts, h2⟩ := h
  exact ⟨h1.keeps s, ts, s _ _ trivial h2⟩
/-- what the device shows -/
def Shows (xs vs : List V) (st n : Int) : Prop := ∀ j : Nat, j < xs.length → xs[j]? = some (if st ≤ (j : Int) ∧ (j : Int) < st + n then vs.getD ((j : Int) - st).toNat .non else .non)
theorem paired_get {K : PySem.W.Frag} {H : Hp} : ∀ {vs : List V} {os : List (Option BI)}, Paired (BAt K H) vs os → ∀ j : Nat, BAt K H (vs.getD j .non) (os.getD j none)
  | _, _, .nil, _ => .none
  | _, _, .cons h _, 0 => h
  | _, _, .cons _ t, j + 1 => paired_get t j
theorem info_at {K : PySem.W.Frag} {H : Hp} {m : DevM} {vs : List V} {os : List (Option BI)} {st n : Int} (hP : Paired (BAt K H) vs os) (hs : Shows m.shown vs st n) (s0 : 0 ≤ st) (sn : st + n ≤ m.shown.length) (a : Int) : BAt K H (readF m a) (infoF st n os a) := by
  unfold readF
  by_cases ha : 0 ≤ a ∧ a < m.shown.length
  · rw [if_pos ha, List.getD_eq_getElem?_getD, hs a.toNat (by omega), Option.getD_some, show ((a.toNat : Nat) : Int) = a by omega]
    unfold infoF
    by_cases hb : st ≤ a ∧ a < st + n
    · rw [if_pos hb, if_pos hb]
      exact paired_get hP _
    · rw [if_neg hb, if_neg hb]
      exact .none
  · rw [if_neg ha]
    unfold infoF
    rw [if_neg (by omega)]
    exact .none
theorem shows_put {xs vs : List V} {st n : Int} {v : V} (hs : Shows xs vs st n) (s0 : 0 ≤ st) (n0 : 0 ≤ n) (hv : vs.getD n.toNat .non = v) (hl : st + n < xs.length) : Shows (xs.set (st + n).toNat v) vs st (n + 1) := by
  intro j hj
  rw [List.length_set] at hj
  by_cases e : j = (st + n).toNat
  · rw [e, List.getElem?_set_self (by omega), if_pos ⟨by omega, by omega⟩, show (((st + n).toNat : Nat) : Int) - st = n by omega, hv]
  · rw [List.getElem?_set_ne (fun z => e z.symm), hs j hj]
    by_cases hc : st ≤ (j : Int) ∧ (j : Int) < st + n
    · rw [if_pos hc, if_pos ⟨by omega, by omega⟩]
    · rw [if_neg hc, if_neg (by omega)]
theorem shows_set {xs vs : List V} {st n : Int} {v : V} {a : Nat} (hs : Shows xs vs st n) (s0 : 0 ≤ st) (hv : (a : Int) < n) (hn : a < vs.length) (hl : st + n ≤ xs.length) : Shows (xs.set (st + a).toNat v) (vs.set a v) st n := by
  intro j hj
  rw [List.length_set] at hj
  by_cases e : j = (st + a).toNat
  · rw [e, List.getElem?_set_self (by omega), if_pos ⟨by omega, by omega⟩, show ((((st + a).toNat : Nat) : Int) - st).toNat = a by omega, List.getD_eq_getElem?_getD, List.getElem?_set_self hn]
    rfl
  · rw [List.getElem?_set_ne (fun z => e z.symm), hs j hj]
    by_cases hc : st ≤ (j : Int) ∧ (j : Int) < st + n
    · rw [if_pos hc, if_pos hc, List.getD_eq_getElem?_getD, List.getD_eq_getElem?_getD, List.getElem?_set_ne (by omega)]
    · rw [if_neg hc, if_neg hc]
theorem shows_nil {n : Nat} {vs : List V} {st : Int} : Shows (List.replicate n V.non) vs st 0 := by
  intro j hj
  rw [List.length_replicate] at hj
  rw [if_neg (by omega), List.getElem?_replicate, if_pos hj]
theorem Fits.reg0 {s b z : Int} (h : Fits s b z) : 0 ≤ (layOf s b z).reg := by
  have := h.s0
  have := h.zz
  have hb := h.bounds
  have h0 := hb.l0
  show 0 ≤ (2 * (4 * (layOf s b z).last + 6 + s) + z - 1) / z
  exact Int.ediv_nonneg (by omega) (by omega)
theorem r_eqB {K : PySem.W.Frag} {H : Hp} {v : V} {Q : V → Hp → Prop} (h : Bk K H v) (q : Q (.bl true) H) : rEqD K v v H Q := by
  obtain ⟨d, h1, h2, _⟩ := h
  refine r_eqd h1 h1 h2.shaped h2.shaped ?_
  rw [h2.self]
  exact q
theorem bats_keeps {K : PySem.W.Frag} {H H' : Hp} (s : Keeps H H') : ∀ {vs : List V} {is : List BI}, Paired (fun v i => BAt K H v (some i)) vs is → Paired (fun v i => BAt K H' v (some i)) vs is
  | _, _, .nil => .nil
  | _, _, .cons h t => .cons (h.keeps s) (bats_keeps s t)
def spLawK (K : PySem.W.Frag) : Sp := fun vs H Q _ => ∃ (a : Addr) (ns : List Int), vs = [.ref a] ∧ Scr K H a ns ∧ ns.length ≤ 63 ∧ ∀ H', Q (.bl true) H'
theorem ok_law (T : Txt K mg) : FnOk P w K mg base CX0 5 T.a_law T.fd_law ["script"] (spLawK K) := by
  refine T.F_law.ok sc_law (fun vs H Q E h => ?_) (fun cdv A outer s H vs Q E hr h => ?_)
  · obtain ⟨a, ns, rfl, _⟩ := h
    rfl
  · refine ⟨_, (pss_cons (ps_set (i := 1) sc_law.nd rfl (Or.inr rfl) (pe_call (ok_law_layout T) (hr.mono (by decide)) rfl T.m_law_layout T.F_law_layout.kp T.b_law_layout .nil pass0 (pa_cons (pe_call (ok_law_row T) (hr.mono (by decide)) rfl T.m_law_row T.F_law_row.kp T.b_law_row .nil pass0 (pa_cons (pv 0) (pa_cons pe_int pa_nil))) pa_nil)))
       (pss_cons (ps_set (i := 2) sc_law.nd rfl (Or.inl rfl) (pe_fld (pv 1) rfl))
       (pss_cons (ps_set (i := 3) sc_law.nd rfl (Or.inl rfl) (pe_call (ok_law_row T) (hr.mono (by decide)) rfl T.m_law_row T.F_law_row.kp T.b_law_row .nil pass0 (pa_cons (pv 0) (pa_cons pe_int pa_nil))))
       (pss_cons (ps_asg (pe_call (ok_law_digits T) (hr.mono (by decide)) rfl T.m_law_digits T.F_law_digits.kp T.b_law_digits .nil pass0 (pa_cons (pv 3) (pa_cons (pe_lst (pa_cons (pe_fld (pv 1) rfl) (pa_cons (pv 2) (pa_cons pe_int (pa_cons (pe_op op_add (pv 2) pe_int) (pa_cons pe_int (pa_cons (pe_op op_pow pe_int pe_int) pa_nil))))))) pa_nil))) (pg_unl (by rfl) (pgs_cons (pg_name (i := 4) sc_law.nd rfl (Or.inl rfl)) (pgs_cons (pg_name (i := 5) sc_law.nd rfl (Or.inl rfl)) (pgs_cons (pg_name (i := 6) sc_law.nd rfl (Or.inl rfl)) (pgs_cons (pg_name (i := 7) sc_law.nd rfl (Or.inl rfl)) (pgs_cons (pg_name (i := 8) sc_law.nd rfl (Or.inl rfl)) (pgs_cons (pg_name (i := 9) sc_law.nd rfl (Or.inl rfl)) pgs_nil))))))))
       (C8.pss_cut (ps_if (pt_cmpR op_eq (pv 8) pe_int (nomark _))
       (pss_one (ps_set (i := 7) sc_law.nd rfl (Or.inl rfl) (pe_op op_mod (pv 7) (pe_callB (call_max2 rfl) (by rfl) T.n_max (by decide +kernel) (pa_cons pe_int (pa_cons (pe_op op_sub (pv 2) (pv 5)) pa_nil))))))
       pss_nil)
       (pss_cons (ps_asg (pe_call (ok_law_digits T) (hr.mono (by decide)) rfl T.m_law_digits T.F_law_digits.kp T.b_law_digits .nil pass0 (pa_cons (pe_call (ok_law_row T) (hr.mono (by decide)) rfl T.m_law_row T.F_law_row.kp T.b_law_row .nil pass0 (pa_cons (pv 0) (pa_cons pe_int pa_nil))) (pa_cons (pe_lst (pa_cons pe_int (pa_cons (pe_op op_add (pv 7) pe_int) (pa_cons pe_int (pa_cons pe_int pa_nil))))) pa_nil))) (pg_unl (by rfl) (pgs_cons (pg_name (i := 10) sc_law.nd rfl (Or.inl rfl)) (pgs_cons (pg_name (i := 11) sc_law.nd rfl (Or.inl rfl)) (pgs_cons (pg_name (i := 12) sc_law.nd rfl (Or.inl rfl)) (pgs_cons (pg_name (i := 13) sc_law.nd rfl (Or.inl rfl)) pgs_nil))))))
       (pss_cons (ps_set (i := 14) sc_law.nd rfl (Or.inl rfl) (pe_op op_add (pe_op op_add (pe_op op_mul pe_int (pe_fld (pv 1) rfl)) (pe_op op_mul (pv 4) (pv 2))) (pv 5)))
       (pss_cons (ps_set (i := 16) sc_law.nd rfl (Or.inl rfl) (pe_callTy c_tuple (by rfl) T.n_tuple (by decide +kernel) (pa_cons (pe_lc (own := [("k", 15)]) (g := gName 15) (tt := tYes) rfl sc_law.nd (pi_range1 rfl T.n_range (pa_cons (pv 7) pa_nil)) (blkOk_by (own := [("k", 15)]) (N := n_law) (sc := defScope s_law) (by decide +kernel)) (fun _ _ _ _ _ => pg_name (i := 15) sc_law.nd rfl (Or.inl rfl)) (fun _ _ _ _ _ => pts_nil) (fun _ _ _ _ _ => (pe_op op_add pe_int (pv 15)))) pa_nil)))
       (pss_cons (ps_set (i := 17) sc_law.nd rfl (Or.inl rfl) (pe_lst (pa_cons (pe_tup (pa_cons pe_int (pa_cons (pv 9) (pa_cons pe_int (pa_cons (pe_tup (pa_cons (pv 16) (pa_cons (pv 16) (pa_cons (pe_op op_mod (pv 13) pe_int) pa_nil)))) pa_nil))))) pa_nil)))
       (C8.pss_cut (ps_if (pt_cmpR op_eq (pv 6) pe_int (nomark _))
       (pss_one (ps_set (i := 17) sc_law.nd rfl (Or.inl rfl) (pe_lst (pa_cons (pe_tup (pa_cons pe_int (pa_cons (pv 9) (pa_cons pe_int (pa_cons (pe_callTy c_tuple (by rfl) T.n_tuple (by decide +kernel) (pa_cons (pe_lc (own := [("k", 15)]) (g := gName 15) (tt := tYes) rfl sc_law.nd (pi_range1 rfl T.n_range (pa_cons (pv 7) pa_nil)) (blkOk_by (own := [("k", 15)]) (N := n_law) (sc := defScope s_law) (by decide +kernel)) (fun _ _ _ _ _ => pg_name (i := 15) sc_law.nd rfl (Or.inl rfl)) (fun _ _ _ _ _ => pts_nil) (fun _ _ _ _ _ => (pe_op op_add (pe_op op_add (pe_op op_mul pe_int (pe_fldK K rfl (pv 1) rfl)) pe_int) (pv 15)))) pa_nil)) pa_nil))))) pa_nil))))
       pss_nil)
       (pss_cons (ps_for PassesOwn.never rfl (pi_range1 rfl T.n_range (pa_cons (pv 7) pa_nil)) (pg_name (i := 15) sc_law.nd rfl (Or.inl rfl))
       (pss_one (ps_if (pt_cmpR op_eq (pe_op op_mod (pe_op op_add (pv 15) (pv 13)) pe_int) pe_int (nomark _))
       (pss_one (ps_expr (pe_bm PySem.F.plainAttrs_list PySem.F.slot_list_append PySem.F.type_list_append mt_append (pv 17) (pa_cons (pe_tup (pa_cons pe_int (pa_cons (pv 9) (pa_cons (pe_op op_add (pv 15) pe_int) (pa_cons (pe_op op_repT (pe_tup (pa_cons (pe_op op_add pe_int (pv 15)) pa_nil)) (pe_fld (pv 1) rfl)) pa_nil))))) pa_nil))))
       (pss_one (ps_expr (pe_bm PySem.F.plainAttrs_list PySem.F.slot_list_append PySem.F.type_list_append mt_append (pv 17) (pa_cons (pe_tup (pa_cons pe_int (pa_cons (pv 9) (pa_cons (pe_op op_add (pv 15) pe_int) (pa_cons (pe_op op_repT (pe_tup (pa_cons (pe_op op_mod (pe_op op_add (pv 15) (pe_op op_fdiv (pv 13) pe_int)) pe_int) pa_nil)) (pe_fld (pv 1) rfl)) pa_nil))))) pa_nil)))))))
       (pss_cons (ps_set (i := 18) sc_law.nd rfl (Or.inl rfl) (pe_callTy c_list (by rfl) T.n_list (by decide +kernel) (pa_cons (pv 17) pa_nil)))
       (C8.pss_cut (ps_if (pt_cmpR op_lt (pv 10) pe_int (nomark _))
       (pss_one (ps_asg (pe_call (ok_law_spoilt T) (hr.mono (by decide)) rfl T.m_law_spoilt T.F_law_spoilt.kp T.b_law_spoilt .nil pass0 (pa_cons (pv 1) (pa_cons (pe_ix ix_list (pv 17) (pv 11) (fun _ _ => rfl)) (pa_cons (pv 10) (pa_cons (pv 12) pa_nil))))) (pg_sub (pv 17) (pv 11) set_list)))
       pss_nil)
       (pss_cons (ps_set (i := 19) sc_law.nd rfl (Or.inl rfl) (pe_op op_rep (pe_lst (pa_cons pe_non pa_nil)) (pe_fld (pv 1) rfl)))
       (pss_cons (ps_for PassesOwn.never rfl (pi_range1 rfl T.n_range (pa_cons (pe_callB (call_min2 rfl) (by rfl) T.n_min (by decide +kernel) (pa_cons (pe_callB (c_len) (by rfl) T.n_len (by decide +kernel) (pa_cons (pv 17) pa_nil)) (pa_cons (pe_op op_sub (pe_callB (c_len) (by rfl) T.n_len (by decide +kernel) (pa_cons (pv 19) pa_nil)) (pv 14)) pa_nil))) pa_nil)) (pg_name (i := 15) sc_law.nd rfl (Or.inl rfl))
       (pss_one (ps_asg (pe_ix ix_list (pv 17) (pv 15) (fun _ _ => rfl)) (pg_sub (pv 19) (pe_op op_add (pv 14) (pv 15)) set_list))))
       (pss_cons (ps_set (i := 20) sc_law.nd rfl (Or.inl rfl) (pe_make T.M_Device (ok_Device___init T) (hr.mono (by decide)) rfl T.m_Device T.b_Device___init .nil pass0 (pa_cons (pv 1) (pa_cons (pv 19) pa_nil))))
       (pss_cons (ps_set (i := 21) sc_law.nd rfl (Or.inl rfl) (pe_cmpR op_lt (pe_op op_add (pv 5) (pv 7)) (pv 2) (nomark _)))
       (pss_cons (ps_set (i := 22) sc_law.nd rfl (Or.inl rfl) (pe_call (ok_batch_at T) (hr.mono (by decide)) rfl T.m_batch_at T.F_batch_at.kp T.b_batch_at .nil pass0 (pa_cons (pv 20) (pa_cons (pv 4) (pa_cons (pv 5) (pa_cons (pv 9) pa_nil))))))
       (C8.pss_cut (ps_if (PW.pt (pw_or (pt_cmpR op_lt (pv 10) pe_int (nomark _)) (pw_or1 (pt_not (pt_val (pv 21))))))
       (pss_one (ps_if (pt_cmp (pc_notN (pv 22)) rfl)
       (pss_one (ps_ret pe_bl))
       pss_nil))
       (pss_one (ps_if (PW.pt (pw_or (pt_not (pt_val (pe_callB (call_isi) (by rfl) T.n_isinstance (by decide +kernel) (pa_cons (pv 22) (pa_cons (pe_bltn (v := .ty "tuple") (by rfl) T.n_tuple (by decide +kernel) rfl) pa_nil))))) (pw_or1 (pt_cmpR (op_neD hr.units) (pv 22) (pe_ix ix_list (pv 18) pe_int (fun _ _ => rfl)) (nomark _)))))
       (pss_one (ps_ret pe_bl))
       pss_nil)))
       (pss_cons (ps_if (pt_cmp (pc_notN (pe_call (ok_batch_at T) (hr.mono (by decide)) rfl T.m_batch_at T.F_batch_at.kp T.b_batch_at .nil pass0 (pa_cons (pv 20) (pa_cons (pv 4) (pa_cons (pv 5) (pa_cons (pe_op op_add (pe_op op_add (pv 9) pe_int) (pv 13)) pa_nil)))))) rfl)
       (pss_one (ps_ret pe_bl))
       pss_nil)
       (pss_cons (ps_if (pt_cmp (pc_notN (pe_call (ok_batch_at T) (hr.mono (by decide)) rfl T.m_batch_at T.F_batch_at.kp T.b_batch_at .nil pass0 (pa_cons (pv 20) (pa_cons (pe_op op_add (pe_fld (pv 1) rfl) (pv 13)) (pa_cons (pv 5) (pa_cons (pv 9) pa_nil)))))) rfl)
       (pss_one (ps_ret pe_bl))
       pss_nil)
       (C8.pss_cut (ps_if (PW.pt (pw_and (pt_cmpR op_gt (pv 4) pe_int (nomark _)) (pw_and1 (pt_cmp (pc_notN (pe_call (ok_batch_at T) (hr.mono (by decide)) rfl T.m_batch_at T.F_batch_at.kp T.b_batch_at .nil pass0 (pa_cons (pv 20) (pa_cons (pe_op op_sub (pv 4) pe_int) (pa_cons (pe_op op_add (pv 5) (pv 2)) (pa_cons (pv 9) pa_nil)))))) rfl))))
       (pss_one (ps_ret pe_bl))
       pss_nil)
       (C8.pss_cut (ps_if (PW.pt (pw_and (pt_val (pv 21)) (pw_and1 (pt_cmpR op_lt (pv 10) pe_int (nomark _)))))
       (pss_cons (ps_expr (pe_meth (pv 20) T.cl_Device T.me_Device_write (ok_Device_write T) (hr.mono (by decide)) T.b_Device_write .nil pass0 (pa_cons (pe_op op_add (pv 14) (pv 11)) (pa_cons (pe_ix ix_list (pv 18) (pv 11) (fun _ _ => rfl)) pa_nil))))
       (pss_one (ps_ret (pe_cmpR (op_eqD hr.units) (pe_call (ok_batch_at T) (hr.mono (by decide)) rfl T.m_batch_at T.F_batch_at.kp T.b_batch_at .nil pass0 (pa_cons (pv 20) (pa_cons (pv 4) (pa_cons (pv 5) (pa_cons (pv 9) pa_nil))))) (pe_ix ix_list (pv 18) pe_int (fun _ _ => rfl)) (nomark _)))))
       pss_nil)
       (pss_one (ps_ret pe_bl))))))))))))))))))))))))), ?_⟩
    try dsimp only [cxOf, Cx.nox, Cx.wish]
    obtain ⟨a, ns, rfl, hS, h63, q⟩ := h
    have cl := T.cl_Layout
    have na1 := T.na_Layout_segments
    have na2 := T.na_Layout_segment_blocks
    have na3 := T.na_Layout_block_size
    have na4 := T.na_Layout_fan
    have na5 := T.na_Layout_region_blocks
    have na6 := T.na_Layout_device_blocks
    have cd := T.cl_Device
    walk_at "rd"
    refine ⟨a, ns, _, rfl, hS _ (Keeps.refl _), h63, by decide, by decide, fun z0 hz0 => ?_⟩
    walk_at "rd"
    refine ⟨_, rfl, fun s b z H1 p hF s1 n1 hLay => ?_⟩
    have hB := hF.bounds
    obtain ⟨gs0, gs1, gb0, gb1, _, _⟩ := id hF
    have hreg := hF.reg0
    have eD : (layOf s b z).dev = 2 * (layOf s b z).reg + s * b := rfl
    have eS : (layOf s b z).seg = s := rfl
    have eB : (layOf s b z).blk = b := rfl
    generalize layOf s b z = L at hB hLay eD eS eB hreg
    subst eS eB
    obtain ⟨dx, fs, hp, hL⟩ := id hLay
    have lk1 := hL.seg
    have lk2 := hL.blk
    have lk3 := hL.size
    have lk4 := hL.fan
    have lk5 := hL.reg
    have lk6 := hL.dev
    obtain ⟨l0, l1, d0, d1, z0, z1, f0, f1⟩ := id hB
    walk_at "rd"
    refine ⟨a, ns, _, rfl, hS _ (Keeps.of s1), h63, by decide, by decide, fun z1 hz1 => ?_⟩
    walk_at "rd"
    refine ⟨_, _, [L.seg, L.blk, 2, L.blk + 1, 2, 10 ^ 12], rfl, by walk_at "hp", by simp, ?_, fun H2 dd ds s2 n2 h2 hd => ?_⟩
    · intro s hs
      simp only [List.mem_cons, List.not_mem_nil, or_false] at hs
      rcases hs with rfl | rfl | rfl | rfl | rfl | rfl <;> omega
    obtain _ | ⟨⟨sg0, sg1⟩, _ | ⟨⟨pl0, pl1⟩, _ | ⟨⟨kd0, kd1⟩, _ | ⟨⟨ct0, ct1⟩, _ | ⟨⟨fw0, fw1⟩, _ | ⟨⟨sq0, sq1⟩, _ | _⟩⟩⟩⟩⟩⟩ := hd
    rename_i sg pl kd ct fw sq
    have S2 : Same H1 H2 := by walk_at "sm"
    walk_at "rd"
    clear h2 n2 s2
    refine r_cut (fun σ' H' => ∃ c : Int, 0 ≤ c ∧ c ≤ L.blk ∧ σ' = [some (.ref a), some (.ref p), some (.int L.blk), some (.int z1), some (.int sg), some (.int pl), some (.int kd), some (.int c), some (.int fw), some (.int sq), none, none, none, none, none, none, none, none, none, none, none, none, none] ∧ H2 = H') ?_ ?_
    · walk_at "rd"
      refine r_ite (fun _ => ?_) (fun _ => ?_)
      · walk_at "rd"
        refine ⟨_, _, rfl, ?_⟩
        walk_at "rd"
        rename_i y hy y0 y1
        exact ⟨y, y0, by split at y1 <;> omega, rfl, rfl⟩
      · walk_at "rd"
        exact ⟨ct, ct0, by omega, rfl, rfl⟩
    rintro _ _ ⟨c, c0, c1, rfl, rfl⟩
    have hp2 := S2 _ _ hp
    walk_at "rd"
    refine ⟨a, ns, _, rfl, hS _ (Keeps.of (s1.trans S2)), h63, by decide, by decide, fun z2 hz2 => ?_⟩
    walk_at "rd"
    refine ⟨_, _, [8, c + 1, 60000, 1000], rfl, by walk_at "hp", by simp, ?_, fun H3 dd3 ds3 s3 n3 h3 hd3 => ?_⟩
    · intro s hs
      simp only [List.mem_cons, List.not_mem_nil, or_false] at hs
      rcases hs with rfl | rfl | rfl | rfl <;> omega
    obtain _ | ⟨⟨ft0, ft1⟩, _ | ⟨⟨at0, at1⟩, _ | ⟨⟨cg0, cg1⟩, _ | ⟨⟨mr0, mr1⟩, _ | _⟩⟩⟩⟩ := hd3
    rename_i ft at' cg mr
    have S3 : Same H1 H3 := S2.trans (by walk_at "sm")
    have hp3 := S3 _ _ hp
    walk_at "rd"
    clear h3 n3 s3 hp2 S2
    have hst0 : 0 ≤ sg * L.blk := Int.mul_nonneg sg0 (by omega)
    have hst1 : (sg + 1) * L.blk ≤ L.seg * L.blk := Int.mul_le_mul_of_nonneg_right (by omega) (by omega)
    rw [Int.add_mul, Int.one_mul] at hst1
    generalize hst : 2 * L.reg + sg * L.blk + pl = st
    have st0 : 0 ≤ st := by omega
    have st1 : st < L.dev := by omega
    have st2 : st - pl + L.blk ≤ L.dev := by omega
    refine r_lcI (fun _ _ => True) (by omega) rfl ?_ ?_
    · intro i H' hi s R hR
      walk_at "rd"
      exact hR _ trivial
    intro H4 l4 zs s4 n4 h4 ezs _
    walk_at "rd"
    rename_i tp n5 H5 s5 h5 y hy y0 y1 p6 n6 H6 s6 h6 p7 n7 H7 s7 h7 bt n8 H8 s8 h8
    have S8 : Same H3 H8 := s4.trans (s5.trans (s6.trans (s7.trans s8)))
    have nb8 : H3 bt = none := (s4.trans (s5.trans (s6.trans s7))).free n8
    have b8 : BAt K H8 (.ref p7) (some ⟨1, sq, 0, c.toNat⟩) := by
      refine .some (.of (s8 _ _ h7)) (fun _ => ⟨tp, tp, y, zs.map V.int, .of (s8 _ _ (s7 _ _ h6)), .of (s8 _ _ (s7 _ _ (s6 _ _ h5))), by rw [List.length_map, ezs]⟩) (fun z => absurd rfl z)
    have bk8 : BkT K H8 p7 := ⟨⟨_, .tup (.of (s8 _ _ h7)) (.cons (.int _) (.cons (.int _) (.cons (.int _) (.cons (.tup (.of (s8 _ _ (s7 _ _ h6))) (.cons (.tup (.of (s8 _ _ (s7 _ _ (s6 _ _ h5)))) (DpAll.ints _)) (.cons (.tup (.of (s8 _ _ (s7 _ _ (s6 _ _ h5)))) (DpAll.ints _)) (.cons (.int _) .nil)))) .nil)))),
      Fl.tup (Fl.cons (Fl.int _ _) (Fl.cons (Fl.int _ _) (Fl.cons (Fl.int _ _) (Fl.cons (Fl.tup (Fl.cons (Fl.ints _) (Fl.cons (Fl.ints _) (Fl.cons (Fl.int _ _) Fl.nil)))) Fl.nil)))), by simp [tOnly, tOnlyAll, tOnly_ints]⟩, _, s8 _ _ h7⟩
    have hp8 := S8 _ _ hp3
    clear h4 h5 h6 h7 s4 s5 s6 s7 s8 n4 n5 n6 n7 n8
    refine r_cut (fun σ' H' => ∃ (bt t : Addr) (k1 : Int), (k1 = 1 ∨ k1 = 2) ∧ σ' = [some (.ref a), some (.ref p), some (.int L.blk), some (.int z1), some (.int sg), some (.int pl), some (.int kd), some (.int c), some (.int fw), some (.int sq), some (.int ft), some (.int at'), some (.int cg), some (.int mr), some (.int st), none, some (.ref tp), some (.ref bt), none, none, none, none, none] ∧ Same H3 H' ∧ H3 bt = none ∧ H' bt = some (.lst [.ref t]) ∧ BAt K H' (.ref t) (some ⟨k1, sq, 0, c.toNat⟩) ∧ BkT K H' t) ?_ ?_
    · walk_at "rd"
      refine r_ite (fun _ => ?_) (fun _ => ?_)
      · walk_at "rd"
        refine r_lcI (fun _ _ => True) (by omega) rfl ?_ ?_
        · intro i H' hi s R hR
          have hp' := s _ _ hp8
          walk_at "rd"
          exact hR _ trivial
        intro H4 l4 zs2 s4 n4 h4 ezs2 _
        walk_at "rd"
        rename_i t2 n5 H5 s5 h5 p7' n7 H7 s7 h7 bt2 n8 H8' s8 h8'
        refine ⟨bt2, p7', 2, .inr rfl, rfl, S8.trans (s4.trans (s5.trans (s7.trans s8))), (S8.trans (s4.trans (s5.trans s7))).free n8, h8', .some (.of (s8 _ _ h7)) (fun z => absurd (show (2 : Int) = 1 from z) (by decide)) (fun _ => ⟨zs2.map V.int, .of (s8 _ _ (s7 _ _ h5)), by rw [List.length_map, ezs2]⟩),
          ⟨⟨_, .tup (.of (s8 _ _ h7)) (.cons (.int _) (.cons (.int _) (.cons (.int _) (.cons (.tup (.of (s8 _ _ (s7 _ _ h5))) (DpAll.ints _)) .nil)))), (Fl.tup (Fl.cons (Fl.int _ _) (Fl.cons (Fl.int _ _) (Fl.cons (Fl.int _ _) (Fl.cons (Fl.ints _) Fl.nil))))).mono (by decide), by simp [tOnly, tOnlyAll, tOnly_ints]⟩, _, s8 _ _ h7⟩⟩
      · walk_at "rd"
        exact ⟨bt, p7, 1, .inl rfl, rfl, S8, nb8, h8, b8, bk8⟩
    rintro _ H9 ⟨bt9, t9, k1, hk1, rfl, S9, nb9, h9, b9, bk9⟩
    clear bk8 b8 h8 nb8 S8 hp8
    have hp9 := S9 _ _ hp3
    walk_at "rd"
    refine r_forR (fun i σ' H' => ∃ (vs : List V) (is : List BI) (v15 : Option V), σ' = [some (.ref a), some (.ref p), some (.int L.blk), some (.int z1), some (.int sg), some (.int pl), some (.int kd), some (.int c), some (.int fw), some (.int sq), some (.int ft), some (.int at'), some (.int cg), some (.int mr), some (.int st), v15, some (.ref tp), some (.ref bt9), none, none, none, none, none] ∧ Same H3 H' ∧ BkT K H' t9 ∧ H' bt9 = some (.lst vs) ∧ Paired (fun v i => BAt K H' v (some i)) vs is ∧ is.length = i + 1 ∧ vs[0]? = some (.ref t9) ∧
      (∃ i0, is[0]? = some i0 ∧ i0.kind = k1 ∧ i0.seq = sq ∧ i0.rank = 0 ∧ i0.cnt = c.toNat) ∧ (∀ b ∈ is, b.cnt ≤ 100000) ∧ ∀ (j : Nat) (b : BI), is[j]? = some b → 0 < j → (b.kind = 3 ∨ b.kind = 4) ∧ b.seq = sq ∧ b.rank = (j : Int)) ⟨_, [_], _, rfl, S9, bk9, h9, .cons b9 .nil, rfl, rfl, ⟨_, rfl, rfl, rfl, rfl, rfl⟩, fun b hb => ?_, fun j b hj h0 => ?_⟩ ?_ ?_
    · simp only [List.mem_cons, List.not_mem_nil, or_false] at hb
      subst hb
      show c.toNat ≤ 100000
      omega
    · cases j with
      | zero => omega
      | succ j => simp at hj
    · rintro i σ' H' hi ⟨vs, is, v15, rfl, s, bk, hb, hP, hil, hv0, h00, hcn, hall⟩
      have hp' := s _ _ hp3
      have hvl : vs.length = i + 1 := by rw [Paired.length hP, hil]
      have goal : ∀ (t2 : Addr) (b : BI) (H2 H4 : Hp), Same H' H2 → BAt K H2 (.ref t2) (some b) → (b.kind = 3 ∨ b.kind = 4) → b.seq = sq → b.rank = (i : Int) + 1 → b.cnt ≤ 100000 → upd H2 bt9 (.lst (vs ++ [.ref t2])) = H4 →
          Same H3 H4 ∧ BkT K H4 t9 ∧ H4 bt9 = some (.lst (vs ++ [.ref t2])) ∧ Paired (fun v i => BAt K H4 v (some i)) (vs ++ [.ref t2]) (is ++ [b]) ∧ (is ++ [b]).length = i + 1 + 1 ∧ (vs ++ [V.ref t2])[0]? = some (.ref t9) ∧
          (∃ i0, (is ++ [b])[0]? = some i0 ∧ i0.kind = k1 ∧ i0.seq = sq ∧ i0.rank = 0 ∧ i0.cnt = c.toNat) ∧ (∀ b' ∈ is ++ [b], b'.cnt ≤ 100000) ∧ ∀ (j : Nat) (b' : BI), (is ++ [b])[j]? = some b' → 0 < j → (b'.kind = 3 ∨ b'.kind = 4) ∧ b'.seq = sq ∧ b'.rank = (j : Int) := by
        intro t2 b H2 H4 s2 h2 hk hs hr hc e
        have k4 : Keeps H2 H4 := Keeps.upd (s2 _ _ hb) lstNF e
        have k2 : Keeps H' H4 := (Keeps.of s2).trans k4
        refine ⟨Same.old (s.trans s2) nb9 e, bk.keeps k2, by rw [← e, upd_same], paired_snoc (bats_keeps k2 hP) (h2.keeps k4), by rw [List.length_append, hil]; rfl, ?_, ?_, ?_, ?_⟩
        · rw [List.getElem?_append_left (by omega)]
          exact hv0
        · obtain ⟨i0, e0, r⟩ := h00
          exact ⟨i0, by rw [List.getElem?_append_left (by omega)]; exact e0, r⟩
        · intro b' hb'
          rcases List.mem_append.mp hb' with z | z
          · exact hcn _ z
          · simp only [List.mem_cons, List.not_mem_nil, or_false] at z
            rw [z]
            exact hc
        · intro j b' hj j0
          rcases Nat.lt_or_ge j is.length with z | z
          · rw [List.getElem?_append_left z] at hj
            exact hall j b' hj j0
          · rw [List.getElem?_append_right z] at hj
            have z2 : j - is.length = 0 := by
              rcases Nat.eq_zero_or_pos (j - is.length) with y | y
              · exact y
              · rw [List.getElem?_eq_none (by simp; omega)] at hj
                cases hj
            rw [z2] at hj
            simp only [List.getElem?_cons_zero, Option.some.injEq] at hj
            subst hj
            exact ⟨hk, hs, by omega⟩
      walk_at "rd"
      refine r_ite (fun _ => ?_) (fun _ => ?_)
      · walk_at "rd"
        rename_i p1 n1 H1' s1' h1'
        refine ⟨_, _, _, rfl, rfl, .of h1', by simp, by omega, by omega, by simp, ?_⟩
        walk_at "al"
        rename_i p2 n2 H2' s2' h2'
        walk_at "rd"
        rename_i p3 n3 H3' s3' h3' H4' hH h4'
        have := goal p3 ⟨4, sq, 0 + (i : Int) + 1, L.fan.toNat⟩ H3' H4' (s1'.trans (s2'.trans s3')) (.some (.of h3') (fun z => absurd (show (4 : Int) = 1 from z) (by decide)) (fun _ => ⟨_, .of (s3' _ _ h2'), by simp⟩)) (.inr rfl) rfl (by show (0 : Int) + i + 1 = i + 1; omega) (by show L.fan.toNat ≤ 100000; omega) hH
        exact ⟨_, _, _, rfl, this⟩
      · walk_at "rd"
        rename_i p1 n1 H1' s1' h1'
        refine ⟨_, _, _, rfl, rfl, .of h1', by simp, by omega, by omega, by simp, ?_⟩
        walk_at "al"
        rename_i p2 n2 H2' s2' h2'
        walk_at "rd"
        rename_i p3 n3 H3' s3' h3' H4' hH h4'
        have := goal p3 ⟨3, sq, 0 + (i : Int) + 1, L.size.toNat⟩ H3' H4' (s1'.trans (s2'.trans s3')) (.some (.of h3') (fun z => absurd (show (3 : Int) = 1 from z) (by decide)) (fun _ => ⟨_, .of (s3' _ _ h2'), by simp⟩)) (.inl rfl) rfl (by show (0 : Int) + i + 1 = i + 1; omega) (by show L.size.toNat ≤ 100000; omega) hH
        exact ⟨_, _, _, rfl, this⟩
    rintro σ' H10 ⟨vs, is, v15, rfl, S10, bk10, hb10, hP, hil, hv0, h00, hcn, hall⟩
    have hG : Good is k1 sq c.toNat := ⟨by omega, hk1, h00, fun j b hj h0 => hall j b hj h0⟩
    have hp10 := S10 _ _ hp3
    have hvl : vs.length = c.toNat + 1 := by rw [Paired.length hP]; omega
    clear h00 hall h9 b9 bk9 S9 hp9
    walk_at "rd"
    rename_i gd ngd H11 s11 hgd
    have hb11 := s11 _ _ hb10
    have hp11 := s11 _ _ hp10
    have S11 : Same H3 H11 := S10.trans s11
    have bk11 : BkT K H11 t9 := bk10.keeps (Keeps.of s11)
    have hP11 := bats_keeps (Keeps.of s11) hP
    have ngb : gd ≠ bt9 := fun z => by rw [z, hb10] at ngd; cases ngd
    clear hP bk10 hp10 hb10
    refine r_cut (fun σ' H' => ∃ (vs2 : List V) (os : List (Option BI)), σ' = [some (.ref a), some (.ref p), some (.int L.blk), some (.int z1), some (.int sg), some (.int pl), some (.int kd), some (.int c), some (.int fw), some (.int sq), some (.int ft), some (.int at'), some (.int cg), some (.int mr), some (.int st), v15, some (.ref tp), some (.ref bt9), some (.ref gd), none, none, none, none] ∧ Same H3 H' ∧ BkT K H' t9 ∧ H' bt9 = some (.lst vs2) ∧ H' gd = some (.lst vs) ∧ Paired (fun v i => BAt K H' v (some i)) vs is ∧
      Paired (BAt K H') vs2 os ∧ vs2.length = c.toNat + 1 ∧ Spoil is ft cg at'.toNat os ∧ (∀ (j : Nat) (b : BI), os.getD j none = some b → b.cnt ≤ 100000) ∧ ((vs2 = vs ∧ ¬ ft < 4) ∨ ∃ w, vs2 = vs.set at'.toNat w ∧ ft < 4)) ?_ ?_
    · walk_at "rd"
      refine r_ite (fun f1 => ?_) (fun f1 => ?_)
      · walk_at "rd"
        have hat : at'.toNat < vs.length := by omega
        obtain ⟨b, hb, hBb⟩ := paired_at hP11 (List.getElem?_eq_getElem hat)
        refine r_ixl (.inl (.inl hb11)) (at_vals (by omega) (by omega)) ?_
        rw [List.getD_eq_getElem?_getD, List.getElem?_eq_getElem hat, Option.getD_some]
        generalize hv : vs[at'.toNat] = v at hBb
        walk_at "rd"
        refine ⟨p, L, v, b, ft, cg, rfl, ⟨dx, fs, hp11, hL⟩, by omega, by omega, hBb, fun Hx v' o sx hvo hso => ?_⟩
        walk_at "rd"
        refine r_setl (sx _ _ hb11) (ixN_ok (by omega) (by omega)) ?_
        generalize hH : upd _ _ _ = Hy
        have k4 : Keeps Hx Hy := Keeps.upd (sx _ _ hb11) lstNF hH
        have k2 : Keeps H11 Hy := (Keeps.of sx).trans k4
        refine ⟨_, (is.map some).set at'.toNat o, rfl, Same.old (S11.trans sx) nb9 hH, bk11.keeps k2, by rw [← hH, upd_same], by rw [← hH, upd_ne ngb]; exact sx _ _ hgd, bats_keeps k2 hP11, paired_set (hvo.keeps k4) _ (paired_opt (bats_keeps k2 hP11)), by rw [List.length_set, hvl], ⟨fun _ => ⟨b, o, hb, hso, rfl⟩, fun z => absurd f1 z⟩, fun j b' hj => ?_, .inr ⟨v', rfl, f1⟩⟩
        rw [List.getD_eq_getElem?_getD] at hj
        by_cases ej : at'.toNat = j
        · subst ej
          rw [List.getElem?_set_self (by rw [List.length_map]; omega), Option.getD_some] at hj
          exact spoil_cnt hso hj (hcn _ (List.mem_of_getElem? hb))
        · rw [List.getElem?_set_ne ej] at hj
          exact opt_cnt hcn j b' (by rw [List.getD_eq_getElem?_getD]; exact hj)
      · walk_at "rd"
        exact ⟨_, is.map some, rfl, S11, bk11, hb11, hgd, hP11, paired_opt hP11, hvl, ⟨fun z => absurd z f1, fun _ => rfl⟩, opt_cnt hcn, .inl ⟨rfl, f1⟩⟩
    rintro _ H12 ⟨vs2, os, rfl, S12, bk12, hb12, hg12, hP12, hQ12, hl2, hSp, hcn2, hvs2⟩
    have hp12 := S12 _ _ hp3
    clear hP11 bk11 hp11 hb11 S11
    walk_at "rd"
    refine r_rep (by walk_at "hp") (by omega) (by omega) ?_ ?_
    · show 1 * _ ≤ sizeLine
      rw [sz]
      omega
    rw [rep_non]
    walk_at "al"
    rename_i tl ntl H12b s12b h12b bl nbl' H13 s13' h13
    have s13 : Same H12 H13 := s12b.trans s13'
    have nbl : H12 bl = none := s12b.free nbl'
    clear s12b h12b ntl nbl' s13'
    walk_at "rd"
    have hj' : ((List.replicate L.dev.toNat V.non).length : Int) - st = L.dev - st := by rw [List.length_replicate]; omega
    have hi' : (vs2.length : Int) = c + 1 := by omega
    rw [hj', hi']
    clear hj' hi'
    refine ⟨_, _, rfl, ?_⟩
    generalize hn : (if L.dev - st < c + 1 then L.dev - st else c + 1) = n
    have n0 : 0 < n ∧ n ≤ c + 1 ∧ st + n ≤ L.dev ∧ (st + c + 1 ≤ L.dev → n = c + 1) := by rw [← hn]; split <;> omega
    obtain ⟨n0, n1, n2, n3⟩ := n0
    clear hn
    walk_at "rd"
    refine r_forR (fun i σ' H' => ∃ (v15 : Option V) (xs : List V), σ' = [some (.ref a), some (.ref p), some (.int L.blk), some (.int z1), some (.int sg), some (.int pl), some (.int kd), some (.int c), some (.int fw), some (.int sq), some (.int ft), some (.int at'), some (.int cg), some (.int mr), some (.int st), v15, some (.ref tp), some (.ref bt9), some (.ref gd), some (.ref bl), none, none, none] ∧ Same H12 H' ∧ H' bl = some (.lst xs) ∧ xs.length = L.dev.toNat ∧ Shows xs vs2 st (i : Int)) ⟨_, _, rfl, s13, h13, List.length_replicate .., shows_nil⟩ ?_ ?_
    · rintro i σ' H' hi ⟨v15, xs, rfl, s, hb, hxl, hsh⟩
      have hb' := s _ _ hb12
      have hin : (i : Int) < n := by omega
      walk_at "rd"
      refine r_ixl (.inl (.inl hb')) (at_vals (by omega) (by omega)) ?_
      walk_at "rd"
      refine r_setl hb (ixN_ok (by omega) (by omega)) ?_
      generalize hH : upd _ _ _ = Hy
      refine ⟨_, _, rfl, Same.old s nbl hH, by rw [← hH, upd_same], by rw [List.length_set]; exact hxl, ?_⟩
      rw [Int.zero_add, show ((i + 1 : Nat) : Int) = (i : Int) + 1 from rfl]
      exact shows_put hsh st0 (by omega) rfl (by omega)
    rintro σ' H14 ⟨v15', xs, rfl, S14, hb14, hxl, hsh⟩
    rw [show ((n.toNat : Nat) : Int) = n by omega] at hsh
    have hp14 := S14 _ _ hp12
    clear h13 s13 nbl
    walk_at "rd"
    intro d dx2 nd ndx ned
    have smk : Same H14 (upd (upd H14 dx2 (.own d)) d (.ins T.A_Device dx2 [])) := fun b u e => by
      rw [upd_ne (ne_of_none e nd), upd_ne (ne_of_none e ndx)]
      exact e
    refine ⟨H14, d, dx2, p, L, .ref bl, xs, rfl, upd_same, smk, nd, ⟨dx, fs, smk _ _ hp14, hL⟩, .inr ⟨bl, rfl, .inl (.inl (smk _ _ hb14))⟩, fun H15 hD hK => ⟨rfl, ?_⟩⟩
    have S15 : Same H12 H15 := S14.trans hD.same
    have K15 := Keeps.of S15
    have hg15 := S15 _ _ hg12
    have hp15 := S15 _ _ hp12
    have hLay15 : LayAt T.A_Layout L H15 p := ⟨dx, fs, hp15, hL⟩
    have bk15 := bk12.keeps K15
    have hQ15 : Paired (BAt K H15) vs2 os := paired_bat K15 hQ12
    have hP15 := bats_keeps K15 hP12
    have hinfo := info_at (m := newM p xs) hQ15 hsh st0 (by show st + n ≤ (xs.length : Int); omega)
    have hinc : ∀ a i, infoF st n os a = some i → i.cnt ≤ 100000 := fun a i h => by
      unfold infoF at h
      split at h
      · exact hcn2 _ _ h
      · cases h
    have h14p := hp14
    have h14g := S14 _ _ hg12
    clear hb14 smk nd ndx ned S14 hp12 hg12 bk12 hQ12 hP12 hb12 K15
    walk_at "rd"
    refine sp_batch_both H14 d (newM p xs) L sg pl sq (infoF st n os) hD hLay15 sg0 (by omega) hinfo (fun i hi => hinc _ i hi) (fun v22 H16 s16 hv => ?_)
    rw [show 2 * L.reg + sg * L.blk + pl = st from hst] at hv
    have hD16 := hD.mono s16
    have hL16 : LayAt T.A_Layout L H16 p := ⟨dx, fs, s16 _ _ hp15, hL⟩
    have hI16 : ∀ a, BAt K H16 (readF (newM p xs) a) (infoF st n os a) := fun a => (hinfo a).keeps (Keeps.of s16)
    have hg16 := s16 _ _ hg15
    have bk16 := bk15.keeps (Keeps.of s16)
    walk_at "rd"
    refine r_cut (fun σ' H' => σ' = [some (.ref a), some (.ref p), some (.int L.blk), some (.int z1), some (.int sg), some (.int pl), some (.int kd), some (.int c), some (.int fw), some (.int sq), some (.int ft), some (.int at'), some (.int cg), some (.int mr), some (.int st), v15', some (.ref tp), some (.ref bt9), some (.ref gd), some (.ref bl), some (.ref d), some (.bl (decide (pl + c < L.blk))), some v22] ∧ H16 = H') ?_ ?_
    · by_cases hc : ft < 4 ∨ ¬ pl + c < L.blk
      · have hv0 : v22 = .non := by
          rcases hv with ⟨_, _, hw, _⟩ | ⟨_, e⟩
          · exfalso
            rcases hc with z | z
            · exact neg_spoilt hG hSp ft0 z cg0 (by omega) (by omega) hw
            · have := (neg_head hG hSp ft0 cg0 (by omega) (.inl rfl) hw).2.1
              omega
          · exact e
        subst hv0
        generalize hb : decide (pl + c < L.blk) = fb
        walk_at "rd"
        refine r_ite (fun z => ?_) (fun z => ?_)
        · walk_at "rd"
          exact ⟨rfl, rfl⟩
        · cases fb with
          | true =>
            have := of_decide_eq_true hb
            exfalso
            omega
          | false =>
            walk_at "rd"
            exact ⟨rfl, rfl⟩
      · have hv1 : v22 = .ref t9 := by
          rcases hvs2 with ⟨e2, _⟩ | ⟨_, _, z⟩
          · have hm := hSp.2 (by omega)
            rcases hv with ⟨_, _, _, e⟩ | ⟨w, _⟩
            · rw [e, readF, if_pos ⟨st0, by show st < (xs.length : Int); omega⟩]
              show xs.getD st.toNat .non = _
              rw [List.getD_eq_getElem?_getD, hsh st.toNat (by omega), if_pos ⟨by omega, by omega⟩, Option.getD_some, show (((st.toNat : Nat) : Int) - st).toNat = 0 by omega, e2, List.getD_eq_getElem?_getD, hv0]
              rfl
            · exact absurd (by rw [hm]; exact pos_whole hG (by omega) (by omega)) (w sg1 pl1)
          · exact absurd z (by omega)
        subst hv1
        have hb : decide (pl + c < L.blk) = true := decide_eq_true (by omega)
        rw [hb]
        walk_at "rd"
        refine r_ite (fun z => absurd z (by omega)) (fun z => ?_)
        obtain ⟨ts, hts⟩ := bk16.2
        walk_at "rd"
        refine r_ixl (.inl (.inl hg16)) (atI_nat (j := 0) hv0) ?_
        refine r_neB bk16.1 ?_
        walk_at "rd"
        exact ⟨rfl, rfl⟩
    rintro _ _ ⟨rfl, rfl⟩
    walk_at "rd"
    refine sp_batch_none H14 d (newM p xs) L sg pl (sq + 70000 + mr) (infoF st n os) hD16 hL16 sg0 (by omega) hI16 (fun i hi => hinc _ i hi) (fun _ _ w => ?_) (fun H17 s17 => ?_)
    · rw [hst] at w
      have := (neg_head hG hSp ft0 cg0 (by omega) (.inr (by omega)) w).1
      omega
    have hD17 := hD16.mono s17
    have hL17 : LayAt T.A_Layout L H17 p := ⟨dx, fs, s17 _ _ (s16 _ _ hp15), hL⟩
    have hI17 : ∀ a, BAt K H17 (readF (newM p xs) a) (infoF st n os a) := fun a => (hI16 a).keeps (Keeps.of s17)
    have hg17 := s17 _ _ hg16
    have hp17 := s17 _ _ (s16 _ _ hp15)
    have bk17 := bk16.keeps (Keeps.of s17)
    walk_at "rd"
    refine sp_batch_none H14 d (newM p xs) L (L.seg + mr) pl sq (infoF st n os) hD17 hL17 (by omega) (by omega) hI17 (fun i hi => hinc _ i hi) (fun z => absurd z (by omega)) (fun H18 s18 => ?_)
    have hD18 := hD17.mono s18
    have hp18 := s18 _ _ hp17
    have hL18 : LayAt T.A_Layout L H18 p := ⟨dx, fs, hp18, hL⟩
    have hI18 : ∀ a, BAt K H18 (readF (newM p xs) a) (infoF st n os a) := fun a => (hI17 a).keeps (Keeps.of s18)
    have hg18 := s18 _ _ hg17
    have bk18 := bk17.keeps (Keeps.of s18)
    walk_at "rd"
    refine r_cut (fun σ' H' => σ' = [some (.ref a), some (.ref p), some (.int L.blk), some (.int z1), some (.int sg), some (.int pl), some (.int kd), some (.int c), some (.int fw), some (.int sq), some (.int ft), some (.int at'), some (.int cg), some (.int mr), some (.int st), v15', some (.ref tp), some (.ref bt9), some (.ref gd), some (.ref bl), some (.ref d), some (.bl (decide (pl + c < L.blk))), some v22] ∧ Same H18 H') ?_ ?_
    · walk_at "rd"
      refine r_ite (fun z => ?_) (fun z => ?_)
      · walk_at "rd"
        refine sp_batch_none H14 d (newM p xs) L (sg - 1) (pl + L.blk) sq (infoF st n os) hD18 hL18 (by omega) (by omega) hI18 (fun i hi => hinc _ i hi) (fun _ z => absurd z (by omega)) (fun H19 s19 => ?_)
        walk_at "rd"
        exact ⟨rfl, s19⟩
      · walk_at "rd"
        exact ⟨rfl, Same.refl _⟩
    rintro _ H19 ⟨rfl, s19⟩
    have hD19 := hD18.mono s19
    have hp19 := s19 _ _ hp18
    have hg19 := s19 _ _ hg18
    have bk19 := bk18.keeps (Keeps.of s19)
    walk_at "rd"
    refine r_cut (fun _ _ => True) ?_ (fun _ _ _ => by walk_at "rd"; exact q _)
    walk_at "rd"
    refine r_ite (fun hc => ?_) (fun hc => ?_)
    case refine_2 =>
      walk_at "rd"
      trivial
    walk_at "rd"
    refine r_ite (fun f1 => ?_) (fun f1 => ?_)
    case refine_2 =>
      walk_at "rd"
      trivial
    obtain ⟨_, _, dxd, fsd, su, sh, un, us, hd1, hd2, _⟩ := id hD19
    have nW := hd2.nW
    have hat : at'.toNat < vs.length := by omega
    walk_at "rd"
    refine r_ixl (.inl (.inl hg19)) (at_vals (by omega) (by omega)) ?_
    walk_at "rd"
    refine ⟨H14, d, newM p xs, st + at', _, rfl, hD19, by show ([] : List (Int × V)).length ≤ 1000; exact Nat.zero_le _, fun H20 hD20 k20 => ?_⟩
    generalize hw : vs.getD at'.toNat V.non = w at hD20
    have hsw : (writeF (newM p xs) (st + at') w).shown = xs.set (st + (at'.toNat : Nat)).toNat w := by
      show putB xs (st + at') w = _
      unfold putB
      rw [if_pos ⟨by omega, by omega⟩, show (st + at').toNat = (st + (at'.toNat : Nat)).toNat by omega]
    have hvs3 : vs2.set at'.toNat w = vs := by
      rcases hvs2 with ⟨_, z⟩ | ⟨x, e2, _⟩
      · exact absurd f1 z
      · rw [e2, List.set_set, ← hw, List.getD_eq_getElem?_getD, List.getElem?_eq_getElem hat, Option.getD_some, List.set_getElem_self]
    have hsh3 : Shows (writeF (newM p xs) (st + at') w).shown vs st n := by
      rw [hsw]
      have := shows_set (v := w) (a := at'.toNat) hsh st0 (by omega) (by omega) (by omega)
      rw [hvs3] at this
      exact this
    have k1520 : Keeps H15 H20 := (Keeps.of (s16.trans (s17.trans (s18.trans s19)))).trans k20
    have hI20 := info_at (m := writeF (newM p xs) (st + at') w) (paired_opt (bats_keeps k1520 hP15)) hsh3 st0 (by rw [hsw, List.length_set]; omega)
    have hp20 := hD20.same _ _ h14p
    have hg20 := hD20.same _ _ h14g
    have bk20 := bk19.keeps k20
    walk_at "rd"
    refine sp_batch_both H14 d (writeF (newM p xs) (st + at') w) L sg pl sq (infoF st n (is.map some)) hD20 ⟨dx, fs, hp20, hL⟩ sg0 (by omega) hI20 (fun i hi => ?_) (fun v23 H21 s21 hv' => ?_)
    · obtain ⟨_, _, hi2⟩ := infoF_some (r := 0) (by rw [Int.add_zero]; rw [show 2 * L.reg + sg * L.blk + pl = st from hst] at hi; exact hi)
      exact opt_cnt hcn _ _ hi2
    rw [show 2 * L.reg + sg * L.blk + pl = st from hst] at hv'
    have hv1 : v23 = .ref t9 := by
      rcases hv' with ⟨_, _, _, e⟩ | ⟨nw, _⟩
      · rw [e, readF, if_pos ⟨st0, by rw [hsw, List.length_set]; omega⟩, List.getD_eq_getElem?_getD, hsh3 st.toNat (by rw [hsw, List.length_set]; omega), if_pos ⟨by omega, by omega⟩, Option.getD_some, show (((st.toNat : Nat) : Int) - st).toNat = 0 by omega, List.getD_eq_getElem?_getD, hv0]
        rfl
      · exact absurd (pos_whole hG (by omega) (by omega)) (nw sg1 pl1)
    subst hv1
    walk_at "rd"
    refine r_ixl (.inl (.inl (s21 _ _ hg20))) (atI_nat (j := 0) hv0) ?_
    refine r_eqB (bk20.keeps (Keeps.of s21)).1 ?_
    walk_at "rd"
    exact q _
end
theorem all_mk {l : PySem.W.OpenLaw} {w : World} {K : PySem.W.Frag} {h : Heap} {mg : Str → Option Value} {fa C_Layout C_Device f_is_payload f_Layout___init f_address_at f_parts_of f_listed_in f_batch_at f_Device___init f_Device_read f_Device_write f_Device_pending f_Device__takes_place f_put_block f_law_row f_law_digits f_law_layout f_law_spoilt f_law k_BLOCK_SIZES dT_Device___init : Addr} (X : K.In h) (G : h.Ns mainGlobals mg) (hfa : mg "law" = some (.ref fa))
    {od_is_payload an_is_payload od_Layout___init an_Layout___init od_address_at an_address_at od_parts_of an_parts_of od_listed_in an_listed_in od_batch_at an_batch_at od_Device___init an_Device___init od_Device_read an_Device_read od_Device_write an_Device_write od_Device_pending an_Device_pending od_Device__takes_place an_Device__takes_place od_put_block an_put_block od_law_row an_law_row od_law_digits an_law_digits od_law_layout an_law_layout od_law_spoilt an_law_spoilt od_law an_law : Option Addr} {sl_is_payload sl_Layout___init sl_address_at sl_parts_of sl_listed_in sl_batch_at sl_Device___init sl_Device_read sl_Device_write sl_Device_pending sl_Device__takes_place sl_put_block sl_law_row sl_law_digits sl_law_layout sl_law_spoilt sl_law : Array (Option Value)} {oc_is_payload kV_is_payload dc_is_payload pm_is_payload cd_is_payload ct_is_payload oc_Layout___init kV_Layout___init dc_Layout___init pm_Layout___init cd_Layout___init ct_Layout___init oc_address_at kV_address_at dc_address_at pm_address_at cd_address_at ct_address_at oc_parts_of kV_parts_of dc_parts_of pm_parts_of cd_parts_of ct_parts_of oc_listed_in kV_listed_in dc_listed_in pm_listed_in cd_listed_in ct_listed_in oc_batch_at kV_batch_at dc_batch_at pm_batch_at cd_batch_at ct_batch_at oc_Device___init kV_Device___init dc_Device___init pm_Device___init cd_Device___init ct_Device___init oc_Device_read kV_Device_read dc_Device_read pm_Device_read cd_Device_read ct_Device_read oc_Device_write kV_Device_write dc_Device_write pm_Device_write cd_Device_write ct_Device_write oc_Device_pending kV_Device_pending dc_Device_pending pm_Device_pending cd_Device_pending ct_Device_pending oc_Device__takes_place kV_Device__takes_place dc_Device__takes_place pm_Device__takes_place cd_Device__takes_place ct_Device__takes_place oc_put_block kV_put_block dc_put_block pm_put_block cd_put_block ct_put_block oc_law_row kV_law_row dc_law_row pm_law_row cd_law_row ct_law_row oc_law_digits kV_law_digits dc_law_digits pm_law_digits cd_law_digits ct_law_digits oc_law_layout kV_law_layout dc_law_layout pm_law_layout cd_law_layout ct_law_layout oc_law_spoilt kV_law_spoilt dc_law_spoilt pm_law_spoilt cd_law_spoilt ct_law_spoilt oc_law kV_law dc_law pm_law cd_law ct_law : Value}
    {dd_Device___init : Option Addr} {dn_Device___init : Nat} {dsl_Device___init : Array (Option Value)}
    {t_COMMIT t_DATA t_MOVE t_NODE t_SUMMARY_HEAD yt_BLOCK_SIZES_0 yt_BLOCK_SIZES_1 yt_BLOCK_SIZES_2 : Tok}
    {yd_BLOCK_SIZES : Option Addr} {yn_BLOCK_SIZES : Nat} {ys_BLOCK_SIZES : Array (Option Value)}
    (mC_Layout : PySem.W.nsIn K mainGlobals "Layout" = some (some (.ref C_Layout)))
    (pg_Layout : PySem.W.plainGet K C_Layout Str.empty = true)
    (hd_Layout : PySem.W.hasDictIn K C_Layout = true)
    (po_Layout : PySem.W.plainOver K C_Layout = true)
    (sa_Layout : PySem.W.findIn K (.ref C_Layout) "__setattr__" = some (some (.builtin "object.__setattr__")))
    (mk_Layout : PySem.W.makesIn K C_Layout = true)
    (kc_Layout : PySem.W.keepIn K (.ref C_Layout) = true)
    (na_Layout_segments : PySem.W.findIn K (.ref C_Layout) "segments" = some none)
    (na_Layout_segment_blocks : PySem.W.findIn K (.ref C_Layout) "segment_blocks" = some none)
    (na_Layout_block_size : PySem.W.findIn K (.ref C_Layout) "block_size" = some none)
    (na_Layout_payload : PySem.W.findIn K (.ref C_Layout) "payload" = some none)
    (na_Layout_limit : PySem.W.findIn K (.ref C_Layout) "limit" = some none)
    (na_Layout_last_id : PySem.W.findIn K (.ref C_Layout) "last_id" = some none)
    (na_Layout_fan : PySem.W.findIn K (.ref C_Layout) "fan" = some none)
    (na_Layout_region_blocks : PySem.W.findIn K (.ref C_Layout) "region_blocks" = some none)
    (na_Layout_device_blocks : PySem.W.findIn K (.ref C_Layout) "device_blocks" = some none)
    (mC_Device : PySem.W.nsIn K mainGlobals "Device" = some (some (.ref C_Device)))
    (pg_Device : PySem.W.plainGet K C_Device Str.empty = true)
    (hd_Device : PySem.W.hasDictIn K C_Device = true)
    (po_Device : PySem.W.plainOver K C_Device = true)
    (sa_Device : PySem.W.findIn K (.ref C_Device) "__setattr__" = some (some (.builtin "object.__setattr__")))
    (mk_Device : PySem.W.makesIn K C_Device = true)
    (kc_Device : PySem.W.keepIn K (.ref C_Device) = true)
    (na_Device_layout : PySem.W.findIn K (.ref C_Device) "layout" = some none)
    (na_Device__sure : PySem.W.findIn K (.ref C_Device) "_sure" = some none)
    (na_Device__shown : PySem.W.findIn K (.ref C_Device) "_shown" = some none)
    (na_Device__unsure : PySem.W.findIn K (.ref C_Device) "_unsure" = some none)
    (na_Device__commands_left : PySem.W.findIn K (.ref C_Device) "_commands_left" = some none)
    (na_Device__power_is_off : PySem.W.findIn K (.ref C_Device) "_power_is_off" = some none)
    (a_is_payload : PySem.W.nsIn K mainGlobals "is_payload" = some (some (.ref f_is_payload)))
    (l_is_payload : K.lookup f_is_payload = some ⟨oc_is_payload, od_is_payload, .func (PySem.W.fnOf "is_payload" "is_payload" (defArgs s_is_payload) (defBody s_is_payload) (defScope s_is_payload) .none kV_is_payload dc_is_payload pm_is_payload an_is_payload cd_is_payload ct_is_payload), sl_is_payload⟩)
    (c_is_payload : PySem.W.codeIn K cd_is_payload "is_payload" = true)
    (k_is_payload : PySem.W.keepIn K (.ref f_is_payload) = true)
    (a_Layout___init : PySem.W.findIn K (.ref C_Layout) "__init__" = some (some (.ref f_Layout___init)))
    (i_Layout___init : PySem.W.isFn K (.ref f_Layout___init) = true)
    (l_Layout___init : K.lookup f_Layout___init = some ⟨oc_Layout___init, od_Layout___init, .func (PySem.W.fnOf "__init__" "Layout.__init__" (defArgs s_Layout___init) (defBody s_Layout___init) (defScope s_Layout___init) .none kV_Layout___init dc_Layout___init pm_Layout___init an_Layout___init cd_Layout___init ct_Layout___init), sl_Layout___init⟩)
    (c_Layout___init : PySem.W.codeIn K cd_Layout___init "Layout.__init__" = true)
    (k_Layout___init : PySem.W.keepIn K (.ref f_Layout___init) = true)
    (a_address_at : PySem.W.nsIn K mainGlobals "address_at" = some (some (.ref f_address_at)))
    (l_address_at : K.lookup f_address_at = some ⟨oc_address_at, od_address_at, .func (PySem.W.fnOf "address_at" "address_at" (defArgs s_address_at) (defBody s_address_at) (defScope s_address_at) .none kV_address_at dc_address_at pm_address_at an_address_at cd_address_at ct_address_at), sl_address_at⟩)
    (c_address_at : PySem.W.codeIn K cd_address_at "address_at" = true)
    (k_address_at : PySem.W.keepIn K (.ref f_address_at) = true)
    (a_parts_of : PySem.W.nsIn K mainGlobals "parts_of" = some (some (.ref f_parts_of)))
    (l_parts_of : K.lookup f_parts_of = some ⟨oc_parts_of, od_parts_of, .func (PySem.W.fnOf "parts_of" "parts_of" (defArgs s_parts_of) (defBody s_parts_of) (defScope s_parts_of) .none kV_parts_of dc_parts_of pm_parts_of an_parts_of cd_parts_of ct_parts_of), sl_parts_of⟩)
    (c_parts_of : PySem.W.codeIn K cd_parts_of "parts_of" = true)
    (k_parts_of : PySem.W.keepIn K (.ref f_parts_of) = true)
    (a_listed_in : PySem.W.nsIn K mainGlobals "listed_in" = some (some (.ref f_listed_in)))
    (l_listed_in : K.lookup f_listed_in = some ⟨oc_listed_in, od_listed_in, .func (PySem.W.fnOf "listed_in" "listed_in" (defArgs s_listed_in) (defBody s_listed_in) (defScope s_listed_in) .none kV_listed_in dc_listed_in pm_listed_in an_listed_in cd_listed_in ct_listed_in), sl_listed_in⟩)
    (c_listed_in : PySem.W.codeIn K cd_listed_in "listed_in" = true)
    (k_listed_in : PySem.W.keepIn K (.ref f_listed_in) = true)
    (a_batch_at : PySem.W.nsIn K mainGlobals "batch_at" = some (some (.ref f_batch_at)))
    (l_batch_at : K.lookup f_batch_at = some ⟨oc_batch_at, od_batch_at, .func (PySem.W.fnOf "batch_at" "batch_at" (defArgs s_batch_at) (defBody s_batch_at) (defScope s_batch_at) .none kV_batch_at dc_batch_at pm_batch_at an_batch_at cd_batch_at ct_batch_at), sl_batch_at⟩)
    (c_batch_at : PySem.W.codeIn K cd_batch_at "batch_at" = true)
    (k_batch_at : PySem.W.keepIn K (.ref f_batch_at) = true)
    (a_Device___init : PySem.W.findIn K (.ref C_Device) "__init__" = some (some (.ref f_Device___init)))
    (i_Device___init : PySem.W.isFn K (.ref f_Device___init) = true)
    (l_Device___init : K.lookup f_Device___init = some ⟨oc_Device___init, od_Device___init, .func (PySem.W.fnOf "__init__" "Device.__init__" (defArgs s_Device___init) (defBody s_Device___init) (defScope s_Device___init) (.ref dT_Device___init) kV_Device___init dc_Device___init pm_Device___init an_Device___init cd_Device___init ct_Device___init), sl_Device___init⟩)
    (dl_Device___init : K.lookup dT_Device___init = some ⟨.type "tuple", dd_Device___init, .seq #[Value.none] dn_Device___init, dsl_Device___init⟩)
    (c_Device___init : PySem.W.codeIn K cd_Device___init "Device.__init__" = true)
    (k_Device___init : PySem.W.keepIn K (.ref f_Device___init) = true)
    (a_Device_read : PySem.W.findIn K (.ref C_Device) "read" = some (some (.ref f_Device_read)))
    (i_Device_read : PySem.W.isFn K (.ref f_Device_read) = true)
    (l_Device_read : K.lookup f_Device_read = some ⟨oc_Device_read, od_Device_read, .func (PySem.W.fnOf "read" "Device.read" (defArgs s_Device_read) (defBody s_Device_read) (defScope s_Device_read) .none kV_Device_read dc_Device_read pm_Device_read an_Device_read cd_Device_read ct_Device_read), sl_Device_read⟩)
    (c_Device_read : PySem.W.codeIn K cd_Device_read "Device.read" = true)
    (k_Device_read : PySem.W.keepIn K (.ref f_Device_read) = true)
    (a_Device_write : PySem.W.findIn K (.ref C_Device) "write" = some (some (.ref f_Device_write)))
    (i_Device_write : PySem.W.isFn K (.ref f_Device_write) = true)
    (l_Device_write : K.lookup f_Device_write = some ⟨oc_Device_write, od_Device_write, .func (PySem.W.fnOf "write" "Device.write" (defArgs s_Device_write) (defBody s_Device_write) (defScope s_Device_write) .none kV_Device_write dc_Device_write pm_Device_write an_Device_write cd_Device_write ct_Device_write), sl_Device_write⟩)
    (c_Device_write : PySem.W.codeIn K cd_Device_write "Device.write" = true)
    (k_Device_write : PySem.W.keepIn K (.ref f_Device_write) = true)
    (a_Device_pending : PySem.W.findIn K (.ref C_Device) "pending" = some (some (.ref f_Device_pending)))
    (i_Device_pending : PySem.W.isFn K (.ref f_Device_pending) = true)
    (l_Device_pending : K.lookup f_Device_pending = some ⟨oc_Device_pending, od_Device_pending, .func (PySem.W.fnOf "pending" "Device.pending" (defArgs s_Device_pending) (defBody s_Device_pending) (defScope s_Device_pending) .none kV_Device_pending dc_Device_pending pm_Device_pending an_Device_pending cd_Device_pending ct_Device_pending), sl_Device_pending⟩)
    (c_Device_pending : PySem.W.codeIn K cd_Device_pending "Device.pending" = true)
    (k_Device_pending : PySem.W.keepIn K (.ref f_Device_pending) = true)
    (a_Device__takes_place : PySem.W.findIn K (.ref C_Device) "_takes_place" = some (some (.ref f_Device__takes_place)))
    (i_Device__takes_place : PySem.W.isFn K (.ref f_Device__takes_place) = true)
    (l_Device__takes_place : K.lookup f_Device__takes_place = some ⟨oc_Device__takes_place, od_Device__takes_place, .func (PySem.W.fnOf "_takes_place" "Device._takes_place" (defArgs s_Device__takes_place) (defBody s_Device__takes_place) (defScope s_Device__takes_place) .none kV_Device__takes_place dc_Device__takes_place pm_Device__takes_place an_Device__takes_place cd_Device__takes_place ct_Device__takes_place), sl_Device__takes_place⟩)
    (c_Device__takes_place : PySem.W.codeIn K cd_Device__takes_place "Device._takes_place" = true)
    (k_Device__takes_place : PySem.W.keepIn K (.ref f_Device__takes_place) = true)
    (a_put_block : PySem.W.nsIn K mainGlobals "_put_block" = some (some (.ref f_put_block)))
    (l_put_block : K.lookup f_put_block = some ⟨oc_put_block, od_put_block, .func (PySem.W.fnOf "_put_block" "_put_block" (defArgs s_put_block) (defBody s_put_block) (defScope s_put_block) .none kV_put_block dc_put_block pm_put_block an_put_block cd_put_block ct_put_block), sl_put_block⟩)
    (c_put_block : PySem.W.codeIn K cd_put_block "_put_block" = true)
    (k_put_block : PySem.W.keepIn K (.ref f_put_block) = true)
    (a_law_row : PySem.W.nsIn K mainGlobals "_law_row" = some (some (.ref f_law_row)))
    (l_law_row : K.lookup f_law_row = some ⟨oc_law_row, od_law_row, .func (PySem.W.fnOf "_law_row" "_law_row" (defArgs s_law_row) (defBody s_law_row) (defScope s_law_row) .none kV_law_row dc_law_row pm_law_row an_law_row cd_law_row ct_law_row), sl_law_row⟩)
    (c_law_row : PySem.W.codeIn K cd_law_row "_law_row" = true)
    (k_law_row : PySem.W.keepIn K (.ref f_law_row) = true)
    (a_law_digits : PySem.W.nsIn K mainGlobals "_law_digits" = some (some (.ref f_law_digits)))
    (l_law_digits : K.lookup f_law_digits = some ⟨oc_law_digits, od_law_digits, .func (PySem.W.fnOf "_law_digits" "_law_digits" (defArgs s_law_digits) (defBody s_law_digits) (defScope s_law_digits) .none kV_law_digits dc_law_digits pm_law_digits an_law_digits cd_law_digits ct_law_digits), sl_law_digits⟩)
    (c_law_digits : PySem.W.codeIn K cd_law_digits "_law_digits" = true)
    (k_law_digits : PySem.W.keepIn K (.ref f_law_digits) = true)
    (a_law_layout : PySem.W.nsIn K mainGlobals "_law_layout" = some (some (.ref f_law_layout)))
    (l_law_layout : K.lookup f_law_layout = some ⟨oc_law_layout, od_law_layout, .func (PySem.W.fnOf "_law_layout" "_law_layout" (defArgs s_law_layout) (defBody s_law_layout) (defScope s_law_layout) .none kV_law_layout dc_law_layout pm_law_layout an_law_layout cd_law_layout ct_law_layout), sl_law_layout⟩)
    (c_law_layout : PySem.W.codeIn K cd_law_layout "_law_layout" = true)
    (k_law_layout : PySem.W.keepIn K (.ref f_law_layout) = true)
    (a_law_spoilt : PySem.W.nsIn K mainGlobals "_law_spoilt" = some (some (.ref f_law_spoilt)))
    (l_law_spoilt : K.lookup f_law_spoilt = some ⟨oc_law_spoilt, od_law_spoilt, .func (PySem.W.fnOf "_law_spoilt" "_law_spoilt" (defArgs s_law_spoilt) (defBody s_law_spoilt) (defScope s_law_spoilt) .none kV_law_spoilt dc_law_spoilt pm_law_spoilt an_law_spoilt cd_law_spoilt ct_law_spoilt), sl_law_spoilt⟩)
    (c_law_spoilt : PySem.W.codeIn K cd_law_spoilt "_law_spoilt" = true)
    (k_law_spoilt : PySem.W.keepIn K (.ref f_law_spoilt) = true)
    (a_law : PySem.W.nsIn K mainGlobals "law" = some (some (.ref f_law)))
    (l_law : K.lookup f_law = some ⟨oc_law, od_law, .func (PySem.W.fnOf "law" "law" (defArgs s_law) (defBody s_law) (defScope s_law) .none kV_law dc_law pm_law an_law cd_law ct_law), sl_law⟩)
    (c_law : PySem.W.codeIn K cd_law "law" = true)
    (k_law : PySem.W.keepIn K (.ref f_law) = true)
    (q_BLOCK_SIZES : PySem.W.nsIn K mainGlobals "BLOCK_SIZES" = some (some (.ref k_BLOCK_SIZES)))
    (y_BLOCK_SIZES : K.lookup k_BLOCK_SIZES = some ⟨.type "tuple", yd_BLOCK_SIZES, .seq #[.int 64 yt_BLOCK_SIZES_0, .int 128 yt_BLOCK_SIZES_1, .int 256 yt_BLOCK_SIZES_2] yn_BLOCK_SIZES, ys_BLOCK_SIZES⟩)
    (q_COMMIT : PySem.W.nsIn K mainGlobals "COMMIT" = some (some (.int 1 t_COMMIT)))
    (q_DATA : PySem.W.nsIn K mainGlobals "DATA" = some (some (.int 3 t_DATA)))
    (q_MOVE : PySem.W.nsIn K mainGlobals "MOVE" = some (some (.int 2 t_MOVE)))
    (q_NODE : PySem.W.nsIn K mainGlobals "NODE" = some (some (.int 4 t_NODE)))
    (q_SUMMARY_HEAD : PySem.W.nsIn K mainGlobals "SUMMARY_HEAD" = some (some (.int 16 t_SUMMARY_HEAD)))
    (n_int : PySem.W.nsIn K mainGlobals "int" = some none)
    (n_isinstance : PySem.W.nsIn K mainGlobals "isinstance" = some none)
    (n_len : PySem.W.nsIn K mainGlobals "len" = some none)
    (n_list : PySem.W.nsIn K mainGlobals "list" = some none)
    (n_max : PySem.W.nsIn K mainGlobals "max" = some none)
    (n_min : PySem.W.nsIn K mainGlobals "min" = some none)
    (n_range : PySem.W.nsIn K mainGlobals "range" = some none)
    (n_tuple : PySem.W.nsIn K mainGlobals "tuple" = some none)
    : ∃ fd : FuncData, (∀ (s : Shared) (v : Value), BindsTo s fd ⟨[v], []⟩ [("script", v)]) ∧ ∀ base : Heap, K.In base → base.Ns mainGlobals mg → FnOk l.prog w K mg base CX0 5 fa fd ["script"] (spLawK K) := by
  have e := hfa.symm.trans (PySem.W.mg_of X G a_law)
  cases e
  have F_is_payload := fun_mk (st := s_is_payload) l_is_payload c_is_payload k_is_payload
  have b_is_payload := F_is_payload.binds (ps := ["block"]) fun _ _ _ _ _ _ us hl => match us, hl with | [_], _ => rfl
  have F_Layout___init := fun_mk (st := s_Layout___init) l_Layout___init c_Layout___init k_Layout___init
  have b_Layout___init := F_Layout___init.binds (ps := ["self", "segments", "segment_blocks", "block_size"]) fun _ _ _ _ _ _ us hl => match us, hl with | [_, _, _, _], _ => rfl
  have F_address_at := fun_mk (st := s_address_at) l_address_at c_address_at k_address_at
  have b_address_at := F_address_at.binds (ps := ["layout", "segment", "place"]) fun _ _ _ _ _ _ us hl => match us, hl with | [_, _, _], _ => rfl
  have F_parts_of := fun_mk (st := s_parts_of) l_parts_of c_parts_of k_parts_of
  have b_parts_of := F_parts_of.binds (ps := ["number", "size"]) fun _ _ _ _ _ _ us hl => match us, hl with | [_, _], _ => rfl
  have F_listed_in := fun_mk (st := s_listed_in) l_listed_in c_listed_in k_listed_in
  have b_listed_in := F_listed_in.binds (ps := ["summary"]) fun _ _ _ _ _ _ us hl => match us, hl with | [_], _ => rfl
  have F_batch_at := fun_mk (st := s_batch_at) l_batch_at c_batch_at k_batch_at
  have b_batch_at := F_batch_at.binds (ps := ["device", "segment", "place", "sequence"]) fun _ _ _ _ _ _ us hl => match us, hl with | [_, _, _, _], _ => rfl
  have F_Device___init : FunD K "__init__" "Device.__init__" (defArgs s_Device___init) (defBody s_Device___init) (defScope s_Device___init) [V.non] [] f_Device___init _ := ⟨⟨_, _, _, _, _, _, _, _, _, _, rfl, l_Device___init, c_Device___init, .inr ⟨by simp, _, _, _, _, rfl, dl_Device___init, rfl, (.cons rfl .nil)⟩, .inl rfl⟩, k_Device___init⟩
  obtain ⟨ds_Device___init_3, v_Device___init_3, b_Device___init_3⟩ := F_Device___init.binds1 (ps := ["self", "layout", "blocks"]) 3 1 (by simp) rfl fun _ _ _ _ _ _ _ us its hl hi => match us, its, hl, hi with | [_, _, _], [_], _, _ => ⟨_, rfl, rfl⟩
  cases v_Device___init_3
  have F_Device_read := fun_mk (st := s_Device_read) l_Device_read c_Device_read k_Device_read
  have b_Device_read := F_Device_read.binds (ps := ["self", "address"]) fun _ _ _ _ _ _ us hl => match us, hl with | [_, _], _ => rfl
  have F_Device_write := fun_mk (st := s_Device_write) l_Device_write c_Device_write k_Device_write
  have b_Device_write := F_Device_write.binds (ps := ["self", "address", "block"]) fun _ _ _ _ _ _ us hl => match us, hl with | [_, _, _], _ => rfl
  have F_Device_pending := fun_mk (st := s_Device_pending) l_Device_pending c_Device_pending k_Device_pending
  have b_Device_pending := F_Device_pending.binds (ps := ["self"]) fun _ _ _ _ _ _ us hl => match us, hl with | [_], _ => rfl
  have F_Device__takes_place := fun_mk (st := s_Device__takes_place) l_Device__takes_place c_Device__takes_place k_Device__takes_place
  have b_Device__takes_place := F_Device__takes_place.binds (ps := ["self"]) fun _ _ _ _ _ _ us hl => match us, hl with | [_], _ => rfl
  have F_put_block := fun_mk (st := s_put_block) l_put_block c_put_block k_put_block
  have b_put_block := F_put_block.binds (ps := ["blocks", "address", "block"]) fun _ _ _ _ _ _ us hl => match us, hl with | [_, _, _], _ => rfl
  have F_law_row := fun_mk (st := s_law_row) l_law_row c_law_row k_law_row
  have b_law_row := F_law_row.binds (ps := ["script", "k"]) fun _ _ _ _ _ _ us hl => match us, hl with | [_, _], _ => rfl
  have F_law_digits := fun_mk (st := s_law_digits) l_law_digits c_law_digits k_law_digits
  have b_law_digits := F_law_digits.binds (ps := ["row", "sizes"]) fun _ _ _ _ _ _ us hl => match us, hl with | [_, _], _ => rfl
  have F_law_layout := fun_mk (st := s_law_layout) l_law_layout c_law_layout k_law_layout
  have b_law_layout := F_law_layout.binds (ps := ["row"]) fun _ _ _ _ _ _ us hl => match us, hl with | [_], _ => rfl
  have F_law_spoilt := fun_mk (st := s_law_spoilt) l_law_spoilt c_law_spoilt k_law_spoilt
  have b_law_spoilt := F_law_spoilt.binds (ps := ["layout", "block", "fault", "change"]) fun _ _ _ _ _ _ us hl => match us, hl with | [_, _, _, _], _ => rfl
  have F_law := fun_mk (st := s_law) l_law c_law k_law
  have b_law := F_law.binds (ps := ["script"]) fun _ _ _ _ _ _ us hl => match us, hl with | [_], _ => rfl
  let T : Txt K mg := {
    a_is_payload := f_is_payload,
    fd_is_payload := _,
    F_is_payload := F_is_payload,
    b_is_payload := b_is_payload,
    m_is_payload := PySem.W.mg_of X G a_is_payload,
    a_Layout___init := f_Layout___init,
    fd_Layout___init := _,
    F_Layout___init := F_Layout___init,
    b_Layout___init := b_Layout___init,
    a_address_at := f_address_at,
    fd_address_at := _,
    F_address_at := F_address_at,
    b_address_at := b_address_at,
    m_address_at := PySem.W.mg_of X G a_address_at,
    a_parts_of := f_parts_of,
    fd_parts_of := _,
    F_parts_of := F_parts_of,
    b_parts_of := b_parts_of,
    m_parts_of := PySem.W.mg_of X G a_parts_of,
    a_listed_in := f_listed_in,
    fd_listed_in := _,
    F_listed_in := F_listed_in,
    b_listed_in := b_listed_in,
    m_listed_in := PySem.W.mg_of X G a_listed_in,
    a_batch_at := f_batch_at,
    fd_batch_at := _,
    F_batch_at := F_batch_at,
    b_batch_at := b_batch_at,
    m_batch_at := PySem.W.mg_of X G a_batch_at,
    a_Device___init := f_Device___init,
    fd_Device___init := _,
    F_Device___init := F_Device___init,
    b_Device___init := b_Device___init_3,
    a_Device_read := f_Device_read,
    fd_Device_read := _,
    F_Device_read := F_Device_read,
    b_Device_read := b_Device_read,
    me_Device_read := ⟨a_Device_read, i_Device_read, k_Device_read⟩,
    a_Device_write := f_Device_write,
    fd_Device_write := _,
    F_Device_write := F_Device_write,
    b_Device_write := b_Device_write,
    me_Device_write := ⟨a_Device_write, i_Device_write, k_Device_write⟩,
    a_Device_pending := f_Device_pending,
    fd_Device_pending := _,
    F_Device_pending := F_Device_pending,
    b_Device_pending := b_Device_pending,
    me_Device_pending := ⟨a_Device_pending, i_Device_pending, k_Device_pending⟩,
    a_Device__takes_place := f_Device__takes_place,
    fd_Device__takes_place := _,
    F_Device__takes_place := F_Device__takes_place,
    b_Device__takes_place := b_Device__takes_place,
    me_Device__takes_place := ⟨a_Device__takes_place, i_Device__takes_place, k_Device__takes_place⟩,
    a_put_block := f_put_block,
    fd_put_block := _,
    F_put_block := F_put_block,
    b_put_block := b_put_block,
    m_put_block := PySem.W.mg_of X G a_put_block,
    a_law_row := f_law_row,
    fd_law_row := _,
    F_law_row := F_law_row,
    b_law_row := b_law_row,
    m_law_row := PySem.W.mg_of X G a_law_row,
    a_law_digits := f_law_digits,
    fd_law_digits := _,
    F_law_digits := F_law_digits,
    b_law_digits := b_law_digits,
    m_law_digits := PySem.W.mg_of X G a_law_digits,
    a_law_layout := f_law_layout,
    fd_law_layout := _,
    F_law_layout := F_law_layout,
    b_law_layout := b_law_layout,
    m_law_layout := PySem.W.mg_of X G a_law_layout,
    a_law_spoilt := f_law_spoilt,
    fd_law_spoilt := _,
    F_law_spoilt := F_law_spoilt,
    b_law_spoilt := b_law_spoilt,
    m_law_spoilt := PySem.W.mg_of X G a_law_spoilt,
    a_law := fa,
    fd_law := _,
    F_law := F_law,
    b_law := b_law,
    m_law := PySem.W.mg_of X G a_law,
    A_Layout := C_Layout,
    m_Layout := PySem.W.mg_of X G mC_Layout,
    cl_Layout := ⟨pg_Layout, hd_Layout, po_Layout, sa_Layout⟩,
    M_Layout := ⟨mk_Layout, a_Layout___init, i_Layout___init, kc_Layout⟩,
    na_Layout_segments := na_Layout_segments,
    na_Layout_segment_blocks := na_Layout_segment_blocks,
    na_Layout_block_size := na_Layout_block_size,
    na_Layout_payload := na_Layout_payload,
    na_Layout_limit := na_Layout_limit,
    na_Layout_last_id := na_Layout_last_id,
    na_Layout_fan := na_Layout_fan,
    na_Layout_region_blocks := na_Layout_region_blocks,
    na_Layout_device_blocks := na_Layout_device_blocks,
    A_Device := C_Device,
    m_Device := PySem.W.mg_of X G mC_Device,
    cl_Device := ⟨pg_Device, hd_Device, po_Device, sa_Device⟩,
    M_Device := ⟨mk_Device, a_Device___init, i_Device___init, kc_Device⟩,
    na_Device_layout := na_Device_layout,
    na_Device__sure := na_Device__sure,
    na_Device__shown := na_Device__shown,
    na_Device__unsure := na_Device__unsure,
    na_Device__commands_left := na_Device__commands_left,
    na_Device__power_is_off := na_Device__power_is_off,
    a_BLOCK_SIZES := k_BLOCK_SIZES,
    c_BLOCK_SIZES := PySem.W.mg_of X G q_BLOCK_SIZES,
    r_BLOCK_SIZES := rfl,
    v_BLOCK_SIZES := fun _ => .inr ⟨_, _, _, y_BLOCK_SIZES, rfl, rfl, Nat.le_of_ble_eq_true rfl, (.cons ⟨_, rfl⟩ (.cons ⟨_, rfl⟩ (.cons ⟨_, rfl⟩ .nil)))⟩,
    t_COMMIT := t_COMMIT,
    c_COMMIT := PySem.W.mg_of X G q_COMMIT,
    r_COMMIT := ⟨_, rfl⟩,
    t_DATA := t_DATA,
    c_DATA := PySem.W.mg_of X G q_DATA,
    r_DATA := ⟨_, rfl⟩,
    t_MOVE := t_MOVE,
    c_MOVE := PySem.W.mg_of X G q_MOVE,
    r_MOVE := ⟨_, rfl⟩,
    t_NODE := t_NODE,
    c_NODE := PySem.W.mg_of X G q_NODE,
    r_NODE := ⟨_, rfl⟩,
    t_SUMMARY_HEAD := t_SUMMARY_HEAD,
    c_SUMMARY_HEAD := PySem.W.mg_of X G q_SUMMARY_HEAD,
    r_SUMMARY_HEAD := ⟨_, rfl⟩,
    n_int := PySem.W.mg_none_of X G n_int,
    n_isinstance := PySem.W.mg_none_of X G n_isinstance,
    n_len := PySem.W.mg_none_of X G n_len,
    n_list := PySem.W.mg_none_of X G n_list,
    n_max := PySem.W.mg_none_of X G n_max,
    n_min := PySem.W.mg_none_of X G n_min,
    n_range := PySem.W.mg_none_of X G n_range,
    n_tuple := PySem.W.mg_none_of X G n_tuple }
  exact ⟨_, fun s v => .of_eq rfl, fun base _ _ => ok_law T⟩
theorem walk {l : PySem.W.OpenLaw} {q : Program} {loose : List Str} {XP : (Str → Option Value) → Heap → Prop} {YP : World → Heap → Prop} {d : DefRec} {K : Params → PySem.W.Frag} (hn : l.most = some 63) (hdf : d.params.defaults = [])
    (hY : ∀ (w : World) (h : Heap), YP w h → (K w.params).In h)
    (F : ∀ (w : World) (mg : Str → Option Value) (fa : Addr) (h : Heap), (K w.params).In h → h.Ns mainGlobals mg → mg d.name = some (.ref fa) →
      ∃ fd : FuncData, (∀ (s : Shared) (u : Value), BindsTo s fd ⟨[u], []⟩ [("script", u)]) ∧ ∀ base : Heap, (K w.params).In base → base.Ns mainGlobals mg → FnOk l.prog w (K w.params) mg base CX0 5 fa fd ["script"] (spLawK (K w.params))) :
    PySem.W.WalkO q loose XP YP l.row.toRowW d [] (fun f vs => PySem.call f vs) :=
  L2.walk_of (n := 63) (k := 5) (x := "script") (CX := fun _ => CX0) (sp := fun w => spLawK (K w.params)) hn (by decide) hdf ⟨rfl, by decide, by decide⟩ hY F (fun _ _ a ns hl hO hS => ⟨a, ns, rfl, scr_of hO hS, hl, fun _ => rfl⟩) fun _ _ _ _ _ z => z
end Sg

open PySem PySem.W PyProof.Rows in
set_option maxRecDepth 100000 in
set_option maxHeartbeats 0 in
theorem PySem.Challenge.cw_segmentfs_k15_batches_that_stand_whole_holds : PySem.Challenge.rw_segmentfs_k15_batches_that_stand_whole.Holds := by
  w_on; o_law; k_head; (case hw => w_witness2)
  k_fill
  refine Sg.walk (l := PySem.Challenge.rw_segmentfs_k15_batches_that_stand_whole) rfl rfl (fun w h Y => PySem.W.kIn_of Y) ?F
  case F =>
    intro w mg fa h KX G hmg
    refine' Sg.all_mk KX G hmg ?mC_Layout ?pg_Layout ?hd_Layout ?po_Layout ?sa_Layout ?mk_Layout ?kc_Layout ?na_Layout_segments ?na_Layout_segment_blocks ?na_Layout_block_size ?na_Layout_payload ?na_Layout_limit ?na_Layout_last_id ?na_Layout_fan ?na_Layout_region_blocks ?na_Layout_device_blocks ?mC_Device ?pg_Device ?hd_Device ?po_Device ?sa_Device ?mk_Device ?kc_Device ?na_Device_layout ?na_Device__sure ?na_Device__shown ?na_Device__unsure ?na_Device__commands_left ?na_Device__power_is_off ?a_is_payload ?l_is_payload ?c_is_payload ?k_is_payload ?a_Layout___init ?i_Layout___init ?l_Layout___init ?c_Layout___init ?k_Layout___init ?a_address_at ?l_address_at ?c_address_at ?k_address_at ?a_parts_of ?l_parts_of ?c_parts_of ?k_parts_of ?a_listed_in ?l_listed_in ?c_listed_in ?k_listed_in ?a_batch_at ?l_batch_at ?c_batch_at ?k_batch_at ?a_Device___init ?i_Device___init ?l_Device___init ?dl_Device___init ?c_Device___init ?k_Device___init ?a_Device_read ?i_Device_read ?l_Device_read ?c_Device_read ?k_Device_read ?a_Device_write ?i_Device_write ?l_Device_write ?c_Device_write ?k_Device_write ?a_Device_pending ?i_Device_pending ?l_Device_pending ?c_Device_pending ?k_Device_pending ?a_Device__takes_place ?i_Device__takes_place ?l_Device__takes_place ?c_Device__takes_place ?k_Device__takes_place ?a_put_block ?l_put_block ?c_put_block ?k_put_block ?a_law_row ?l_law_row ?c_law_row ?k_law_row ?a_law_digits ?l_law_digits ?c_law_digits ?k_law_digits ?a_law_layout ?l_law_layout ?c_law_layout ?k_law_layout ?a_law_spoilt ?l_law_spoilt ?c_law_spoilt ?k_law_spoilt ?a_law ?l_law ?c_law ?k_law ?q_BLOCK_SIZES ?y_BLOCK_SIZES ?q_COMMIT ?q_DATA ?q_MOVE ?q_NODE ?q_SUMMARY_HEAD ?n_int ?n_isinstance ?n_len ?n_list ?n_max ?n_min ?n_range ?n_tuple
    (case mC_Layout => k_is)
    (case pg_Layout => k_is)
    (case hd_Layout => k_is)
    (case po_Layout => k_is)
    (case sa_Layout => k_is)
    (case mk_Layout => k_is)
    (case kc_Layout => k_is)
    (case na_Layout_segments => k_is)
    (case na_Layout_segment_blocks => k_is)
    (case na_Layout_block_size => k_is)
    (case na_Layout_payload => k_is)
    (case na_Layout_limit => k_is)
    (case na_Layout_last_id => k_is)
    (case na_Layout_fan => k_is)
    (case na_Layout_region_blocks => k_is)
    (case na_Layout_device_blocks => k_is)
    (case mC_Device => k_is)
    (case pg_Device => k_is)
    (case hd_Device => k_is)
    (case po_Device => k_is)
    (case sa_Device => k_is)
    (case mk_Device => k_is)
    (case kc_Device => k_is)
    (case na_Device_layout => k_is)
    (case na_Device__sure => k_is)
    (case na_Device__shown => k_is)
    (case na_Device__unsure => k_is)
    (case na_Device__commands_left => k_is)
    (case na_Device__power_is_off => k_is)
    (case a_is_payload => k_is)
    (case l_is_payload => k_is)
    (case c_is_payload => k_is)
    (case k_is_payload => k_is)
    (case a_Layout___init => k_is)
    (case i_Layout___init => k_is)
    (case l_Layout___init => k_is)
    (case c_Layout___init => k_is)
    (case k_Layout___init => k_is)
    (case a_address_at => k_is)
    (case l_address_at => k_is)
    (case c_address_at => k_is)
    (case k_address_at => k_is)
    (case a_parts_of => k_is)
    (case l_parts_of => k_is)
    (case c_parts_of => k_is)
    (case k_parts_of => k_is)
    (case a_listed_in => k_is)
    (case l_listed_in => k_is)
    (case c_listed_in => k_is)
    (case k_listed_in => k_is)
    (case a_batch_at => k_is)
    (case l_batch_at => k_is)
    (case c_batch_at => k_is)
    (case k_batch_at => k_is)
    (case a_Device___init => k_is)
    (case i_Device___init => k_is)
    (case l_Device___init => k_is)
    (case dl_Device___init => k_is)
    (case c_Device___init => k_is)
    (case k_Device___init => k_is)
    (case a_Device_read => k_is)
    (case i_Device_read => k_is)
    (case l_Device_read => k_is)
    (case c_Device_read => k_is)
    (case k_Device_read => k_is)
    (case a_Device_write => k_is)
    (case i_Device_write => k_is)
    (case l_Device_write => k_is)
    (case c_Device_write => k_is)
    (case k_Device_write => k_is)
    (case a_Device_pending => k_is)
    (case i_Device_pending => k_is)
    (case l_Device_pending => k_is)
    (case c_Device_pending => k_is)
    (case k_Device_pending => k_is)
    (case a_Device__takes_place => k_is)
    (case i_Device__takes_place => k_is)
    (case l_Device__takes_place => k_is)
    (case c_Device__takes_place => k_is)
    (case k_Device__takes_place => k_is)
    (case a_put_block => k_is)
    (case l_put_block => k_is)
    (case c_put_block => k_is)
    (case k_put_block => k_is)
    (case a_law_row => k_is)
    (case l_law_row => k_is)
    (case c_law_row => k_is)
    (case k_law_row => k_is)
    (case a_law_digits => k_is)
    (case l_law_digits => k_is)
    (case c_law_digits => k_is)
    (case k_law_digits => k_is)
    (case a_law_layout => k_is)
    (case l_law_layout => k_is)
    (case c_law_layout => k_is)
    (case k_law_layout => k_is)
    (case a_law_spoilt => k_is)
    (case l_law_spoilt => k_is)
    (case c_law_spoilt => k_is)
    (case k_law_spoilt => k_is)
    (case a_law => k_is)
    (case l_law => k_is)
    (case c_law => k_is)
    (case k_law => k_is)
    (case q_BLOCK_SIZES => k_is)
    (case y_BLOCK_SIZES => k_is)
    (case q_COMMIT => k_is)
    (case q_DATA => k_is)
    (case q_MOVE => k_is)
    (case q_NODE => k_is)
    (case q_SUMMARY_HEAD => k_is)
    (case n_int => k_is)
    (case n_isinstance => k_is)
    (case n_len => k_is)
    (case n_list => k_is)
    (case n_max => k_is)
    (case n_min => k_is)
    (case n_range => k_is)
    (case n_tuple => k_is)

