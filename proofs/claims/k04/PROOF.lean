import PyProof.Rows.All
import Wide.All
import OpenK.AllK
import Wide.FinOn
import HandS.ForMost
import HandS.IsInst
import HandS.Style
import HandS.Wide
import HandS.Codes
import HandS.NoneIn
import HandS.Defaults
import HandS.TupMul
import HandS.Zip
import HandS.SetFor
import HandS.Walk
import HandS.MakeKwOnly
import PySem.Challenge.RW_segmentfs_k04_what_a_power_failure_leave
set_option Elab.async false
set_option maxRecDepth 100000
set_option maxHeartbeats 4000000
/-! what every text of mine begins with: heaps that grow, and a rule for each head that a reading has -/
namespace Sg
open PySem L2
theorem sz : sizeLine = 16777216 := by decide
theorem Same.of_new {H H' : Hp} {p : Addr} {o : HO} (e : upd H p o = H') (h : H p = none) : Same H H' := fun b u q => by
  rw [← e, upd_ne (ne_of_none q h)]; exact q
theorem at_new {H H' : Hp} {p : Addr} {o : HO} (e : upd H p o = H') : H' p = some o := by rw [← e]; exact upd_same
theorem Same.tup {K : PySem.W.Frag} {H H' : Hp} {a : Addr} {xs : List V} (e : Same H H') (h : SqT K H a xs) : SqT K H' a xs := by
  rcases h with (h | ⟨o, h⟩) | h
  · exact .inl (.inl (e _ _ h))
  · exact .inl (.inr ⟨o, e _ _ h⟩)
  · exact .inr h
/-- an object that is younger than H0 is changed -/
theorem Same.old {H0 H H' : Hp} {p : Addr} {o : HO} (s : Same H0 H) (h : H0 p = none) (e : upd H p o = H') : Same H0 H' := fun b u q => by
  rw [← e, upd_ne (ne_of_none q h)]; exact s _ _ q
theorem at_keep {H H' : Hp} {l a : Addr} {o o' ol : HO} (e : upd H l o' = H') (h : H a = some o) (h' : H l = some ol) (d : o ≠ ol) : H' a = some o := by
  rw [← e, upd_ne (ne_of h h' d)]; exact h
theorem lk_eq {f : Str} {v : V} {fs : List (Str × V)} : (putF f v fs).lookup f = some v := by rw [lookup_putF, if_pos rfl]
theorem lk_ne {f g : Str} {v x : V} {fs : List (Str × V)} (h : ¬ g = f) (q : fs.lookup g = some v) : (putF f x fs).lookup g = some v := by rw [lookup_putF, if_neg h]; exact q
theorem lk_no {f g : Str} {x : V} {fs : List (Str × V)} (h : ¬ g = f) (q : fs.lookup g = none) : (putF f x fs).lookup g = none := by rw [lookup_putF, if_neg h]; exact q
theorem putF_len {f : Str} {v : V} : ∀ {fs : List (Str × V)} {n : Nat}, fs.length ≤ n → (putF f v fs).length ≤ n + 1
  | [], n, _ => by simp [putF]
  | (g, x) :: r, n, h => by
    unfold putF
    split
    · simp at h ⊢; omega
    · cases n with
      | zero => simp at h
      | succ n =>
        simp at h ⊢
        exact putF_len h
theorem to_ite {A B : Prop} {b : Bool} (h1 : b = true → A) (h2 : b = false → B) : if b = true then A else B := by
  cases b with
  | true => exact iteT (h1 rfl)
  | false => exact iteF (h2 rfl)
theorem iteT' {A B : Prop} (h : A) : if (true : Bool) = true then A else B := iteT h
theorem iteF' {A B : Prop} (h : B) : if (false : Bool) = true then A else B := iteF h
theorem r_iteb {A B : Prop} {b : Bool} (hb : b = true) (h : A) : if b = true then A else B := to_ite (fun _ => h) fun z => by rw [hb] at z; cases z
theorem r_iteB {A B : Prop} {b : Bool} (hb : b = false) (h : B) : if b = true then A else B := to_ite (fun z => by rw [hb] at z; cases z) fun _ => h
theorem r_ite {A B c : Prop} [Decidable c] (h1 : c → A) (h2 : ¬ c → B) : if decide c = true then A else B :=
  to_ite (fun h => h1 (of_decide_eq_true h)) (fun h => h2 (of_decide_eq_false h))
theorem r_iteN {A B c : Prop} [Decidable c] (h1 : ¬ c → A) (h2 : c → B) : if (!decide c) = true then A else B :=
  to_ite (fun h => h1 (by simpa using h)) (fun h => h2 (by simpa using h))
theorem r_iteD {A B c : Prop} [Decidable c] (hc : c) (h : A) : if decide c = true then A else B := r_ite (fun _ => h) fun z => absurd hc z
theorem r_iteDn {A B c : Prop} [Decidable c] (hc : ¬ c) (h : B) : if decide c = true then A else B := r_ite (fun z => absurd z hc) fun _ => h
theorem r_iteND {A B c : Prop} [Decidable c] (hc : ¬ c) (h : A) : if (!decide c) = true then A else B := r_iteN (fun _ => h) fun z => absurd z hc
theorem r_iteNDn {A B c : Prop} [Decidable c] (hc : c) (h : B) : if (!decide c) = true then A else B := r_iteN (fun z => absurd hc z) fun _ => h
/-- the continuations of a reading, by name -/
def kTest (QB : Bool → Hp → Prop) : V → Hp → Prop := fun x H => ∃ k, x = .bl k ∧ QB k H
def kFld (K : PySem.W.Frag) (f : Str) (Q : V → Hp → Prop) : V → Hp → Prop := fun x H => ∃ a C dx fs v, x = .ref a ∧ H a = some (.ins C dx fs) ∧ Cls K C ∧ NoAttr K C f ∧ fs.lookup f = some v ∧ Q v H
def kSfld (K : PySem.W.Frag) (D : Ends) (σ : L2.St) (f : Str) (y : V) : V → Hp → Prop := fun x H => ∃ a C dx fs, x = .ref a ∧ H a = some (.ins C dx fs) ∧ Cls K C ∧ NoAttr K C f ∧ fs.length < 1000 ∧
  D.nx σ (upd H a (.ins C dx (putF f y fs)))
def kMeth (C : Addr) (m : Str) (sp : Sp) (dvs : List V) (E : XK) (σ : L2.St) (t : TA) (Q : V → Hp → Prop) : V → Hp → Prop := fun x H => ∃ a dx fs, x = .ref a ∧ H a = some (.ins C dx fs) ∧ fs.lookup m = none ∧ t σ H fun vs H2 => sp (x :: (vs ++ dvs)) H2 Q E
def kTup (Q : V → Hp → Prop) : List V → Hp → Prop := fun xs H => xs.length ≤ sizeLine ∧ ∀ p, H p = none → Q (.ref p) (upd H p (.tup xs))
def kLst (Q : V → Hp → Prop) : List V → Hp → Prop := fun xs H => xs.length ≤ sizeLine ∧ ∀ p, H p = none → Q (.ref p) (upd H p (.lst xs))
def rLen (K : PySem.W.Frag) : List V → Hp → (V → Hp → Prop) → Prop := fun xs H Q => ∃ p ys, xs = [.ref p] ∧ (SqL K H p ys ∨ SqT K H p ys) ∧ Q (.int ys.length) H
theorem c_len {X : Cx} : CallR X (.builtin "len") (rLen X.K) := call_len_seq
def rInt : List V → Hp → (V → Hp → Prop) → Prop := fun xs H Q => (∃ i, xs = [.int i] ∧ Q (.int i) H) ∨ ∃ k, xs = [.bl k] ∧ Q (.int (if k then 1 else 0)) H
theorem c_int {X : Cx} : CallR X (.type "int") rInt := call_int1
def rListOf (K : PySem.W.Frag) : List V → Hp → (V → Hp → Prop) → Prop := fun xs H Q => ∃ p ys, xs = [.ref p] ∧ (SqL K H p ys ∨ SqT K H p ys) ∧ ∀ l, H l = none → Q (.ref l) (upd H l (.lst ys))
theorem c_list {X : Cx} : CallR X (.type "list") (rListOf X.K) := call_list_of
def rTupOf (K : PySem.W.Frag) : List V → Hp → (V → Hp → Prop) → Prop := fun xs H Q => ∃ p ys, xs = [.ref p] ∧ ((SqL K H p ys ∧ ∀ l, H l = none → Q (.ref l) (upd H l (.tup ys))) ∨ (SqT K H p ys ∧ Q (.ref p) H))
theorem c_tuple {X : Cx} : CallR X (.type "tuple") (rTupOf X.K) := call_tuple_of
/-! the same rules within a comprehension: the written part by its own name -/
section
variable {X : Cx}
theorem c_listK (K : PySem.W.Frag) (h : X.K = K) : CallR X (.type "list") (rListOf K) := by subst h; exact c_list
theorem c_tupleK (K : PySem.W.Frag) (h : X.K = K) : CallR X (.type "tuple") (rTupOf K) := by subst h; exact c_tuple
theorem c_lenK (K : PySem.W.Frag) (h : X.K = K) : CallR X (.builtin "len") (rLen K) := by subst h; exact c_len
theorem ix_listK (K : PySem.W.Frag) (h : X.K = K) : IxR X (rIxL K) := by subst h; exact ix_list
theorem ix_tupK (K : PySem.W.Frag) (h : X.K = K) : IxR X (rIxT K) := by subst h; exact ix_tup
theorem op_in_seqK (K : PySem.W.Frag) (h : X.K = K) : OpR X (compareOp .In) (rIn K false) := by subst h; exact op_in_seq
theorem op_notIn_seqK (K : PySem.W.Frag) (h : X.K = K) : OpR X (compareOp .NotIn) (rIn K true) := by subst h; exact op_notIn_seq
theorem pe_fldK (K : PySem.W.Frag) (h : X.K = K) {e : Expr} {f : Str} {pos : Pos} {ta : TE} (he : PE X e ta) (hb : attributeBase e f X.env (eval e X.env) = eval e X.env) : PE X (.Attribute e f pos) (tFld K ta f) := by subst h; exact pe_fld he hb
end
section
variable {σ : L2.St} {H : Hp} {D : Ends} {t u : TS} {te ta tb tc : TE} {g : TG} {c ct cu : TT} {Q : VK} {QB : Bool → Hp → Prop} {QS : L2.St → Hp → Prop} {QA : List V → Hp → Prop} {v x y : V} {K : PySem.W.Frag} {a p l : Addr} {xs ys : List V} {i j : Int} {b : Bool}
theorem r_seq (h : t { D with nx := u D } σ H) : tSeq t u D σ H := h
theorem r_cut (Mid : L2.St → Hp → Prop) (h1 : t { D with nx := Mid } σ H) (h2 : ∀ σ' H', Mid σ' H' → u D σ' H') : C8.tCut t u D σ H := ⟨Mid, h1, h2⟩
/-- a test with nothing kept behind it -/
theorem r_cutS (h1 : t { D with nx := fun σ' H' => σ = σ' ∧ H = H' } σ H) (h2 : u D σ H) : C8.tCut t u D σ H := ⟨_, h1, fun _ _ ⟨e1, e2⟩ => by subst e1; subst e2; exact h2⟩
/-- .. but a heap that grew -/
theorem r_cutH (h1 : t { D with nx := fun σ' H' => σ = σ' ∧ L2.Same H H' } σ H) (h2 : ∀ H', L2.Same H H' → u D σ H') : C8.tCut t u D σ H := ⟨_, h1, fun _ _ ⟨e1, e2⟩ => by subst e1; exact h2 _ e2⟩
theorem r_asg (h : te σ H fun x H1 => g x σ H1 D.nx) : tAsg te g D σ H := h
theorem r_drop (h : te σ H fun _ H1 => D.nx σ H1) : tDrop te D σ H := h
theorem r_ret (h : te σ H D.rt) : tRet te D σ H := h
theorem r_ifs (h : c σ H fun b H1 => if b = true then t D σ H1 else u D σ H1) : tIfS c t u D σ H := h
theorem r_next (h : D.nx σ H) : tNext D σ H := h
theorem r_gname {n : Nat} (h : QS (σ.set n (some v)) H) : gName n v σ H QS := h
theorem r_gtup {n : Nat} {t : TGs} (hx : SqT K H a xs) (hl : xs.length = n) (h : t xs σ H QS) : gTup K n t (.ref a) σ H QS := ⟨a, xs, rfl, hx, hl, h⟩
theorem r_gunl {n : Nat} {t : TGs} (hx : SqL K H a xs) (hl : xs.length = n) (h : t xs σ H QS) : gUnl K n t (.ref a) σ H QS := ⟨a, xs, rfl, hx, hl, h⟩
theorem r_chain {r r' : R2} (h : ta σ H fun x H1 => tb σ H1 fun y H2 => r x y H2 fun z H3 => ∃ k, z = .bl k ∧ (if k = true then tc σ H3 fun w' H4 => r' y w' H4 Q else Q (.bl false) H3)) : tChain r r' ta tb tc σ H Q := h
theorem r_sfldL {C dx : Addr} {fs : List (Str × V)} {f : Str} (h : H a = some (.ins C dx fs)) (hc : Cls K C) (hn : NoAttr K C f) (hl : fs.length < 1000) (q : D.nx σ (upd H a (.ins C dx (putF f y fs)))) : kSfld K D σ f y (.ref a) H := ⟨a, C, dx, fs, rfl, h, hc, hn, hl, q⟩
theorem r_gmap {α : Type} {f : α → V} {y : α} {r : List α} {t : TG} {u : TGs} (h : t (f y) σ H fun σ' H' => u (List.map f r) σ' H' QS) : gCons t u (List.map f (y :: r)) σ H QS := ⟨_, _, rfl, h⟩
theorem r_gmapn {α : Type} {f : α → V} (h : QS σ H) : gNil (List.map f []) σ H QS := ⟨rfl, h⟩
theorem r_gnil (h : QS σ H) : gNil [] σ H QS := ⟨rfl, h⟩
theorem r_gcons {t : TG} {u : TGs} {r : List V} (h : t v σ H fun σ' H' => u r σ' H' QS) : gCons t u (v :: r) σ H QS := ⟨v, r, rfl, h⟩
theorem r_gsub {t : TSet} (h : ta σ H fun o H1 => tb σ H1 fun i H2 => t o i v H2 fun H3 => QS σ H3) : gSub ta tb t v σ H QS := h
theorem r_setl {k : Int} {n : Nat} {R : Hp → Prop} (h1 : H p = some (.lst xs)) (h2 : ixN xs.length k = some n) (q : R (upd H p (.lst (xs.set n v)))) : rSetL (.ref p) (.int k) v H R := ⟨p, xs, k, n, rfl, rfl, h1, h2, q⟩
theorem r_var {n : Nat} (h : σ[n]? = some (some v)) (q : Q v H) : tVar n σ H Q := ⟨v, h, q⟩
theorem r_c (q : Q v H) : tC v σ H Q := q
theorem r_op {r : R2} (h : ta σ H fun x H1 => tb σ H1 fun y H2 => r x y H2 Q) : tOp r ta tb σ H Q := h
theorem r_un {r : V → Hp → VK → Prop} (h : ta σ H fun x H1 => r x H1 Q) : tUn r ta σ H Q := h
theorem r_rI {C : Int → Int → Prop} {g : Int → Int → V} (hc : C i j) (q : Q (g i j) H) : rI C g (.int i) (.int j) H Q := ⟨i, j, rfl, rfl, hc, q⟩
theorem r_mod (hc : 0 < j) (q : ∀ z : Int, z = i % j → 0 ≤ z → z < j → Q (.int z) H) : rI (fun _ j => 0 < j) (fun i j => .int (i % j)) (.int i) (.int j) H Q :=
  ⟨i, j, rfl, rfl, hc, q _ rfl (Int.emod_nonneg i (by omega)) (Int.emod_lt_of_pos i hc)⟩
theorem r_rI0 {g : Int → Int → V} (q : Q (g i j) H) : rI0 g (.int i) (.int j) H Q := ⟨i, j, rfl, rfl, q⟩
theorem r_rU {g : Int → V} (q : Q (g i) H) : rU g (.int i) H Q := ⟨i, rfl, q⟩
theorem r_eq (hs : scal x y = true) (q : Q (.bl (decide (x = y))) H) : rEq x y H Q := ⟨hs, q⟩
theorem r_ne (hs : scal x y = true) (q : Q (.bl (!decide (x = y))) H) : rNe x y H Q := ⟨hs, q⟩
theorem r_eqi (q : Q (.bl (decide (i = j))) H) : rEq (.int i) (.int j) H Q := ⟨rfl, by
  rw [show decide (V.int i = V.int j) = decide (i = j) from by by_cases e : i = j <;> simp [e]]; exact q⟩
theorem r_nei (q : Q (.bl (!decide (i = j))) H) : rNe (.int i) (.int j) H Q := ⟨rfl, by
  rw [show decide (V.int i = V.int j) = decide (i = j) from by by_cases e : i = j <;> simp [e]]; exact q⟩
theorem r_nonR {A B : Prop} (h : A) : if (!decide (V.ref a = V.non)) = true then A else B := iteT' h
theorem r_nonN {A B : Prop} (h : B) : if (!decide (V.non = V.non)) = true then A else B := iteF' h
theorem r_isR {A B : Prop} (h : B) : if decide (V.ref a = V.non) = true then A else B := iteF' h
theorem r_isNN {A B : Prop} (h : A) : if decide (V.non = V.non) = true then A else B := iteT' h
theorem r_nonI {A B : Prop} (h : A) : if (!decide (V.int i = V.non)) = true then A else B := iteT' h
theorem r_isI {A B : Prop} (h : B) : if decide (V.int i = V.non) = true then A else B := iteF' h
theorem r_nil (q : QA [] H) : tNil σ H QA := q
theorem r_cons {tr : TA} (h : ta σ H fun x H1 => tr σ H1 fun xs H2 => QA (x :: xs) H2) : tCons ta tr σ H QA := h
theorem r_cb {r : List V → Hp → VK → Prop} {t : TA} (h : t σ H fun vs H1 => r vs H1 Q) : tCB r t σ H Q := h
theorem r_call {sp : Sp} {dvs : List V} {E : XK} {t : TA} (h : t σ H fun vs H1 => sp (vs ++ dvs) H1 Q E) : tCall sp dvs E t σ H Q := h
theorem r_make {C : Addr} {sp : Sp} {dvs : List V} {E : XK} {t : TA} (h : t σ H fun vs H1 => ∀ x dx, H1 x = none → H1 dx = none → dx ≠ x →
  sp (.ref x :: (vs ++ dvs)) (upd (upd H1 dx (.own x)) x (.ins C dx [])) (fun v H2 => v = .non ∧ Q (.ref x) H2) E) : tMake C sp dvs E t σ H Q := h
theorem r_meth {C : Addr} {m : Str} {sp : Sp} {dvs : List V} {E : XK} {t : TA} (h : ta σ H (kMeth C m sp dvs E σ t Q)) : tMeth C m sp dvs E ta t σ H Q := h
theorem r_methL {C : Addr} {dx : Addr} {fs : List (Str × V)} {m : Str} {sp : Sp} {dvs : List V} {E : XK} {t : TA} (h : H a = some (.ins C dx fs)) (hl : fs.lookup m = none) (q : t σ H fun vs H2 => sp (.ref a :: (vs ++ dvs)) H2 Q E) : kMeth C m sp dvs E σ t Q (.ref a) H := ⟨a, dx, fs, rfl, h, hl, q⟩
theorem r_fld {f : Str} (h : ta σ H (kFld K f Q)) : tFld K ta f σ H Q := h
theorem r_fldL {C dx : Addr} {fs : List (Str × V)} {f : Str} (h : H a = some (.ins C dx fs)) (hc : Cls K C) (hn : NoAttr K C f) (hl : fs.lookup f = some v) (q : Q v H) : kFld K f Q (.ref a) H := ⟨a, C, dx, fs, v, rfl, h, hc, hn, hl, q⟩
theorem r_sfld {f : Str} (h : tb σ H fun y H1 => ta σ H1 (kSfld K D σ f y)) : sFld K ta tb f D σ H := h
theorem r_test (h : te σ H (kTest QB)) : tTest te σ H QB := h
theorem r_tB (h : te σ H (kTest QB)) : tB te σ H QB := h
theorem r_exb (q : QB b H) : kTest QB (.bl b) H := ⟨b, rfl, q⟩
theorem r_and (h : ct σ H fun c H1 => if c = true then cu σ H1 QB else QB false H1) : tAnd ct cu σ H QB := h
theorem r_or (h : ct σ H fun c H1 => if c = true then QB true H1 else cu σ H1 QB) : tOr ct cu σ H QB := h
theorem r_not (h : ct σ H fun c H1 => QB (!c) H1) : tNot ct σ H QB := h
theorem r_andV (h : ta σ H fun x H1 => ∃ c, x = .bl c ∧ if c = true then tb σ H1 Q else Q (.bl false) H1) : tAndV ta tb σ H Q := h
theorem r_orV (h : ta σ H fun x H1 => ∃ c, x = .bl c ∧ if c = true then Q (.bl true) H1 else tb σ H1 Q) : tOrV ta tb σ H Q := h
theorem r_exbP {A : Bool → Prop} (q : A b) : ∃ c, V.bl b = .bl c ∧ A c := ⟨b, rfl, q⟩
theorem r_notV (h : ta σ H fun x H1 => ∃ c, x = .bl c ∧ Q (.bl (!c)) H1) : tNotV ta σ H Q := h
theorem r_tif (h : c σ H fun b H1 => if b = true then ta σ H1 Q else tb σ H1 Q) : tIf c ta tb σ H Q := h
theorem r_isN (h : ta σ H fun x H1 => Q (.bl (decide (x = .non))) H1) : tIsN ta σ H Q := h
theorem r_notN (h : ta σ H fun x H1 => Q (.bl (!decide (x = .non))) H1) : tNotN ta σ H Q := h
theorem r_tup {t : TA} (h : t σ H (kTup Q)) : tTup t σ H Q := h
theorem r_lst {t : TA} (h : t σ H (kLst Q)) : tLst t σ H Q := h
theorem r_ktup (hl : xs.length ≤ sizeLine) (h : ∀ p, H p = none → Q (.ref p) (upd H p (.tup xs))) : kTup Q xs H := ⟨hl, h⟩
theorem r_klst (hl : xs.length ≤ sizeLine) (h : ∀ p, H p = none → Q (.ref p) (upd H p (.lst xs))) : kLst Q xs H := ⟨hl, h⟩
theorem r_ixl (h : SqL K H p xs) (e : atI xs i = some v) (q : Q v H) : rIxL K (.ref p) (.int i) H Q := ⟨p, xs, i, v, rfl, rfl, h, e, q⟩
theorem r_ixt (h : SqT K H p xs) (e : atI xs i = some v) (q : Q v H) : rIxT K (.ref p) (.int i) H Q := ⟨p, xs, i, v, rfl, rfl, h, e, q⟩
theorem r_int (q : Q (.int i) H) : rInt [V.int i] H Q := .inl ⟨i, rfl, q⟩
theorem r_lenl (h : SqL K H p xs) (q : Q (.int xs.length) H) : rLen K [V.ref p] H Q := ⟨p, xs, rfl, .inl h, q⟩
theorem r_lent (h : SqT K H p xs) (q : Q (.int xs.length) H) : rLen K [V.ref p] H Q := ⟨p, xs, rfl, .inr h, q⟩
theorem r_listl (h : SqL K H p xs) (q : ∀ l, H l = none → Q (.ref l) (upd H l (.lst xs))) : rListOf K [V.ref p] H Q := ⟨p, xs, rfl, .inl h, q⟩
theorem r_listt (h : SqT K H p xs) (q : ∀ l, H l = none → Q (.ref l) (upd H l (.lst xs))) : rListOf K [V.ref p] H Q := ⟨p, xs, rfl, .inr h, q⟩
theorem r_tupl (h : SqL K H p xs) (q : ∀ l, H l = none → Q (.ref l) (upd H l (.tup xs))) : rTupOf K [V.ref p] H Q := ⟨p, xs, rfl, .inl ⟨h, q⟩⟩
theorem r_tupt (h : SqT K H p xs) (q : Q (.ref p) H) : rTupOf K [V.ref p] H Q := ⟨p, xs, rfl, .inr ⟨h, q⟩⟩
theorem r_in {neg : Bool} (h : SqL K H p xs ∨ SqT K H p xs) (fx : flatV x = true) (fs : xs.all flatV = true) (q : Q (.bl (if neg = true then !inV x xs else inV x xs)) H) : rIn K neg x (.ref p) H Q := ⟨p, xs, rfl, h, fx, fs, q⟩
theorem r_bm {T : String} {r : V → List V → Hp → VK → Prop} {t : TA} (h : ta σ H fun x H1 => tyV K T x H1 ∧ t σ H1 fun xs H2 => r x xs H2 Q) : tBM K T r ta t σ H Q := h
theorem r_bm0 {T : String} {r : V → List V → Hp → VK → Prop} (h : ta σ H fun x H1 => tyV K T x H1 ∧ r x [] H1 Q) : tBM0 K T r ta σ H Q := h
theorem r_tyl {A : Prop} (h : SqL K H l xs) (q : A) : tyV K "list" (.ref l) H ∧ A := ⟨.inl ⟨rfl, _, h⟩, q⟩
theorem r_app (h : H l = some (.lst xs)) (hl : xs.length < sizeLine) (q : Q .non (upd H l (.lst (xs ++ [v])))) : rAppend (.ref l) [v] H Q := ⟨l, xs, v, rfl, rfl, h, hl, q⟩
theorem r_isi {c : V} {t u : Value} (hc : ClsV c u) (ht : TyX K H x t) (hk : PySem.W.kitOne K t u = some b) (q : Q (.bl b) H) : rIsi K [x, c] H Q := ⟨x, c, t, u, b, rfl, hc, ht, hk, q⟩
theorem r_isb {a b : Bool} (q : Q (.bl (decide (a = b))) H) : rIsB (.bl a) (.bl b) H Q := ⟨a, b, rfl, rfl, q⟩
theorem r_notb {a b : Bool} (q : Q (.bl (!decide (a = b))) H) : rNotB (.bl a) (.bl b) H Q := ⟨a, b, rfl, rfl, q⟩
theorem r_eqd {d e : PyData} (h1 : Dp K H x d) (h2 : Dp K H y e) (s1 : SeqAt.shaped d = true) (s2 : SeqAt.shaped e = true) (q : Q (.bl (PyData.eqv d e)) H) : rEqD K x y H Q := ⟨d, e, h1, h2, s1, s2, q⟩
theorem r_ned {d e : PyData} (h1 : Dp K H x d) (h2 : Dp K H y e) (s1 : SeqAt.shaped d = true) (s2 : SeqAt.shaped e = true) (q : Q (.bl (!PyData.eqv d e)) H) : rNeD K x y H Q := ⟨d, e, h1, h2, s1, s2, q⟩
theorem r_rep {k : Int} (h : H l = some (.lst xs)) (h1 : -(2 ^ 63) ≤ k) (h2 : k < 2 ^ 63) (hz : xs.length * k.toNat ≤ sizeLine) (q : ∀ p, H p = none → Q (.ref p) (upd H p (.lst (List.replicate k.toNat xs).flatten))) : rRep (.ref l) (.int k) H Q := ⟨l, k, xs, rfl, rfl, h, h1, h2, hz, q⟩
theorem r_cat (h : H l = some (.lst xs)) (h' : H p = some (.lst ys)) (hz : xs.length + ys.length ≤ sizeLine) (q : ∀ r, H r = none → Q (.ref r) (upd H r (.lst (xs ++ ys)))) : rCat (.ref l) (.ref p) H Q := ⟨l, p, xs, ys, rfl, rfl, h, h', hz, q⟩
theorem r_aug {n : Nat} {ti : TIp} (h : σ[n]? = some (some x)) (q : te σ H fun y H1 => ti x y H1 fun z H2 => D.nx (σ.set n (some z)) H2) : tAug n te ti D σ H := ⟨x, h, q⟩
theorem r_ipI {f : Int → Int → Int} (q : Q (.int (f i j)) H) : ipI f (.int i) (.int j) H Q := ⟨i, j, rfl, rfl, q⟩
theorem r_sorted {ns : List Int} (h : SqL K H a (ns.map V.int)) (h64 : ns.length < 64) (q : ∀ (ns' : List Int) (p : Addr), ns'.Perm ns → ns'.Pairwise (· ≤ ·) → H p = none → Q (.ref p) (upd H p (.lst (ns'.map V.int)))) : rSorted K [.ref a] H Q := ⟨a, ns, rfl, h, h64, q⟩
end
/-! loops and comprehensions -/
def kLc (g : TG) (tt : TT) (te : TE) (vs : List Nat) (σ : L2.St) (Q : V → Hp → Prop) : It → Hp → Prop := fun J H1 => ∀ D, H1 D = none → ∃ W : Nat → Nat → Hp → Prop, (∃ m, W 0 m (upd H1 D (.lst []))) ∧ ∀ i m H, W i m H →
  (J.stop i H ∧ Q (.ref D) H) ∨ (J.go i H ∧ ∃ Nx : Hp → Prop, (∀ H', Nx H' → ∃ m', m' < m ∧ W (i + 1) m' H') ∧ ∀ x H', J.yld i H x H' → g x (wipe σ vs) H' fun σ2 H2 => wipe σ2 vs = wipe σ vs ∧ tt σ2 H2 fun b H3 =>
    if b = true then te σ2 H3 fun y H4 => ∃ acc, H4 D = some (.lst acc) ∧ acc.length < sizeLine ∧ Nx (upd H4 D (.lst (acc ++ [y]))) else Nx H3)
def kR1 (R : It → Hp → Prop) : List V → Hp → Prop := fun vs H1 => ∃ j : Int, vs = [.int j] ∧ -(2 ^ 62) ≤ j ∧ j < 2 ^ 62 ∧ R (Itr 0 j.toNat) H1
def kR2 (R : It → Hp → Prop) : List V → Hp → Prop := fun vs H1 => ∃ i j : Int, vs = [.int i, .int j] ∧ (-(2 ^ 62) ≤ i ∧ i < 2 ^ 62 ∧ -(2 ^ 62) ≤ j ∧ j < 2 ^ 62) ∧ R (Itr i (j - i).toNat) H1
def kIl (K : PySem.W.Frag) (R : It → Hp → Prop) : V → Hp → Prop := fun x H1 => ∃ a, x = .ref a ∧ (∃ xs, SqL K H1 a xs) ∧ R (Itl K a) H1
def kIt (K : PySem.W.Frag) (R : It → Hp → Prop) : V → Hp → Prop := fun x H1 => ∃ a, x = .ref a ∧ (∃ xs, SqT K H1 a xs) ∧ R (Itt K a) H1
def kFor (g : TG) (tb : TS) (D : Ends) (σ : L2.St) : It → Hp → Prop := fun J H1 => ∃ W : Nat → Nat → L2.St → Hp → Prop, (∃ m, W 0 m σ H1) ∧ ∀ i m σ H, W i m σ H →
  (J.stop i H ∧ D.nx σ H) ∨ (J.go i H ∧ ∃ N : L2.St → Hp → Prop, (∀ σ' H', N σ' H' → ∃ m', m' < m ∧ W (i + 1) m' σ' H') ∧ ∀ x H', J.yld i H x H' → g x σ H' fun σ2 H2 => tb { D with nx := N, ct := N, bk := D.nx } σ2 H2)
section
variable {σ : L2.St} {H : Hp} {D : Ends} {te : TE} {ta : TA} {g : TG} {tt : TT} {tb : TS} {wi : TI} {vs : List Nat} {Q : V → Hp → Prop} {R : It → Hp → Prop} {K : PySem.W.Frag} {a : Addr} {xs : List V} {i j : Int}
theorem r_lc (h : wi σ H (kLc g tt te vs σ Q)) : tLc wi g tt te vs σ H Q := h
theorem r_for (h : wi σ H (kFor g tb D σ)) : tFor wi g tb D σ H := h
theorem r_irng1 (h : ta σ H (kR1 R)) : iRng1 ta σ H R := h
theorem r_irng2 (h : ta σ H (kR2 R)) : iRng2 ta σ H R := h
theorem r_ilist (h : te σ H (kIl K R)) : iList K te σ H R := h
theorem r_itup (h : te σ H (kIt K R)) : iTup K te σ H R := h
theorem r_kR1 (h1 : -(2 ^ 62) ≤ j) (h2 : j < 2 ^ 62) (h : R (Itr 0 j.toNat) H) : kR1 R [.int j] H := ⟨j, rfl, h1, h2, h⟩
theorem r_kR2 (h1 : -(2 ^ 62) ≤ i ∧ i < 2 ^ 62 ∧ -(2 ^ 62) ≤ j ∧ j < 2 ^ 62) (h : R (Itr i (j - i).toNat) H) : kR2 R [.int i, .int j] H := ⟨i, j, rfl, h1, h⟩
theorem r_kIl (h1 : SqL K H a xs) (h : R (Itl K a) H) : kIl K R (.ref a) H := ⟨a, rfl, ⟨_, h1⟩, h⟩
theorem r_kIt (h1 : SqT K H a xs) (h : R (Itt K a) H) : kIt K R (.ref a) H := ⟨a, rfl, ⟨_, h1⟩, h⟩
theorem r_forR {lo : Int} {n : Nat} (Pv : Nat → L2.St → Hp → Prop) (h0 : Pv 0 σ H)
    (hs : ∀ i σ H, i < n → Pv i σ H → g (.int (lo + i)) σ H fun σ2 H2 => tb { D with nx := Pv (i + 1), ct := Pv (i + 1), bk := D.nx } σ2 H2) (hd : ∀ σ H, Pv n σ H → D.nx σ H) : kFor g tb D σ (Itr lo n) H := for_range Pv h0 hs hd
theorem r_forL (Pv : Nat → L2.St → Hp → Prop) (h0 : Pv 0 σ H) (hl : ∀ i σ H, i ≤ xs.length → Pv i σ H → SqL K H a xs)
    (hs : ∀ i x σ H, xs[i]? = some x → Pv i σ H → g x σ H fun σ2 H2 => tb { D with nx := Pv (i + 1), ct := Pv (i + 1), bk := D.nx } σ2 H2) (hd : ∀ σ H, Pv xs.length σ H → D.nx σ H) : kFor g tb D σ (Itl K a) H := for_list Pv h0 hl hs hd
theorem r_forT (Pv : Nat → L2.St → Hp → Prop) (h0 : Pv 0 σ H) (hl : ∀ i σ H, i ≤ xs.length → Pv i σ H → SqT K H a xs)
    (hs : ∀ i x σ H, xs[i]? = some x → Pv i σ H → g x σ H fun σ2 H2 => tb { D with nx := Pv (i + 1), ct := Pv (i + 1), bk := D.nx } σ2 H2) (hd : ∀ σ H, Pv xs.length σ H → D.nx σ H) : kFor g tb D σ (Itt K a) H := for_tup Pv h0 hl hs hd
/-- [e for x in range], e an int -/
theorem r_lcI {lo : Int} {n slot : Nat} (P : Nat → Int → Prop) (hn : n ≤ 100000) (hv : vs = [slot])
    (hs : ∀ (i : Nat) (H' : Hp), i < n → L2.Same H H' → ∀ R : V → Hp → Prop, (∀ z : Int, P i z → R (.int z) H') → te ((wipe σ vs).set slot (some (.int (lo + i)))) H' R)
    (q : ∀ (H' : Hp) (l : Addr) (zs : List Int), L2.Same H H' → H l = none → H' l = some (.lst (zs.map V.int)) → zs.length = n → (∀ (i : Nat) (z : Int), zs[i]? = some z → P i z) → Q (.ref l) H') :
    kLc (gName slot) tYes te vs σ Q (Itr lo n) H := by
  intro L hL
  have hw : ∀ (τ : L2.St) (x : V), wipe (τ.set slot (some x)) [slot] = wipe τ [slot] := fun τ x => by simp [wipe, List.set_set]
  have hw2 : wipe (wipe σ vs) vs = wipe σ vs := by subst hv; simp [wipe, List.set_set]
  refine lc_range (fun i H' => ∃ zs : List Int, zs.length = i ∧ H' L = some (.lst (zs.map V.int)) ∧ L2.Same H H' ∧ ∀ (k : Nat) (z : Int), zs[k]? = some z → P k z) ⟨[], rfl, upd_same, fun b o e => by rw [upd_ne (ne_of_none e hL)]; exact e, fun k z e => by simp at e⟩ ?_ ?_
  · rintro i H' hi ⟨zs, el, eL, s, hp⟩
    refine ⟨?_, ?_⟩
    · subst hv
      rw [hw]
      exact hw2
    · show te ((wipe σ vs).set slot (some (.int (lo + i)))) H' _
      refine hs i H' hi s _ fun z hz => ⟨_, eL, ?_, zs ++ [z], ?_, ?_, ?_, ?_⟩
      · rw [List.length_map, el]
        exact Nat.lt_of_lt_of_le (Nat.lt_of_lt_of_le hi hn) (by decide)
      · rw [List.length_append, el]; rfl
      · rw [upd_same, List.map_append]; rfl
      · intro b o e
        rw [upd_ne (ne_of_none e hL)]
        exact s _ _ e
      · intro k y e
        rw [List.getElem?_append] at e
        split at e
        · exact hp k y e
        · rename_i hk
          have ek : k = zs.length := by
            have := (List.getElem?_eq_some_iff.mp e).1
            simp at this
            omega
          subst ek
          simp at e
          rw [el, ← e]
          exact hz
  · rintro H' ⟨zs, el, eL, s, hp⟩
    exact q H' L zs s hL eL el hp
end
end Sg
/-! data behind values, as the heap grows -/
namespace Sg
open PySem L2
mutual
theorem Dp.mono {K : PySem.W.Frag} {H H' : Hp} (s : L2.Same H H') : ∀ (d : PyData) (v : V), Dp K H v d → Dp K H' v d
  | .none, _, h => by cases h; exact .non
  | .bool b, _, h => by cases h; exact .bl b
  | .int i, _, h => by cases h; exact .int i
  | .str x, _, h => by cases h; exact .str x
  | .list ds, _, h => by
    cases h with
    | lst hs ha => exact .lst (L2.Same.seq s hs) (DpAll.mono s ds _ ha)
  | .tuple ds, _, h => by
    cases h with
    | tup hs ha => exact .tup (Sg.Same.tup s hs) (DpAll.mono s ds _ ha)
  | .dict _, _, h => by cases h
theorem DpAll.mono {K : PySem.W.Frag} {H H' : Hp} (s : L2.Same H H') : ∀ (ds : List PyData) (vs : List V), DpAll K H vs ds → DpAll K H' vs ds
  | [], _, h => by cases h; exact .nil
  | d :: ds, _, h => by
    cases h with
    | cons h1 h2 => exact .cons (Dp.mono s d _ h1) (DpAll.mono s ds _ h2)
end
theorem DpAll.ints {K : PySem.W.Frag} {H : Hp} : ∀ ns : List Int, DpAll K H (ns.map V.int) (ns.map PyData.int)
  | [] => .nil
  | n :: ns => .cons (.int n) (DpAll.ints ns)
theorem DpAll.at {K : PySem.W.Frag} {H : Hp} : ∀ {vs : List V} {ds : List PyData}, DpAll K H vs ds → ∀ (i : Nat) (v : V), vs[i]? = some v → ∃ d, ds[i]? = some d ∧ Dp K H v d
  | _, _, .nil, i, v, e => by simp at e
  | _, _, .cons h t, 0, v, e => by simp at e; subst e; exact ⟨_, rfl, h⟩
  | _, _, .cons h t, i + 1, v, e => by
    obtain ⟨d, e1, h1⟩ := DpAll.at t i v (by simpa using e)
    exact ⟨d, by simpa using e1, h1⟩
theorem DpAll.length {K : PySem.W.Frag} {H : Hp} : ∀ {vs : List V} {ds : List PyData}, DpAll K H vs ds → vs.length = ds.length
  | _, _, .nil => rfl
  | _, _, .cons _ t => by simp [DpAll.length t]
/-- data that can be compared, at most n deep -/
def Fl (n : Nat) (d : PyData) : Prop := d.canLay0 = true ∧ d.depth ≤ n
theorem Fl.int (i : Int) (n : Nat) : Fl n (.int i) := ⟨by simp [PyData.canLay0], by simp [PyData.depth]⟩
theorem Fl.non (n : Nat) : Fl n .none := ⟨by simp [PyData.canLay0], by simp [PyData.depth]⟩
theorem Fl.bool (b : Bool) (n : Nat) : Fl n (.bool b) := ⟨by simp [PyData.canLay0], by simp [PyData.depth]⟩
theorem Fl.all {n : Nat} : ∀ {ds : List PyData}, (∀ d ∈ ds, Fl n d) → PyData.canLayAll0 ds = true ∧ PyData.depthAll ds ≤ n
  | [], _ => ⟨by simp [PyData.canLayAll0], by simp [PyData.depthAll]⟩
  | d :: ds, h => by
    obtain ⟨h1, h2⟩ := h d List.mem_cons_self
    obtain ⟨h3, h4⟩ := Fl.all (ds := ds) fun x hx => h x (List.mem_cons_of_mem _ hx)
    refine ⟨by simp [PyData.canLayAll0, h1, h3], ?_⟩
    simp only [PyData.depthAll]
    exact Nat.max_le.mpr ⟨h2, h4⟩
theorem Fl.tup {n : Nat} {ds : List PyData} (h : ∀ d ∈ ds, Fl n d) : Fl (n + 1) (.tuple ds) := by
  obtain ⟨h1, h2⟩ := Fl.all h
  exact ⟨by simp [PyData.canLay0, h1], by simp only [PyData.depth]; omega⟩
theorem Fl.lst {n : Nat} {ds : List PyData} (h : ∀ d ∈ ds, Fl n d) : Fl (n + 1) (.list ds) := by
  obtain ⟨h1, h2⟩ := Fl.all h
  exact ⟨by simp [PyData.canLay0, h1], by simp only [PyData.depth]; omega⟩
theorem Fl.mono {n m : Nat} {d : PyData} (h : Fl n d) (hm : n ≤ m) : Fl m d := ⟨h.1, Nat.le_trans h.2 hm⟩
theorem Fl.ints (ns : List Int) : Fl 1 (.tuple (ns.map PyData.int)) := Fl.tup fun d hd => by
  obtain ⟨i, _, rfl⟩ := List.mem_map.mp hd
  exact Fl.int i 0
theorem Fl.intl (ns : List Int) : Fl 1 (.list (ns.map PyData.int)) := Fl.lst fun d hd => by
  obtain ⟨i, _, rfl⟩ := List.mem_map.mp hd
  exact Fl.int i 0
theorem Fl.nil {n : Nat} : ∀ d ∈ ([] : List PyData), Fl n d := fun d h => by cases h
theorem Fl.cons {n : Nat} {d : PyData} {ds : List PyData} (h : Fl n d) (t : ∀ x ∈ ds, Fl n x) : ∀ x ∈ d :: ds, Fl n x := fun x hx => by
  rcases List.mem_cons.mp hx with rfl | hx
  · exact h
  · exact t x hx
theorem Fl.mapi {n : Nat} {ns : List Int} : ∀ d ∈ ns.map PyData.int, Fl n d := fun d hd => by
  obtain ⟨i, _, rfl⟩ := List.mem_map.mp hd
  exact Fl.int i n
theorem Fl.shaped {n : Nat} {d : PyData} (h : Fl n d) (hn : n ≤ 64 := by decide) : SeqAt.shaped d = true := by
  unfold SeqAt.shaped
  rw [h.1, decide_eq_true (Nat.le_trans h.2 hn)]
  rfl
theorem Fl.self {n : Nat} {d : PyData} (h : Fl n d) : PyData.eqv d d = true := SeqAt.eqv_refl d h.1
/-! lists of ints -/
theorem ixN_ok {n : Nat} {k : Int} (h0 : 0 ≤ k) (h1 : k < n) : ixN n k = some k.toNat := by unfold ixN; rw [if_pos h0, if_pos h1]
theorem at_ints {ts : List Int} {k : Int} (h0 : 0 ≤ k) (h1 : k < ts.length) : atI (ts.map V.int) k = some (.int (ts.getD k.toNat 0)) := by
  obtain ⟨n, rfl⟩ := Int.eq_ofNat_of_zero_le h0
  have hn : n < ts.length := by omega
  refine atI_nat ?_
  rw [List.getElem?_map, List.getElem?_eq_getElem hn, List.getD_eq_getElem?_getD, Int.toNat_natCast, List.getElem?_eq_getElem hn]
  rfl
theorem rep_ints (n : Nat) (z : Int) : (List.replicate n [V.int z]).flatten = (List.replicate n z).map V.int := by
  induction n with
  | zero => rfl
  | succ n ih => rw [List.replicate_succ, List.flatten_cons, ih, List.replicate_succ, List.map_cons]; rfl
theorem set_ints (ts : List Int) (n : Nat) (z : Int) : (ts.map V.int).set n (.int z) = (ts.set n z).map V.int := by rw [List.map_set]
theorem eqv_ints {as bs : List Int} : PyData.eqv (.list (as.map PyData.int)) (.list (bs.map PyData.int)) = decide (as = bs) := by
  rw [PyData.eqv]
  induction as generalizing bs with
  | nil => cases bs <;> simp [PyData.eqvAll]
  | cons a as ih =>
    cases bs with
    | nil => simp [PyData.eqvAll]
    | cons b bs =>
      rw [List.map_cons, List.map_cons, PyData.eqvAll, ih, PyData.eqv]
      by_cases e : a = b
      · subst e; simp
      · simp [e]
theorem Dp.ints {K : PySem.W.Frag} {H : Hp} {a : Addr} {ns : List Int} (h : SqL K H a (ns.map V.int)) : Dp K H (.ref a) (.list (ns.map PyData.int)) := .lst h (DpAll.ints ns)
theorem Fl.intlS (ns : List Int) : SeqAt.shaped (.list (ns.map PyData.int)) = true := (Fl.intl ns).shaped
/-! a comprehension over a list, its items anything -/
/-- the heap without the list that grows -/
def hid (D : Addr) (H : Hp) : Hp := fun b => if b = D then none else H b
theorem hid_ne {D b : Addr} {H : Hp} (h : b ≠ D) : hid D H b = H b := by unfold hid; rw [if_neg h]
theorem hid_at {D : Addr} {H : Hp} : hid D H D = none := by unfold hid; rw [if_pos rfl]
theorem hid_same {D : Addr} {H : Hp} : L2.Same (hid D H) H := fun b o e => by
  by_cases hb : b = D
  · rw [hb, hid_at] at e; cases e
  · rw [hid_ne hb] at e; exact e
theorem of_hid {D b : Addr} {H : Hp} {o : HO} (e : hid D H b = some o) : b ≠ D ∧ H b = some o := by
  by_cases hb : b = D
  · rw [hb, hid_at] at e; cases e
  · rw [hid_ne hb] at e; exact ⟨hb, e⟩
theorem same_hid {D : Addr} {H H' : Hp} (s : L2.Same H H') (n : H D = none) : L2.Same H (hid D H') := fun b o e => by
  rw [hid_ne (ne_of_none e n)]; exact s _ _ e
theorem hid_upd {D : Addr} {H : Hp} {o : HO} : hid D (upd H D o) = hid D H := by
  funext b
  by_cases hb : b = D
  · rw [hb, hid_at, hid_at]
  · rw [hid_ne hb, hid_ne hb, upd_ne hb]
theorem hid_none {D : Addr} {H : Hp} (n : H D = none) : hid D H = H := by
  funext b
  by_cases hb : b = D
  · rw [hb, hid_at, n]
  · rw [hid_ne hb]
theorem r_lcL {K : PySem.W.Frag} {a : Addr} {xs : List V} {slot : Nat} {vs : List Nat} {te : TE} {σ : L2.St} {H : Hp} {Q : V → Hp → Prop} (P : Nat → List V → Hp → Prop) (hx : SqL K H a xs) (hn : xs.length ≤ 100000) (hv : vs = [slot])
    (h0 : P 0 [] H)
    (hs : ∀ (i : Nat) (x : V) (acc : List V) (H0 H' : Hp), xs[i]? = some x → L2.Same H H0 → P i acc H0 → L2.Same H0 H' → ∀ R : V → Hp → Prop,
      (∀ (v : V) (H'' : Hp), L2.Same H' H'' → (∀ D, H0 D = none → H' D ≠ none → P (i + 1) (acc ++ [v]) (hid D H'')) → R v H'') → te ((wipe σ vs).set slot (some x)) H' R)
    (q : ∀ (H' : Hp) (l : Addr) (acc : List V), L2.Same H H' → H l = none → H' l = some (.lst acc) → acc.length = xs.length → P xs.length acc (hid l H') → Q (.ref l) H') :
    kLc (gName slot) tYes te vs σ Q (Itl K a) H := by
  intro L hL
  have hw : ∀ (τ : L2.St) (x : V), wipe (τ.set slot (some x)) [slot] = wipe τ [slot] := fun τ x => by simp [wipe, List.set_set]
  have hw2 : wipe (wipe σ vs) vs = wipe σ vs := by subst hv; simp [wipe, List.set_set]
  refine lc_list (xs := xs) (fun i H' => ∃ acc : List V, acc.length = i ∧ H' L = some (.lst acc) ∧ L2.Same H H' ∧ P i acc (hid L H')) ⟨[], rfl, upd_same, fun b o e => by rw [upd_ne (ne_of_none e hL)]; exact e, by rw [hid_upd, hid_none hL]; exact h0⟩ ?_ ?_ ?_
  · rintro i H' hi ⟨acc, _, _, s, _⟩
    exact s.seq hx
  · rintro i x H' hi ⟨acc, el, eL, s, hp⟩
    refine ⟨?_, ?_⟩
    · subst hv
      rw [hw]
      exact hw2
    · show te ((wipe σ vs).set slot (some x)) H' _
      refine hs i x acc (hid L H') H' hi (same_hid s hL) hp hid_same _ fun v H'' s2 hP => ⟨acc, s2 _ _ eL, ?_, acc ++ [v], ?_, upd_same, ?_, ?_⟩
      · have := (List.getElem?_eq_some_iff.mp hi).1
        rw [el, sz]
        omega
      · rw [List.length_append, el]; rfl
      · intro b o e
        rw [upd_ne (ne_of_none e hL)]
        exact s2 _ _ (s _ _ e)
      · rw [hid_upd]
        exact hP L hid_at (by rw [eL]; intro z; cases z)
  · rintro H' ⟨acc, el, eL, s, hp⟩
    exact q H' L acc s hL eL el hp
end Sg
namespace Sg
open PySem L2
def top (i : Nat) : Stmt := PySem.Challenge.pw_segmentfs_k04_what_a_power_failure_leave.main.body.getD i (.Pass ⟨0, 0, 0, 0⟩)
abbrev s_Device___init : Stmt := inClass (top 2) 0
abbrev s_Device_read : Stmt := inClass (top 2) 1
abbrev s_Device_write : Stmt := inClass (top 2) 2
abbrev s_Device_barrier : Stmt := inClass (top 2) 3
abbrev s_Device_cut_after : Stmt := inClass (top 2) 4
abbrev s_Device_was_cut : Stmt := inClass (top 2) 5
abbrev s_Device_pending : Stmt := inClass (top 2) 6
abbrev s_Device_sure_blocks : Stmt := inClass (top 2) 7
abbrev s_Device_left : Stmt := inClass (top 2) 8
abbrev s_Device__takes_place : Stmt := inClass (top 2) 11
abbrev s_put_block : Stmt := top 3
abbrev s_Layout___init : Stmt := inClass (top 10) 0
abbrev s_parts_of : Stmt := top 11
abbrev s_law_row : Stmt := top 13
abbrev s_law_digits : Stmt := top 14
abbrev s_law_layout : Stmt := top 15
abbrev s_law_block : Stmt := top 16
abbrev s_law_left : Stmt := top 17
abbrev s_law_choice : Stmt := top 18
abbrev s_law : Stmt := top 19
abbrev n_Device___init : List Str := ["self", "layout", "blocks"]
theorem sc_Device___init : FnScope n_Device___init ["self", "layout", "blocks"] (defScope s_Device___init) := ⟨rfl, rfl, rfl, by decide +kernel, rfl, by decide +kernel, by decide +kernel⟩
abbrev n_Device_read : List Str := ["self", "address"]
theorem sc_Device_read : FnScope n_Device_read ["self", "address"] (defScope s_Device_read) := ⟨rfl, rfl, rfl, by decide +kernel, rfl, by decide +kernel, by decide +kernel⟩
abbrev n_Device_write : List Str := ["self", "address", "block"]
theorem sc_Device_write : FnScope n_Device_write ["self", "address", "block"] (defScope s_Device_write) := ⟨rfl, rfl, rfl, by decide +kernel, rfl, by decide +kernel, by decide +kernel⟩
abbrev n_Device_barrier : List Str := ["self", "address", "block"]
theorem sc_Device_barrier : FnScope n_Device_barrier ["self"] (defScope s_Device_barrier) := ⟨rfl, rfl, rfl, by decide +kernel, rfl, by decide +kernel, by decide +kernel⟩
abbrev n_Device_cut_after : List Str := ["self", "count"]
theorem sc_Device_cut_after : FnScope n_Device_cut_after ["self", "count"] (defScope s_Device_cut_after) := ⟨rfl, rfl, rfl, by decide +kernel, rfl, by decide +kernel, by decide +kernel⟩
abbrev n_Device_was_cut : List Str := ["self"]
theorem sc_Device_was_cut : FnScope n_Device_was_cut ["self"] (defScope s_Device_was_cut) := ⟨rfl, rfl, rfl, by decide +kernel, rfl, by decide +kernel, by decide +kernel⟩
abbrev n_Device_pending : List Str := ["self"]
theorem sc_Device_pending : FnScope n_Device_pending ["self"] (defScope s_Device_pending) := ⟨rfl, rfl, rfl, by decide +kernel, rfl, by decide +kernel, by decide +kernel⟩
abbrev n_Device_sure_blocks : List Str := ["self"]
theorem sc_Device_sure_blocks : FnScope n_Device_sure_blocks ["self"] (defScope s_Device_sure_blocks) := ⟨rfl, rfl, rfl, by decide +kernel, rfl, by decide +kernel, by decide +kernel⟩
abbrev n_Device_left : List Str := ["self", "kept", "torn", "kept_numbers", "torn_numbers", "blocks", "number", "address", "block"]
theorem sc_Device_left : FnScope n_Device_left ["self", "kept", "torn"] (defScope s_Device_left) := ⟨rfl, rfl, rfl, by decide +kernel, rfl, by decide +kernel, by decide +kernel⟩
abbrev n_Device__takes_place : List Str := ["self"]
theorem sc_Device__takes_place : FnScope n_Device__takes_place ["self"] (defScope s_Device__takes_place) := ⟨rfl, rfl, rfl, by decide +kernel, rfl, by decide +kernel, by decide +kernel⟩
abbrev n_put_block : List Str := ["blocks", "address", "block"]
theorem sc_put_block : FnScope n_put_block ["blocks", "address", "block"] (defScope s_put_block) := ⟨rfl, rfl, rfl, by decide +kernel, rfl, by decide +kernel, by decide +kernel⟩
abbrev n_Layout___init : List Str := ["self", "segments", "segment_blocks", "block_size"]
theorem sc_Layout___init : FnScope n_Layout___init ["self", "segments", "segment_blocks", "block_size"] (defScope s_Layout___init) := ⟨rfl, rfl, rfl, by decide +kernel, rfl, by decide +kernel, by decide +kernel⟩
abbrev n_parts_of : List Str := ["number", "size"]
theorem sc_parts_of : FnScope n_parts_of ["number", "size"] (defScope s_parts_of) := ⟨rfl, rfl, rfl, by decide +kernel, rfl, by decide +kernel, by decide +kernel⟩
abbrev n_law_row : List Str := ["script", "k", "cell", "first", "second"]
theorem sc_law_row : FnScope n_law_row ["script", "k"] (defScope s_law_row) := ⟨rfl, rfl, rfl, by decide +kernel, rfl, by decide +kernel, by decide +kernel⟩
abbrev n_law_digits : List Str := ["row", "sizes", "digits", "size"]
theorem sc_law_digits : FnScope n_law_digits ["row", "sizes"] (defScope s_law_digits) := ⟨rfl, rfl, rfl, by decide +kernel, rfl, by decide +kernel, by decide +kernel⟩
abbrev n_law_layout : List Str := ["row", "choice", "more", "size", "segments", "blocks", "ids"]
theorem sc_law_layout : FnScope n_law_layout ["row"] (defScope s_law_layout) := ⟨rfl, rfl, rfl, by decide +kernel, rfl, by decide +kernel, by decide +kernel⟩
abbrev n_law_block : List Str := ["layout", "row", "sequence", "choice", "rank", "rest", "key"]
theorem sc_law_block : FnScope n_law_block ["layout", "row", "sequence"] (defScope s_law_block) := ⟨rfl, rfl, rfl, by decide +kernel, rfl, by decide +kernel, by decide +kernel⟩
abbrev n_law_left : List Str := ["sure", "waiting", "kept", "torn", "blocks", "k", "address"]
theorem sc_law_left : FnScope n_law_left ["sure", "waiting", "kept", "torn"] (defScope s_law_left) := ⟨rfl, rfl, rfl, by decide +kernel, rfl, by decide +kernel, by decide +kernel⟩
abbrev n_law_choice : List Str := ["script", "at", "most", "numbers", "size", "step", "start", "k"]
theorem sc_law_choice : FnScope n_law_choice ["script", "at", "most"] (defScope s_law_choice) := ⟨rfl, rfl, rfl, by decide +kernel, rfl, by decide +kernel, by decide +kernel⟩
abbrev n_law : List Str := ["script", "layout", "count", "choice", "cut", "size", "rest", "sure", "k", "device", "waiting", "kind", "near", "address", "dark", "block", "kept", "torn", "expected", "passed", "passed_torn", "left", "j"]
theorem sc_law : FnScope n_law ["script"] (defScope s_law) := ⟨rfl, rfl, rfl, by decide +kernel, rfl, by decide +kernel, by decide +kernel⟩
structure Txt (K : PySem.W.Frag) (mg : Str → Option Value) where
  a_Device___init : Addr
  fd_Device___init : FuncData
  a_Device_read : Addr
  fd_Device_read : FuncData
  a_Device_write : Addr
  fd_Device_write : FuncData
  a_Device_barrier : Addr
  fd_Device_barrier : FuncData
  a_Device_cut_after : Addr
  fd_Device_cut_after : FuncData
  a_Device_was_cut : Addr
  fd_Device_was_cut : FuncData
  a_Device_pending : Addr
  fd_Device_pending : FuncData
  a_Device_sure_blocks : Addr
  fd_Device_sure_blocks : FuncData
  a_Device_left : Addr
  fd_Device_left : FuncData
  a_Device__takes_place : Addr
  fd_Device__takes_place : FuncData
  a_put_block : Addr
  fd_put_block : FuncData
  a_Layout___init : Addr
  fd_Layout___init : FuncData
  a_parts_of : Addr
  fd_parts_of : FuncData
  a_law_row : Addr
  fd_law_row : FuncData
  a_law_digits : Addr
  fd_law_digits : FuncData
  a_law_layout : Addr
  fd_law_layout : FuncData
  a_law_block : Addr
  fd_law_block : FuncData
  a_law_left : Addr
  fd_law_left : FuncData
  a_law_choice : Addr
  fd_law_choice : FuncData
  a_law : Addr
  fd_law : FuncData
  A_Device : Addr
  A_Layout : Addr
  a_BLOCK_SIZES : Addr
  t_SUMMARY_HEAD : Tok
  F_Device___init : FunD K "__init__" "Device.__init__" (defArgs s_Device___init) (defBody s_Device___init) (defScope s_Device___init) [V.non] [] a_Device___init fd_Device___init
  b_Device___init : Binds K fd_Device___init ["self", "layout", "blocks"] []
  F_Device_read : Fun K "read" "Device.read" s_Device_read a_Device_read fd_Device_read
  b_Device_read : Binds K fd_Device_read ["self", "address"] []
  me_Device_read : Meth K A_Device "read" a_Device_read
  F_Device_write : Fun K "write" "Device.write" s_Device_write a_Device_write fd_Device_write
  b_Device_write : Binds K fd_Device_write ["self", "address", "block"] []
  me_Device_write : Meth K A_Device "write" a_Device_write
  F_Device_barrier : Fun K "barrier" "Device.barrier" s_Device_barrier a_Device_barrier fd_Device_barrier
  b_Device_barrier : Binds K fd_Device_barrier ["self"] []
  me_Device_barrier : Meth K A_Device "barrier" a_Device_barrier
  F_Device_cut_after : Fun K "cut_after" "Device.cut_after" s_Device_cut_after a_Device_cut_after fd_Device_cut_after
  b_Device_cut_after : Binds K fd_Device_cut_after ["self", "count"] []
  me_Device_cut_after : Meth K A_Device "cut_after" a_Device_cut_after
  F_Device_was_cut : Fun K "was_cut" "Device.was_cut" s_Device_was_cut a_Device_was_cut fd_Device_was_cut
  b_Device_was_cut : Binds K fd_Device_was_cut ["self"] []
  me_Device_was_cut : Meth K A_Device "was_cut" a_Device_was_cut
  F_Device_pending : Fun K "pending" "Device.pending" s_Device_pending a_Device_pending fd_Device_pending
  b_Device_pending : Binds K fd_Device_pending ["self"] []
  me_Device_pending : Meth K A_Device "pending" a_Device_pending
  F_Device_sure_blocks : Fun K "sure_blocks" "Device.sure_blocks" s_Device_sure_blocks a_Device_sure_blocks fd_Device_sure_blocks
  b_Device_sure_blocks : Binds K fd_Device_sure_blocks ["self"] []
  me_Device_sure_blocks : Meth K A_Device "sure_blocks" a_Device_sure_blocks
  e_Device_left_torn : Addr
  z_Device_left_torn : ∀ H : Hp, SqT K H e_Device_left_torn []
  F_Device_left : FunD K "left" "Device.left" (defArgs s_Device_left) (defBody s_Device_left) (defScope s_Device_left) [] [("torn", V.ref e_Device_left_torn)] a_Device_left fd_Device_left
  ds_Device_left_2 : List Value
  v_Device_left_2 : Vals [V.ref e_Device_left_torn] ds_Device_left_2
  b_Device_left_2 : Binds K fd_Device_left ["self", "kept", "torn"] ds_Device_left_2
  kb_Device_left : KBn K fd_Device_left ["self", "kept", "torn"] 2 ["torn"] (fun us ws => us ++ ws) (fun us ws => us ++ ws)
  me_Device_left : Meth K A_Device "left" a_Device_left
  F_Device__takes_place : Fun K "_takes_place" "Device._takes_place" s_Device__takes_place a_Device__takes_place fd_Device__takes_place
  b_Device__takes_place : Binds K fd_Device__takes_place ["self"] []
  me_Device__takes_place : Meth K A_Device "_takes_place" a_Device__takes_place
  F_put_block : Fun K "_put_block" "_put_block" s_put_block a_put_block fd_put_block
  b_put_block : Binds K fd_put_block ["blocks", "address", "block"] []
  m_put_block : mg "_put_block" = some (.ref a_put_block)
  F_Layout___init : Fun K "__init__" "Layout.__init__" s_Layout___init a_Layout___init fd_Layout___init
  b_Layout___init : Binds K fd_Layout___init ["self", "segments", "segment_blocks", "block_size"] []
  F_parts_of : Fun K "parts_of" "parts_of" s_parts_of a_parts_of fd_parts_of
  b_parts_of : Binds K fd_parts_of ["number", "size"] []
  m_parts_of : mg "parts_of" = some (.ref a_parts_of)
  F_law_row : Fun K "_law_row" "_law_row" s_law_row a_law_row fd_law_row
  b_law_row : Binds K fd_law_row ["script", "k"] []
  m_law_row : mg "_law_row" = some (.ref a_law_row)
  F_law_digits : Fun K "_law_digits" "_law_digits" s_law_digits a_law_digits fd_law_digits
  b_law_digits : Binds K fd_law_digits ["row", "sizes"] []
  m_law_digits : mg "_law_digits" = some (.ref a_law_digits)
  F_law_layout : Fun K "_law_layout" "_law_layout" s_law_layout a_law_layout fd_law_layout
  b_law_layout : Binds K fd_law_layout ["row"] []
  m_law_layout : mg "_law_layout" = some (.ref a_law_layout)
  F_law_block : Fun K "_law_block" "_law_block" s_law_block a_law_block fd_law_block
  b_law_block : Binds K fd_law_block ["layout", "row", "sequence"] []
  m_law_block : mg "_law_block" = some (.ref a_law_block)
  F_law_left : Fun K "_law_left" "_law_left" s_law_left a_law_left fd_law_left
  b_law_left : Binds K fd_law_left ["sure", "waiting", "kept", "torn"] []
  m_law_left : mg "_law_left" = some (.ref a_law_left)
  F_law_choice : Fun K "_law_choice" "_law_choice" s_law_choice a_law_choice fd_law_choice
  b_law_choice : Binds K fd_law_choice ["script", "at", "most"] []
  m_law_choice : mg "_law_choice" = some (.ref a_law_choice)
  F_law : Fun K "law" "law" s_law a_law fd_law
  b_law : Binds K fd_law ["script"] []
  m_law : mg "law" = some (.ref a_law)
  m_Device : mg "Device" = some (.ref A_Device)
  cl_Device : Cls K A_Device
  M_Device : Mk K A_Device a_Device___init
  na_Device_layout : NoAttr K A_Device "layout"
  na_Device__sure : NoAttr K A_Device "_sure"
  na_Device__shown : NoAttr K A_Device "_shown"
  na_Device__unsure : NoAttr K A_Device "_unsure"
  na_Device__commands_left : NoAttr K A_Device "_commands_left"
  na_Device__power_is_off : NoAttr K A_Device "_power_is_off"
  m_Layout : mg "Layout" = some (.ref A_Layout)
  cl_Layout : Cls K A_Layout
  M_Layout : Mk K A_Layout a_Layout___init
  na_Layout_segments : NoAttr K A_Layout "segments"
  na_Layout_segment_blocks : NoAttr K A_Layout "segment_blocks"
  na_Layout_block_size : NoAttr K A_Layout "block_size"
  na_Layout_payload : NoAttr K A_Layout "payload"
  na_Layout_limit : NoAttr K A_Layout "limit"
  na_Layout_last_id : NoAttr K A_Layout "last_id"
  na_Layout_fan : NoAttr K A_Layout "fan"
  na_Layout_region_blocks : NoAttr K A_Layout "region_blocks"
  na_Layout_device_blocks : NoAttr K A_Layout "device_blocks"
  c_BLOCK_SIZES : mg "BLOCK_SIZES" = some (.ref a_BLOCK_SIZES)
  r_BLOCK_SIZES : RelV (.ref a_BLOCK_SIZES) (.ref a_BLOCK_SIZES)
  v_BLOCK_SIZES : ∀ H : Hp, SqT K H a_BLOCK_SIZES [.int 64, .int 128, .int 256]
  c_SUMMARY_HEAD : mg "SUMMARY_HEAD" = some (.int 16 t_SUMMARY_HEAD)
  r_SUMMARY_HEAD : RelV (.int 16) (.int 16 t_SUMMARY_HEAD)
  n_enumerate : mg "enumerate" = none
  n_int : mg "int" = none
  n_len : mg "len" = none
  n_list : mg "list" = none
  n_range : mg "range" = none
  n_set : mg "set" = none
  n_tuple : mg "tuple" = none
end Sg
namespace Sg
open PySem L2
local macro_rules | `(tactic| walk_at "size") => `(tactic| first | ((simp only [List.length_append, List.length_cons, List.length_nil, List.length_map, Sg.sz]) <;> omega) | (rw [Sg.sz]; simp <;> omega))
local macro_rules | `(tactic| walk_at "side") => `(tactic| first | rfl | assumption | (show (_ : Int) < _; omega) | omega | (simp only [List.length_map]; omega) | decide | exact Or.inr ⟨by decide, by decide⟩ | exact Or.inl ⟨by decide, by decide⟩ | exact Or.inr ⟨by omega, by omega⟩ | exact Or.inl ⟨by omega, by omega⟩ | exact ⟨by omega, by omega⟩ | exact ⟨by decide, by decide, by decide⟩ | (simp; done))
local macro_rules | `(tactic| walk_at "hp") => `(tactic| first | assumption | (refine' L2.SqT.of ?h1; (case h1 => walk_at "hp")) | (refine' L2.SqL.of ?h1; (case h1 => walk_at "hp")) | (refine' Sg.Same.tup ?h1 ?h2; (case h1 => assumption); (case h2 => walk_at "hp")) | (refine' L2.Same.seq ?h1 ?h2; (case h1 => assumption); (case h2 => walk_at "hp")) | (refine' (show L2.Same _ _ from ?h1) _ _ ?h2; (case h1 => assumption); (case h2 => walk_at "hp")) | (refine' Sg.at_keep ?he ?h1 ?h2 ?h3; (case he => assumption); (case h1 => walk_at "hp"); (case h2 => walk_at "hp"); (case h3 => (intro z; cases z))))
local macro_rules | `(tactic| walk_at "al") => `(tactic| (intro p hn; generalize hH : upd _ _ _ = H'; have hs := Sg.Same.of_new hH hn; have ho := Sg.at_new hH; clear hH))
local macro_rules | `(tactic| walk_at "sm1") => `(tactic| first | (refine' L2.Same.trans ?ha ?hb; (case hb => assumption)) | (refine' Sg.Same.old ?ha ?hb ?hc; (case hc => assumption); (case hb => walk_at "nn")))
local macro_rules | `(tactic| walk_at "sm") => `(tactic| first | exact L2.Same.refl _ | assumption | (walk_at "sm1"; walk_at "sm"))
local macro_rules | `(tactic| walk_at "nn") => `(tactic| first | assumption | ((refine' L2.Same.free ?ha ?hb; (case hb => assumption)); walk_at "sm"))
local macro_rules | `(tactic| walk_at "dp") => `(tactic| first | assumption | exact L2.Dp.int _ | exact L2.Dp.non | exact L2.Dp.bl _ | exact L2.Dp.str _ | (refine' L2.Dp.tup ?ha ?hb; (case ha => walk_at "hp"); (case hb => walk_at "dpa")) | (refine' L2.Dp.lst ?ha ?hb; (case ha => walk_at "hp"); (case hb => walk_at "dpa")))
local macro_rules | `(tactic| walk_at "dpa") => `(tactic| first | assumption | exact L2.DpAll.nil | exact Sg.DpAll.ints _ | (refine' L2.DpAll.cons ?ha ?hb; (case ha => walk_at "dp"); (case hb => walk_at "dpa")))
local macro_rules | `(tactic| walk_at "fl") => `(tactic| first | assumption | exact Sg.Fl.int _ _ | exact Sg.Fl.non _ | exact Sg.Fl.bool _ _ | (refine' Sg.Fl.tup ?ha; (case ha => walk_at "fla")) | (refine' Sg.Fl.lst ?ha; (case ha => walk_at "fla")))
local macro_rules | `(tactic| walk_at "fla") => `(tactic| first | assumption | exact Sg.Fl.nil | exact Sg.Fl.mapi | (refine' Sg.Fl.cons ?ha ?hb; (case ha => walk_at "fl"); (case hb => walk_at "fla")))
local macro_rules | `(tactic| walk_at "tyx") => `(tactic| first | exact L2.TyX.base (L2.TyOf.int _) | exact L2.TyX.base (L2.TyOf.bl _) | exact L2.TyX.base L2.TyOf.non | exact L2.TyX.base (L2.TyOf.str _) | (refine' L2.TyX.base (L2.TyOf.tup ?ha); (case ha => walk_at "hp")) | (refine' L2.TyX.base (L2.TyOf.lst ?ha); (case ha => walk_at "hp")) | (refine' L2.TyX.base (L2.TyOf.frz ?ha); (case ha => walk_at "hp")))
local macro_rules | `(tactic| walk_at "up") => `(tactic| (generalize hH : upd _ _ _ = H'; have ho := Sg.at_new hH))
local macro_rules | `(tactic| walk_at "lk") => `(tactic| first | with_reducible assumption | with_reducible exact Sg.lk_eq | (refine' Sg.lk_ne ?ha ?hb; (case ha => decide +kernel); (case hb => walk_at "lk")) | (refine' Sg.lk_no ?ha ?hb; (case ha => decide +kernel); (case hb => walk_at "lk")) | rfl)
local macro_rules | `(tactic| walk_at "few") => `(tactic| first | assumption | omega | decide | (refine' Nat.lt_of_le_of_lt (Sg.putF_len ?ha) ?hb; (case ha => walk_at "fewi"); (case hb => decide)))
local macro_rules | `(tactic| walk_at "fewi") => `(tactic| first | assumption | (refine' Sg.putF_len ?ha; (case ha => walk_at "fewi")) | exact Nat.le_refl _)
local macro_rules | `(tactic| walk_at "rd1") => `(tactic| with_reducible (first | refine' Sg.r_seq ?_ | refine' Sg.r_asg ?_ | refine' Sg.r_gname ?_ | (refine' Sg.r_var (by with_unfolding_all rfl) ?_) | refine' Sg.r_c ?_ | refine' Sg.r_op ?_ | refine' Sg.r_un ?_ | refine' Sg.r_cb ?_ | refine' Sg.r_cons ?_ | refine' Sg.r_nil ?_ | (refine' Sg.r_mod ?hc ?_; (case hc => (with_unfolding_all walk_at "side")); (intro z hz z0 z1)) | (refine' Sg.r_rI ?hc ?_; (case hc => (with_unfolding_all walk_at "side"))) | refine' Sg.r_rI0 ?_ | refine' Sg.r_rU ?_ | refine' Sg.r_int ?_ | refine' Sg.r_eqi ?_ | refine' Sg.r_nei ?_ | (refine' Sg.r_ixl ?h ?e ?_; (case h => (with_unfolding_all walk_at "hp")); (case e => (with_unfolding_all rfl))) | (refine' Sg.r_ixt ?h ?e ?_; (case h => (with_unfolding_all walk_at "hp")); (case e => (with_unfolding_all rfl))) | (refine' Sg.r_lenl ?h ?_; (case h => (with_unfolding_all walk_at "hp"))) | (refine' Sg.r_lent ?h ?_; (case h => (with_unfolding_all walk_at "hp"))) | refine' Sg.r_test ?_ | refine' Sg.r_exb ?_ | refine' Sg.r_tB ?_ | refine' Sg.r_exbP ?_ | refine' Sg.r_ifs ?_ | refine' Sg.r_and ?_ | refine' Sg.r_or ?_ | refine' Sg.r_not ?_ | refine' Sg.r_andV ?_ | refine' Sg.r_orV ?_ | refine' Sg.r_notV ?_ | refine' Sg.r_tif ?_ | refine' Sg.r_isN ?_ | refine' Sg.r_notN ?_ | refine' Sg.r_ret ?_ | refine' Sg.r_drop ?_ | refine' Sg.r_next ?_ | refine' Sg.r_call ?_ | refine' Sg.r_make ?_ | refine' Sg.r_meth ?_ | refine' Sg.r_fld ?_ | refine' Sg.r_sfld ?_ | refine' Sg.r_chain ?_ | (refine' Sg.r_fldL ?h ?hc ?hn ?hl ?_; (case h => (with_unfolding_all walk_at "hp")); (case hc => assumption); (case hn => assumption); (case hl => (with_unfolding_all walk_at "lk"))) | (refine' Sg.r_sfldL ?h ?hc ?hn ?hl ?_; (case h => (with_unfolding_all walk_at "hp")); (case hc => assumption); (case hn => assumption); (case hl => (with_unfolding_all walk_at "few")); (with_unfolding_all walk_at "up")) | (refine' Sg.r_gunl ?h ?hl ?_; (case h => (with_unfolding_all walk_at "hp")); (case hl => (with_unfolding_all walk_at "side"))) | (refine' Sg.r_gtup ?h ?hl ?_; (case h => (with_unfolding_all walk_at "hp")); (case hl => (with_unfolding_all walk_at "side"))) | (refine' Sg.r_methL ?h ?hl ?_; (case h => (with_unfolding_all walk_at "hp")); (case hl => (with_unfolding_all walk_at "lk"))) | refine' Sg.r_tup ?_ | refine' Sg.r_lst ?_ | (refine' Sg.r_ktup ?hl ?_; (case hl => (with_unfolding_all first | exact Nat.le_of_ble_eq_true rfl | decide)); (with_unfolding_all walk_at "al")) | (refine' Sg.r_klst ?hl ?_; (case hl => (with_unfolding_all first | exact Nat.le_of_ble_eq_true rfl | decide)); (with_unfolding_all walk_at "al")) | (refine' Sg.r_listl ?h ?_; (case h => (with_unfolding_all walk_at "hp")); (with_unfolding_all walk_at "al")) | (refine' Sg.r_listt ?h ?_; (case h => (with_unfolding_all walk_at "hp")); (with_unfolding_all walk_at "al")) | (refine' Sg.r_tupl ?h ?_; (case h => (with_unfolding_all walk_at "hp")); (with_unfolding_all walk_at "al")) | (refine' Sg.r_tupt ?h ?_; (case h => (with_unfolding_all walk_at "hp"))) | (refine' Sg.r_in (.inr ?h) ?fx ?fs ?_; (case h => (with_unfolding_all walk_at "hp")); (case fx => (with_unfolding_all rfl)); (case fs => (with_unfolding_all rfl))) | (refine' Sg.r_in (.inl ?h) ?fx ?fs ?_; (case h => (with_unfolding_all walk_at "hp")); (case fx => (with_unfolding_all rfl)); (case fs => (with_unfolding_all rfl))) | (refine' Sg.r_sorted ?h ?h64 ?_; (case h => (with_unfolding_all walk_at "hp")); (case h64 => (with_unfolding_all walk_at "side")); (intro ns' p perm rising; revert p; (with_unfolding_all walk_at "al"))) | (refine' Sg.r_app ?h ?hl ?_; (case h => (with_unfolding_all walk_at "hp")); (case hl => (with_unfolding_all walk_at "size")); (with_unfolding_all walk_at "up")) | refine' Sg.r_lc ?_ | refine' Sg.r_for ?_ | refine' Sg.r_irng1 ?_ | refine' Sg.r_irng2 ?_ | refine' Sg.r_ilist ?_ | refine' Sg.r_itup ?_ | (refine' Sg.r_kR1 ?h1 ?h2 ?_; (case h1 => (with_unfolding_all walk_at "side")); (case h2 => (with_unfolding_all walk_at "side"))) | (refine' Sg.r_kR2 ?h1 ?_; (case h1 => (with_unfolding_all refine ⟨?_, ?_, ?_, ?_⟩ <;> walk_at "side"))) | (refine' Sg.r_kIl ?h ?_; (case h => (with_unfolding_all walk_at "hp"))) | (refine' Sg.r_kIt ?h ?_; (case h => (with_unfolding_all walk_at "hp"))) | refine' Sg.r_bm ?_ | refine' Sg.r_bm0 ?_ | (refine' Sg.r_tyl ?h ?_; (case h => (with_unfolding_all walk_at "hp"))) | refine' Sg.r_nonR ?_ | refine' Sg.r_nonN ?_ | refine' Sg.r_isR ?_ | refine' Sg.r_isNN ?_ | refine' Sg.r_nonI ?_ | refine' Sg.r_isI ?_ | refine' L2.iteT ?_ | refine' L2.iteF ?_ | refine' Sg.r_gcons ?_ | refine' Sg.r_gnil ?_ | refine' Sg.r_gsub ?_ | refine' Sg.r_isb ?_ | refine' Sg.r_notb ?_ | (refine' Sg.r_aug (by with_unfolding_all rfl) ?_) | refine' Sg.r_ipI ?_ | (refine' Sg.r_isi (b := true) (L2.ClsV.ty _) ?ht ?hk ?_; (case ht => (with_unfolding_all walk_at "tyx")); (case hk => (with_unfolding_all exact L2.kit_ty (by decide +kernel)))) | (refine' Sg.r_isi (b := false) (L2.ClsV.ty _) ?ht ?hk ?_; (case ht => (with_unfolding_all walk_at "tyx")); (case hk => (with_unfolding_all exact L2.kit_ty (by decide +kernel)))) | refine' Sg.r_gmap ?_ | refine' Sg.r_gmapn ?_ | (refine' Sg.r_iteb ?hb ?_; (case hb => (with_unfolding_all rfl))) | (refine' Sg.r_iteB ?hb ?_; (case hb => (with_unfolding_all rfl)))))
local macro_rules | `(tactic| walk_at "rd") => `(tactic| repeat walk_at "rd1")
local macro_rules | `(tactic| walk_at "rdo") => `(tactic| repeat (first | walk_at "rd1" | (with_reducible refine' Sg.r_iteD ?hc ?_; (case hc => first | assumption | omega)) | (with_reducible refine' Sg.r_iteDn ?hc ?_; (case hc => first | assumption | omega)) | (with_reducible refine' Sg.r_iteND ?hc ?_; (case hc => first | assumption | omega)) | (with_reducible refine' Sg.r_iteNDn ?hc ?_; (case hc => first | assumption | omega))))
-- imports: HandS.NoneIn HandS.Defaults HandS.TupMul HandS.Zip HandS.SetFor HandS.Walk HandS.MakeKwOnly
section
variable {P : Program} {w : World} {K : PySem.W.Frag} {mg : Str → Option Value} {base : Heap}
/-! ### numbers drawn from the script -/
def sp_row (K : PySem.W.Frag) : Sp := fun vs H Q _ => ∃ (a : Addr) (ns : List Int) (k : Int), vs = [.ref a, .int k] ∧ SqL K H a (ns.map V.int) ∧ ns.length ≤ 63 ∧ 0 ≤ k ∧ k ≤ 1000 ∧ ∀ z : Int, 0 ≤ z → Q (.int z) H
theorem ok_law_row (T : Txt K mg) : FnOk P w K mg base CX0 1 T.a_law_row T.fd_law_row ["script", "k"] (sp_row K) := by
  refine T.F_law_row.ok sc_law_row (fun vs H Q E h => ?_) (fun cdv A outer s H vs Q E hr h => ?_)
  · obtain ⟨a, ns, k, rfl, _⟩ := h
    rfl
  · refine ⟨_, (pss_cons (ps_set (i := 2) sc_law_row.nd rfl (Or.inl rfl) pe_int)
       (C8.pss_cut (ps_if (pt_cmpR op_gt (pe_callB (c_len) (by rfl) T.n_len (by decide +kernel) (pa_cons (pv 0) pa_nil)) pe_int (nomark _))
       (pss_one (ps_set (i := 2) sc_law_row.nd rfl (Or.inl rfl) (pe_ix ix_list (pv 0) (pe_op op_mod (pe_callTy c_int (by rfl) T.n_int (by decide +kernel) (pa_cons (pv 1) pa_nil)) (pe_callB (c_len) (by rfl) T.n_len (by decide +kernel) (pa_cons (pv 0) pa_nil))) (fun _ _ => rfl))))
       pss_nil)
       (C8.pss_cut (ps_if (pt_cmpR op_lt (pv 2) pe_int (nomark _))
       (pss_one (ps_set (i := 2) sc_law_row.nd rfl (Or.inl rfl) (pe_op op_sub pe_int (pe_op op_mul pe_int (pv 2)))))
       pss_nil)
       (C8.pss_cut (ps_if (PW.pt (pw_and (pt_cmpR op_ge (pv 2) (pe_op op_pow pe_int pe_int) (nomark _)) (pw_and1 (pt_cmpR op_lt (pv 1) (pe_callB (c_len) (by rfl) T.n_len (by decide +kernel) (pa_cons (pv 0) pa_nil)) (nomark _)))))
       (pss_one (ps_ret (pv 2)))
       pss_nil)
       (pss_cons (ps_set (i := 3) sc_law_row.nd rfl (Or.inl rfl) (pe_op op_mod (pe_callTy c_int (by rfl) T.n_int (by decide +kernel) (pa_cons (pe_op op_add (pe_op op_add (pe_op op_mul (pv 2) pe_int) (pe_op op_mul (pe_op op_add (pv 1) pe_int) pe_int)) (pe_callB (c_len) (by rfl) T.n_len (by decide +kernel) (pa_cons (pv 0) pa_nil))) pa_nil)) pe_int))
       (pss_cons (ps_set (i := 4) sc_law_row.nd rfl (Or.inl rfl) (pe_op op_mod (pe_callTy c_int (by rfl) T.n_int (by decide +kernel) (pa_cons (pe_op op_add (pe_op op_add (pe_op op_mul (pv 3) (pv 3)) (pe_op op_mul (pv 2) pe_int)) (pv 1)) pa_nil)) pe_int))
       (pss_one (ps_ret (pe_op op_add (pe_op op_mul (pv 4) pe_int) (pe_op op_mod (pe_callTy c_int (by rfl) T.n_int (by decide +kernel) (pa_cons (pe_op op_mul (pv 3) pe_int) pa_nil)) pe_int)))))))))), ?_⟩
    try dsimp only [cxOf, Cx.nox, Cx.wish]
    obtain ⟨a, ns, k, rfl, hS, h63, k0, k1, q⟩ := h
    walk_at "rd"
    refine r_cut (fun σ' H' => ∃ z : Int, σ' = [some (.ref a), some (.int k), some (.int z), none, none] ∧ H = H') ?_ ?_
    · walk_at "rd"
      refine r_ite (fun hlen => ?_) (fun _ => ?_)
      · rw [List.length_map] at hlen
        walk_at "rd"
        rename_i z hz z0 z1
        rw [List.length_map] at z1
        refine r_ixl hS (v := .int (ns.getD z.toNat 0)) ?_ ?_
        · obtain ⟨n, rfl⟩ := Int.eq_ofNat_of_zero_le z0
          refine atI_nat ?_
          have hn : n < ns.length := by omega
          rw [List.getElem?_map, List.getElem?_eq_getElem hn, List.getD_eq_getElem?_getD, Int.toNat_natCast, List.getElem?_eq_getElem hn]
          rfl
        · walk_at "rd"
          exact ⟨_, rfl, rfl⟩
      · exact ⟨0, rfl, rfl⟩
    · rintro _ _ ⟨z, rfl, rfl⟩
      walk_at "rd"
      refine r_cut (fun σ' H' => ∃ z : Int, 0 ≤ z ∧ σ' = [some (.ref a), some (.int k), some (.int z), none, none] ∧ H = H') ?_ ?_
      · walk_at "rd"
        refine r_ite (fun _ => ?_) (fun _ => ?_)
        · walk_at "rd"
          exact ⟨_, by omega, rfl, rfl⟩
        · exact ⟨_, by omega, rfl, rfl⟩
      · rintro _ _ ⟨y, y0, rfl, rfl⟩
        walk_at "rd"
        refine r_cutS ?_ ?_
        · walk_at "rd"
          refine r_ite (fun _ => ?_) (fun _ => ?_)
          · walk_at "rd"
            refine r_ite (fun _ => ?_) (fun _ => ?_)
            · walk_at "rd"
              exact q _ y0
            · exact ⟨rfl, rfl⟩
          · walk_at "rd"
            exact ⟨rfl, rfl⟩
        · walk_at "rd"
          exact q _ (by omega)
/-- digits by their sizes -/
abbrev Digs (ds ss : List Int) : Prop := Paired (fun (d s : Int) => 0 ≤ d ∧ d < s) ds ss
def sp_digits (K : PySem.W.Frag) : Sp := fun vs H Q _ => ∃ (r : Int) (l : Addr) (ss : List Int), vs = [.int r, .ref l] ∧ SqL K H l (ss.map V.int) ∧ ss.length ≤ 1000 ∧ (∀ s ∈ ss, 0 < s ∧ s < 1073741824) ∧
  ∀ H' d (ds : List Int), Same H H' → H d = none → H' d = some (.lst (ds.map V.int)) → Digs ds ss → Q (.ref d) H'
theorem paired_snoc {α β : Type} {F : α → β → Prop} : ∀ {xs : List α} {ys : List β} {x : α} {y : β}, Paired F xs ys → F x y → Paired F (xs ++ [x]) (ys ++ [y])
  | _, _, _, _, .nil, h => .cons h .nil
  | _, _, _, _, .cons r t, h => .cons r (paired_snoc t h)
theorem ok_law_digits (T : Txt K mg) : FnOk P w K mg base CX0 1 T.a_law_digits T.fd_law_digits ["row", "sizes"] (sp_digits K) := by
  refine T.F_law_digits.ok sc_law_digits (fun vs H Q E h => ?_) (fun cdv A outer s H vs Q E hr h => ?_)
  · obtain ⟨r, l, ss, rfl, _⟩ := h
    rfl
  · refine ⟨_, (pss_cons (ps_set (i := 2) sc_law_digits.nd rfl (Or.inl rfl) (pe_lst pa_nil))
       (pss_cons (ps_for PassesOwn.never rfl (pi_list (pv 1)) (pg_name (i := 3) sc_law_digits.nd rfl (Or.inl rfl))
       (pss_cons (ps_expr (pe_bm PySem.F.plainAttrs_list PySem.F.slot_list_append PySem.F.type_list_append mt_append (pv 2) (pa_cons (pe_op op_mod (pe_callTy c_int (by rfl) T.n_int (by decide +kernel) (pa_cons (pv 0) pa_nil)) (pv 3)) pa_nil)))
       (pss_one (ps_set (i := 0) sc_law_digits.nd rfl (Or.inl rfl) (pe_op op_fdiv (pv 0) (pv 3))))))
       (pss_one (ps_ret (pv 2))))), ?_⟩
    try dsimp only [cxOf, Cx.nox, Cx.wish]
    obtain ⟨r, l, ss, rfl, hS, hlen, hss, q⟩ := h
    walk_at "rd"
    rename_i p hn H1 s1 h1
    refine r_forL (xs := ss.map V.int) (fun i σ' H' => ∃ (z : Int) (ds : List Int) (v : Option V), σ' = [some (.int z), some (.ref l), some (.ref p), v] ∧ Same H H' ∧ H' p = some (.lst (ds.map V.int)) ∧ Digs ds (ss.take i)) ?_ ?_ ?_ ?_
    · exact ⟨r, [], none, rfl, s1, h1, .nil⟩
    · rintro i σ' H' _ ⟨z, ds, v, rfl, s2, h2, hd⟩
      exact s2.seq hS
    · rintro i x σ' H' hx ⟨z, ds, v, rfl, s2, h2, hd⟩
      rw [List.getElem?_map] at hx
      obtain ⟨y, hy, rfl⟩ := Option.map_eq_some_iff.mp hx
      obtain ⟨y0, y1⟩ := hss y (List.mem_of_getElem? hy)
      have hdl : ds.length ≤ 1000 := by
        rw [Paired.length hd, List.length_take]
        omega
      walk_at "rd"
      rename_i d hd1 d0 d1 H3 e3 h3
      refine ⟨_, ds ++ [d], _, rfl, Sg.Same.old s2 hn e3, ?_, ?_⟩
      · rw [h3, List.map_append]
        rfl
      · have e : ss.take (i + 1) = ss.take i ++ [y] := by rw [List.take_add_one, hy]; rfl
        rw [e]
        exact paired_snoc hd ⟨d0, d1⟩
    · rintro σ' H' ⟨z, ds, v, rfl, s2, h2, hd⟩
      rw [List.length_map, List.take_length] at hd
      walk_at "rd"
      exact q _ _ _ s2 hn h2 hd
def sp_parts_of : Sp := fun vs H Q _ => ∃ n s : Int, vs = [.int n, .int s] ∧ 0 < s ∧ s < 1073741824 ∧ Q (.int ((n + s - 1) / s)) H
theorem ok_parts_of (T : Txt K mg) : FnOk P w K mg base CX0 1 T.a_parts_of T.fd_parts_of ["number", "size"] sp_parts_of := by
  refine T.F_parts_of.ok sc_parts_of (fun vs H Q E h => ?_) (fun cdv A outer s H vs Q E hr h => ?_)
  · obtain ⟨n, s, rfl, _⟩ := h
    rfl
  · refine ⟨_, (pss_one (ps_ret (pe_op op_fdiv (pe_op op_sub (pe_op op_add (pv 0) (pv 1)) pe_int) (pv 1)))), ?_⟩
    try dsimp only [cxOf, Cx.nox, Cx.wish]
    obtain ⟨n, s, rfl, h1, h2, q⟩ := h
    walk_at "rd"
    exact q
/-! ### layouts -/
/-- the numbers of a layout -/
structure Lay where
  seg : Int
  blk : Int
  size : Int
  pay : Int
  lim : Int
  last : Int
  fan : Int
  reg : Int
  dev : Int
def layOf (s b z : Int) : Lay := ⟨s, b, z, b - 1, (s - 2) * (b - 1), (s - 2) * (b - 1) + (b - 1), z / 2, (2 * (4 * ((s - 2) * (b - 1) + (b - 1)) + 6 + s) + z - 1) / z, 2 * ((2 * (4 * ((s - 2) * (b - 1) + (b - 1)) + 6 + s) + z - 1) / z) + s * b⟩
/-- three sizes that a layout can have -/
structure Fits (s b z : Int) : Prop where
  s0 : 4 ≤ s
  s1 : s ≤ 16
  b0 : 16 ≤ b
  b1 : b ≤ 32
  zz : z = 64 ∨ z = 128 ∨ z = 256
  fit : 16 + 2 * (b - 1) + ((s - 2) * (b - 1) + (b - 1) + 8 - 1) / 8 ≤ z
/-- the fields of a layout -/
structure LayFs (L : Lay) (fs : List (Str × V)) : Prop where
  seg : fs.lookup ("segments" : Str) = some (V.int L.seg)
  blk : fs.lookup ("segment_blocks" : Str) = some (V.int L.blk)
  size : fs.lookup ("block_size" : Str) = some (V.int L.size)
  pay : fs.lookup ("payload" : Str) = some (V.int L.pay)
  lim : fs.lookup ("limit" : Str) = some (V.int L.lim)
  last : fs.lookup ("last_id" : Str) = some (V.int L.last)
  fan : fs.lookup ("fan" : Str) = some (V.int L.fan)
  reg : fs.lookup ("region_blocks" : Str) = some (V.int L.reg)
  dev : fs.lookup ("device_blocks" : Str) = some (V.int L.dev)
def LayAt (C : Addr) (L : Lay) (H : Hp) (p : Addr) : Prop := ∃ dx fs, H p = some (.ins C dx fs) ∧ LayFs L fs
theorem LayAt.mono {C : Addr} {L : Lay} {H H' : Hp} {p : Addr} (s : Same H H') (h : LayAt C L H p) : LayAt C L H' p := by
  obtain ⟨dx, fs, h1, h2⟩ := h
  exact ⟨dx, fs, s _ _ h1, h2⟩
def sp_layout (C : Addr) : Sp := fun vs H Q _ => ∃ (p dx : Addr) (s b z : Int), vs = [.ref p, .int s, .int b, .int z] ∧ H p = some (.ins C dx []) ∧ Fits s b z ∧
  ∀ H' fs, (∀ q, q ≠ p → H' q = H q) → H' p = some (.ins C dx fs) → LayFs (layOf s b z) fs → Q .non H'
theorem in_sizes {z : Int} (h : z = 64 ∨ z = 128 ∨ z = 256) : (!inV (V.int z) [V.int 64, V.int 128, V.int 256]) = false := by
  rcases h with rfl | rfl | rfl <;> decide
theorem keep1 {H H1 H' : Hp} {p : Addr} {o : HO} (h : ∀ q, q ≠ p → H1 q = H q) (e : upd H1 p o = H') : ∀ q, q ≠ p → H' q = H q := fun q hq => by
  rw [← e, upd_ne hq]
  exact h q hq
theorem ok_Layout___init (T : Txt K mg) : FnOk P w K mg base CX0 2 T.a_Layout___init T.fd_Layout___init ["self", "segments", "segment_blocks", "block_size"] (sp_layout T.A_Layout) := by
  refine T.F_Layout___init.ok sc_Layout___init (fun vs H Q E h => ?_) (fun cdv A outer s H vs Q E hr h => ?_)
  · obtain ⟨p, dx, s, b, z, rfl, _⟩ := h
    rfl
  · refine ⟨_, (pss_cons (ps_if (pt_not (pt_chain op_le op_le pe_int (pv 1) pe_int))
       (pss_one ps_never)
       pss_nil)
       (pss_cons (ps_if (pt_not (pt_chain op_le op_le pe_int (pv 2) pe_int))
       (pss_one ps_never)
       pss_nil)
       (pss_cons (ps_if (pt_cmpR op_notIn_seq (pv 3) (pe_glob rfl T.c_BLOCK_SIZES T.r_BLOCK_SIZES) (by with_unfolding_all rfl))
       (pss_one ps_never)
       pss_nil)
       (pss_cons (ps_fld (pv 0) (pv 1) rfl)
       (pss_cons (ps_fld (pv 0) (pv 2) rfl)
       (pss_cons (ps_fld (pv 0) (pv 3) rfl)
       (pss_cons (ps_fld (pv 0) (pe_op op_sub (pv 2) pe_int) rfl)
       (pss_cons (ps_fld (pv 0) (pe_op op_mul (pe_op op_sub (pv 1) pe_int) (pe_fld (pv 0) rfl)) rfl)
       (pss_cons (ps_fld (pv 0) (pe_op op_add (pe_fld (pv 0) rfl) (pe_fld (pv 0) rfl)) rfl)
       (pss_cons (ps_fld (pv 0) (pe_op op_fdiv (pv 3) pe_int) rfl)
       (pss_cons (ps_fld (pv 0) (pe_call (ok_parts_of T) (hr.mono (by decide)) rfl T.m_parts_of T.F_parts_of.kp T.b_parts_of .nil pass0 (pa_cons (pe_op op_mul pe_int (pe_op op_add (pe_op op_add (pe_op op_mul pe_int (pe_fld (pv 0) rfl)) pe_int) (pv 1))) (pa_cons (pv 3) pa_nil))) rfl)
       (pss_cons (ps_fld (pv 0) (pe_op op_add (pe_op op_mul pe_int (pe_fld (pv 0) rfl)) (pe_op op_mul (pv 1) (pv 2))) rfl)
       (pss_one (ps_if (pt_cmpR op_gt (pe_op op_add (pe_op op_add (pe_glob rfl T.c_SUMMARY_HEAD T.r_SUMMARY_HEAD) (pe_op op_mul pe_int (pe_fld (pv 0) rfl))) (pe_call (ok_parts_of T) (hr.mono (by decide)) rfl T.m_parts_of T.F_parts_of.kp T.b_parts_of .nil pass0 (pa_cons (pe_fld (pv 0) rfl) (pa_cons pe_int pa_nil)))) (pv 3) (nomark _))
       (pss_one ps_never)
       pss_nil)))))))))))))), ?_⟩
    try dsimp only [cxOf, Cx.nox, Cx.wish]
    obtain ⟨p, dx, s, b, z, rfl, hp, hF, q⟩ := h
    obtain ⟨s0, s1, b0, b1, hz, fit⟩ := hF
    have cl := T.cl_Layout
    have na1 := T.na_Layout_segments
    have na2 := T.na_Layout_segment_blocks
    have na3 := T.na_Layout_block_size
    have na4 := T.na_Layout_payload
    have na5 := T.na_Layout_limit
    have na6 := T.na_Layout_last_id
    have na7 := T.na_Layout_fan
    have na8 := T.na_Layout_region_blocks
    have na9 := T.na_Layout_device_blocks
    walk_at "rdo"
    refine r_in (.inr (T.v_BLOCK_SIZES _)) rfl rfl ?_
    walk_at "rd"
    refine r_iteB (in_sizes hz) ?_
    walk_at "rdo"
    refine ⟨_, _, rfl, by omega, by omega, ?_⟩
    walk_at "rdo"
    refine ⟨_, _, rfl, by omega, by omega, ?_⟩
    walk_at "rdo"
    refine q _ _ ?kk (by walk_at "hp") ⟨by walk_at "lk", by walk_at "lk", by walk_at "lk", by walk_at "lk", by walk_at "lk", by walk_at "lk", by walk_at "lk", by walk_at "lk", by walk_at "lk"⟩
    case kk =>
      repeat (refine keep1 ?_ (by assumption))
      exact fun _ _ => rfl
/-- the sizes of a law's layout -/
def sp_lawlay (C : Addr) : Sp := fun vs H Q _ => ∃ r : Int, vs = [.int r] ∧ ∀ (s b z : Int) (H' : Hp) (p : Addr), Fits s b z → Same H H' → H p = none → LayAt C (layOf s b z) H' p → Q (.ref p) H'
theorem made_same {H H1 : Hp} {x dx : Addr} {o : HO} (nx : H x = none) (nd : H dx = none) (k : ∀ q, q ≠ x → H1 q = upd (upd H dx (.own x)) x o q) : Same H H1 := fun b u e => by
  rw [k b (ne_of_none e nx), upd_ne (ne_of_none e nx), upd_ne (ne_of_none e nd)]
  exact e
theorem ok_law_layout (T : Txt K mg) : FnOk P w K mg base CX0 4 T.a_law_layout T.fd_law_layout ["row"] (sp_lawlay T.A_Layout) := by
  refine T.F_law_layout.ok sc_law_layout (fun vs H Q E h => ?_) (fun cdv A outer s H vs Q E hr h => ?_)
  · obtain ⟨r, rfl, _⟩ := h
    rfl
  · refine ⟨_, (pss_cons (ps_asg (pe_call (ok_law_digits T) (hr.mono (by decide)) rfl T.m_law_digits T.F_law_digits.kp T.b_law_digits .nil pass0 (pa_cons (pv 0) (pa_cons (pe_lst (pa_cons pe_int (pa_cons pe_int (pa_cons pe_int (pa_cons pe_int (pa_cons pe_int pa_nil)))))) pa_nil))) (pg_unl (by rfl) (pgs_cons (pg_name (i := 1) sc_law_layout.nd rfl (Or.inl rfl)) (pgs_cons (pg_name (i := 2) sc_law_layout.nd rfl (Or.inl rfl)) (pgs_cons (pg_name (i := 3) sc_law_layout.nd rfl (Or.inl rfl)) (pgs_cons (pg_name (i := 4) sc_law_layout.nd rfl (Or.inl rfl)) (pgs_cons (pg_name (i := 5) sc_law_layout.nd rfl (Or.inl rfl)) pgs_nil)))))))
       (C8.pss_cut (ps_if (pt_cmpR op_eq (pv 1) pe_int (nomark _))
       (pss_cons (ps_set (i := 4) sc_law_layout.nd rfl (Or.inl rfl) (pe_op op_add pe_int (pv 4)))
       (pss_cons (ps_set (i := 5) sc_law_layout.nd rfl (Or.inl rfl) (pe_op op_add pe_int (pv 5)))
       (pss_one (ps_set (i := 3) sc_law_layout.nd rfl (Or.inl rfl) (pe_ix ix_list (pe_lst (pa_cons pe_int (pa_cons pe_int (pa_cons pe_int pa_nil)))) (pv 3) (fun _ _ => rfl))))))
       (pss_cons (ps_set (i := 4) sc_law_layout.nd rfl (Or.inl rfl) (pe_op op_add pe_int (pe_op op_mul (pv 2) (pe_op op_fdiv (pv 1) pe_int))))
       (pss_cons (ps_set (i := 5) sc_law_layout.nd rfl (Or.inl rfl) pe_int)
       (pss_one (ps_set (i := 3) sc_law_layout.nd rfl (Or.inl rfl) pe_int)))))
       (pss_cons (ps_set (i := 6) sc_law_layout.nd rfl (Or.inl rfl) (pe_op op_mul (pe_op op_sub (pv 4) pe_int) (pe_op op_sub (pv 5) pe_int)))
       (pss_cons (ps_if (pt_cmpR op_gt (pe_op op_add (pe_op op_add pe_int (pe_op op_mul pe_int (pe_op op_sub (pv 5) pe_int))) (pe_op op_fdiv (pe_op op_add (pv 6) pe_int) pe_int)) (pv 3) (nomark _))
       (pss_one (ps_ret (pe_make T.M_Layout (ok_Layout___init T) (hr.mono (by decide)) rfl T.m_Layout T.b_Layout___init .nil pass0 (pa_cons pe_int (pa_cons pe_int (pa_cons pe_int pa_nil))))))
       pss_nil)
       (pss_one (ps_ret (pe_make T.M_Layout (ok_Layout___init T) (hr.mono (by decide)) rfl T.m_Layout T.b_Layout___init .nil pass0 (pa_cons (pv 4) (pa_cons (pv 5) (pa_cons (pv 3) pa_nil)))))))))), ?_⟩
    try dsimp only [cxOf, Cx.nox, Cx.wish]
    obtain ⟨r, rfl, q⟩ := h
    walk_at "rd"
    refine ⟨_, _, [4, 3, 3, 13, 17], rfl, by walk_at "hp", by decide, by decide, fun H1 d ds s1 n1 h1 hd => ?_⟩
    obtain _ | ⟨⟨c0, c1⟩, _ | ⟨⟨m0, m1⟩, _ | ⟨⟨z0, z1⟩, _ | ⟨⟨g0, g1⟩, _ | ⟨⟨b0, b1⟩, _ | _⟩⟩⟩⟩⟩ := hd
    rename_i choice more size segments blocks
    walk_at "rd"
    refine r_cut (fun σ' H' => ∃ s b z : Int, 4 ≤ s ∧ s ≤ 16 ∧ 16 ≤ b ∧ b ≤ 32 ∧ (z = 64 ∨ z = 128 ∨ z = 256) ∧ σ' = [some (.int r), some (.int choice), some (.int more), some (.int z), some (.int s), some (.int b), none] ∧ Same H1 H') ?_ ?_
    · walk_at "rd"
      refine r_ite (fun e => ?_) (fun _ => ?_)
      · walk_at "rd"
        have e3 : size = 0 ∨ size = 1 ∨ size = 2 := by omega
        rcases e3 with rfl | rfl | rfl
        · refine r_ixl (by walk_at "hp") rfl ?_
          walk_at "rd"
          exact ⟨_, _, _, by omega, by omega, by omega, by omega, .inl rfl, rfl, by walk_at "sm"⟩
        · refine r_ixl (by walk_at "hp") rfl ?_
          walk_at "rd"
          exact ⟨_, _, _, by omega, by omega, by omega, by omega, .inr (.inl rfl), rfl, by walk_at "sm"⟩
        · refine r_ixl (by walk_at "hp") rfl ?_
          walk_at "rd"
          exact ⟨_, _, _, by omega, by omega, by omega, by omega, .inr (.inr rfl), rfl, by walk_at "sm"⟩
      · walk_at "rd"
        have hc : choice / 2 = 0 ∨ choice / 2 = 1 := by omega
        rcases hc with hc | hc <;> rw [hc] <;> exact ⟨_, _, _, by omega, by omega, by omega, by omega, .inl rfl, rfl, by walk_at "sm"⟩
    rintro _ H2 ⟨s, b, z, s0, s1', b0', b1', hz, rfl, s2⟩
    walk_at "rd"
    have en : (s - 2) * (b - 1) + (b - 1) = (s - 1) * (b - 1) := by
      have e : s - 1 = (s - 2) + 1 := by omega
      rw [e, Int.add_mul, Int.one_mul]
    refine r_ite (fun _ => ?_) (fun hle => ?_)
    · walk_at "rd"
      intro x dx nx nd ne
      have hF : Fits 4 16 64 := ⟨by decide, by decide, by decide, by decide, .inl rfl, by decide⟩
      refine ⟨x, dx, _, _, _, rfl, upd_same, hF, fun H3 fs k h3 hL => ⟨rfl, ?_⟩⟩
      have s3 := made_same nx nd k
      exact q _ _ _ _ _ hF (by walk_at "sm") (by walk_at "nn") ⟨_, _, h3, hL⟩
    · walk_at "rd"
      intro x dx nx nd ne
      have hF : Fits s b z := ⟨s0, s1', b0', b1', hz, by rw [en]; omega⟩
      refine ⟨x, dx, _, _, _, rfl, upd_same, hF, fun H3 fs k h3 hL => ⟨rfl, ?_⟩⟩
      have s3 := made_same nx nd k
      exact q _ _ _ _ _ hF (by walk_at "sm") (by walk_at "nn") ⟨_, _, h3, hL⟩

/-- a def with defaults that lets nothing out (its loops) -/
theorem fund_okN {P : Program} {w : World} {K : PySem.W.Frag} {mg : Str → Option Value} {base : Heap} {x qual : Str} {params : Arguments} {body : List Stmt} {scope : Scope} {dvs : List V} {kws : List (Str × V)} {f : Addr} {fd : FuncData} {N ps : List Str} {k : Nat} {sp : Sp}
    (F : FunD K x qual params body scope dvs kws f fd) (S : FnScope N ps scope) (len : ∀ vs H Q E, sp vs H Q E → vs.length = ps.length)
    (hbody : ∀ (cdv : Value) (A : Around) (outer : List Env) (s : Shared) (H : Hp) (vs : List V) (Q : VK) (E : XK), Room k (A.deeper (PyProof.Rows.envOfC qual scope s.heap.objs.size f cdv)) → sp vs H Q E →
      ∃ t, PSs (cxOf CX0 P w K mg base N qual scope f cdv A outer s H E).nox body t ∧ t { nx := fun _ H' => Q .non H', rt := Q } (start N vs) H) : FnOk P w K mg base CX0 (k + 1) f fd ps sp :=
  F.ok (CX := CX0) S len fun cdv A outer s H vs Q E hr hsp => by
    obtain ⟨t, h, q⟩ := hbody cdv A outer s H vs Q E hr hsp
    exact ⟨t, h.nox, q⟩
/-! ### sets of ints: made of a list or a tuple, asked -/
theorem firstMet_mem (ns : List Int) (k : Int) : ∀ i, i ≤ ns.length → (PyProof.Rows.firstMet (fun i => ns.getD i 0) i).any (· == k) = decide (k ∈ ns.take i)
  | 0, _ => by simp [PyProof.Rows.firstMet_zero]
  | i + 1, h => by
    have hi : i < ns.length := by omega
    have e2 : ns.getD i 0 = ns[i] := by rw [List.getD_eq_getElem?_getD, List.getElem?_eq_getElem hi]; rfl
    have e3 : ns.take (i + 1) = ns.take i ++ [ns[i]] := by rw [List.take_add_one, List.getElem?_eq_getElem hi]; rfl
    rw [PyProof.Rows.firstMet_succ, PyProof.Rows.step_any, firstMet_mem ns k i (by omega), e2, e3]
    rw [Bool.eq_iff_iff]
    simp only [decide_eq_true_eq, Bool.or_eq_true, List.mem_append, List.mem_singleton]
def rSetOf (K : PySem.W.Frag) : List V → Hp → (V → Hp → Prop) → Prop := fun xs H Q => ∃ (l : Addr) (ns : List Int), xs = [.ref l] ∧ (SqL K H l (ns.map V.int) ∨ SqT K H l (ns.map V.int)) ∧ ns.length ≤ 4000 ∧ ∀ (p : Addr) (c : Nat), H p = none → Q (.ref p) (upd H p (.set (fun k => decide (k ∈ ns)) c))
theorem c_set {X : Cx} (hc : X.calm = true) : CallR X (.type "set") (rSetOf X.K) := by
  intro pins s σ H xs us Q I r h
  obtain ⟨l, ns, rfl, hq, hl, q⟩ := h
  obtain ⟨u, rfl, rx⟩ := vals1 r
  cases rx
  have hd := I.ok.hd hc
  rcases hq with hq | hq
  · obtain ⟨its, rv, pl, hz⟩ := I.list hq
    have hlen : its.toArray.size = ns.length := by rw [List.size_toArray, ← rv.length, List.length_map]
    refine PySem.call_set_list hd pl.isList (by simpa using RZ.intsAre_vals rv) (by rw [hlen]; unfold scanBound; omega) fun h' tk hS hk => ?_
    have hS' := PyProof.Rows.SetOf_congr (S' := fun k => decide (k ∈ ns)) hS (fun k => by rw [hlen, firstMet_mem ns k ns.length (Nat.le_refl _), List.take_length]) rfl
    exact ⟨.ref _, upd H s.heap.objs.size (.set (fun k => decide (k ∈ ns)) _), I.laid (t' := tk) (fun b o e => hk b o (Heap.lt_size e) e) (Nat.le_refl _) hS', rfl, q _ _ (I.hok.fresh (Nat.le_refl _))⟩
  · obtain ⟨its, rv, pt, hz⟩ := I.tuple hq
    refine call_set_tupI ns hd (show s.heap.IsTuple l its.toArray from pt) (by simpa using ints_of_vals rv) (by unfold scanBound; omega) fun h' tk c R1 hcn k => ?_
    exact ⟨.ref _, upd H s.heap.objs.size (.set (fun k => decide (k ∈ ns)) c), I.laid (t' := tk) k (Nat.le_refl _) R1.setOf, rfl, q _ _ (I.hok.fresh (Nat.le_refl _))⟩
def rInS : V → V → Hp → (V → Hp → Prop) → Prop := fun x y H Q => ∃ (k : Int) (a : Addr) (S : Int → Bool) (n : Nat), x = V.int k ∧ y = V.ref a ∧ H a = some (.set S n) ∧ Q (.bl (S k)) H
theorem or_inS {X : Cx} : OpR X (compareOp .In) rInS := by
  intro pins s σ H x y v u Q I rx ry h
  obtain ⟨k, a, S, n, rfl, rfl, ha, q⟩ := h
  obtain ⟨tk, rfl⟩ := rx
  cases ry
  exact wpAny_inSet_of (intKind_is _ _ _ _) rfl (I.hok a _ ha) ⟨.bl (S k), H, I.tok _, rfl, q⟩
theorem r_setOf {K : PySem.W.Frag} {l : Addr} {H : Hp} {Q : V → Hp → Prop} (ns : List Int) (h : SqL K H l (ns.map V.int) ∨ SqT K H l (ns.map V.int)) (hl : ns.length ≤ 4000) (q : ∀ (p : Addr) (c : Nat), H p = none → Q (.ref p) (upd H p (.set (fun k => decide (k ∈ ns)) c))) : rSetOf K [.ref l] H Q := ⟨l, ns, rfl, h, hl, q⟩
theorem r_inS {k : Int} {a : Addr} {S : Int → Bool} {n : Nat} {H : Hp} {Q : V → Hp → Prop} (h : H a = some (.set S n)) (q : Q (.bl (S k)) H) : rInS (.int k) (.ref a) H Q := ⟨k, a, S, n, rfl, rfl, h, q⟩
/-! ### enumerate of a list -/
def kIe (K : PySem.W.Frag) (R : It → Hp → Prop) : List V → Hp → Prop := fun vs H1 => ∃ a xs, vs = [.ref a] ∧ SqL K H1 a xs ∧ R (Ite K a) H1
theorem r_ienum {K : PySem.W.Frag} {ta : TA} {σ : L2.St} {H : Hp} {R : It → Hp → Prop} (h : ta σ H (kIe K R)) : iEnum K ta σ H R := h
theorem r_kIe {K : PySem.W.Frag} {a : Addr} {xs : List V} {H : Hp} {R : It → Hp → Prop} (h1 : SqL K H a xs) (h : R (Ite K a) H) : kIe K R [.ref a] H := ⟨a, xs, rfl, h1, h⟩
theorem r_forE {K : PySem.W.Frag} {a : Addr} {xs : List V} {σ : L2.St} {H : Hp} {D : Ends} {g : TG} {tb : TS} (Pv : Nat → L2.St → Hp → Prop) (h0 : Pv 0 σ H) (hl : ∀ i σ H, i ≤ xs.length → Pv i σ H → SqL K H a xs)
    (hs : ∀ (i : Nat) (x : V) (σ : L2.St) (H H' : Hp) (T : Addr), xs[i]? = some x → Pv i σ H → H T = none → upd H T (.tup [.int (i : Nat), x]) = H' → g (.ref T) σ H' fun σ2 H2 => tb { D with nx := Pv (i + 1), ct := Pv (i + 1), bk := D.nx } σ2 H2)
    (hd : ∀ σ H, Pv xs.length σ H → D.nx σ H) : kFor g tb D σ (Ite K a) H :=
  for_it walk_enum Pv h0 hl (fun i x σ H H' hlt p y => by
    obtain ⟨T, z, w, e1, e2, e3, e4, e5⟩ := y
    cases e4
    rw [e1]
    exact hs i w σ H H' T e5 p e2 e3.symm) hd

/-! ### a method called with a keyword -/
def tMethN (C : Addr) (m : Str) (n mm : Nat) (sp : Sp) (gV : List V → List V → List V) (E : XK) (ta : TE) (t tk : TA) : TE := fun σ H Q => ta σ H fun x H1 => ∃ a dx fs, x = .ref a ∧ H1 a = some (.ins C dx fs) ∧ fs.lookup m = none ∧
  t σ H1 fun vs H2 => tk σ H2 fun zs H3 => vs.length = n ∧ zs.length = mm ∧ sp (gV (x :: vs) zs) H3 Q E
theorem pe_methN {X : Cx} {CX : CXT} {k n : Nat} {f C : Addr} {fd : FuncData} {ps ks : List Str} {sp : Sp} {E : XK} {o e : Expr} {m : Str} {apos pos : Pos} {es : List Expr} {kws : List Keyword} {ta : TE} {t tk : TA} {g : List Value → List Value → List Value} {gV : List V → List V → List V} {pl : Sem Bool}
    (he : PE X o ta) (c : Cls X.K C) (hm : Meth X.K C m f) (F : FnOk X.prog X.w X.K X.mg X.base CX k f fd ps sp) (hr : Room k X.A) (hb : KBn X.K fd ps (n + 1) ks g gV) (hx : Passes CX X E) (ha : PA X (e :: es) t) (hkw : PK X kws tk)
    (hall : (backToKw pos (keywordEach kws X.env)).all (·.1.isSome) = true := by rfl) (hks : (backToKw pos (keywordEach kws X.env)).filterMap (·.1) = ks := by rfl)
    (hst : starEach (e :: es) X.env = (false, eval e X.env) :: starEach es X.env := by rfl) (hpl : ((backTo pos (starEach (e :: es) X.env)).any (·.1) || (backToKw pos (keywordEach kws X.env)).any (·.1.isNone)) = false := by rfl)
    (ht : eval (.Call (.Attribute o m apos) (e :: es) kws pos) X.env = (do
      let ov ← eval o X.env
      standAt apos.atName
      let (f, first) ← holding [ov] (getMethod ov m pl)
      callWith pos f first (backTo pos (starEach (e :: es) X.env)) (backToKw pos (keywordEach kws X.env))) := by rfl) :
    PE X (.Call (.Attribute o m apos) (e :: es) kws pos) (tMethN C m n ks.length sp gV E ta t tk) := by
  refine ⟨fun pins s σ H Q I h => ?_⟩
  refine PySem.W.methodCall_KW (pl := pl) (thn (he.run pins s σ H _ I h) fun u s1 ⟨x, H1, I1, rx, a, dx, fs, ex, ea, l, q⟩ => ?_) ht
  subst ex
  obtain rfl : u = Value.ref a := rx
  refine getmeth_ok I1 ea c hm l ?_
  refine PySem.W.callWith_KW (first := [.ref a]) (h₀ := X.base) I.ok.mod.kin hm.kp hall (thn (ha.run pos pins s1 σ H1 _ I1 q) fun us s2 ⟨vs, H2, I2, r, q2⟩ => ?_) hpl hst
  refine thn (hkw.run pos pins s2 σ H2 _ I2 q2) fun ws s3 ⟨zs, H3, I3, rz, l1, l2, q3⟩ => ⟨I3.kIn, ?_⟩
  rw [hks]
  exact run_fnN (us := .ref a :: us) (vs := .ref a :: vs) F hr hb hx I3 (.cons rfl r) rz (by rw [List.length_cons, l1]) l2 q3
def kMethN (C : Addr) (m : Str) (n mm : Nat) (sp : Sp) (gV : List V → List V → List V) (E : XK) (σ : L2.St) (t tk : TA) (Q : V → Hp → Prop) : V → Hp → Prop := fun x H1 => ∃ a dx fs, x = .ref a ∧ H1 a = some (.ins C dx fs) ∧ fs.lookup m = none ∧
  t σ H1 fun vs H2 => tk σ H2 fun zs H3 => vs.length = n ∧ zs.length = mm ∧ sp (gV (x :: vs) zs) H3 Q E
theorem r_methN {C : Addr} {m : Str} {n mm : Nat} {sp : Sp} {gV : List V → List V → List V} {E : XK} {ta : TE} {t tk : TA} {σ : L2.St} {H : Hp} {Q : V → Hp → Prop} (h : ta σ H (kMethN C m n mm sp gV E σ t tk Q)) : tMethN C m n mm sp gV E ta t tk σ H Q := h
theorem r_methNL {C : Addr} {dx a : Addr} {fs : List (Str × V)} {m : Str} {n mm : Nat} {sp : Sp} {gV : List V → List V → List V} {E : XK} {t tk : TA} {σ : L2.St} {H : Hp} {Q : V → Hp → Prop} (h : H a = some (.ins C dx fs)) (hl : fs.lookup m = none)
    (q : t σ H fun vs H2 => tk σ H2 fun zs H3 => vs.length = n ∧ zs.length = mm ∧ sp (gV (.ref a :: vs) zs) H3 Q E) : kMethN C m n mm sp gV E σ t tk Q (.ref a) H := ⟨a, dx, fs, rfl, h, hl, q⟩

theorem paired_at {α β : Type} {F : α → β → Prop} : ∀ {xs : List α} {ys : List β} {i : Nat} {x : α}, Paired F xs ys → xs[i]? = some x → ∃ y, ys[i]? = some y ∧ F x y
  | _, _, _, _, .nil, e => by simp at e
  | _, _, 0, _, .cons r t, e => by simp at e; subst e; exact ⟨_, rfl, r⟩
  | _, _, i + 1, _, .cons r t, e => by
    obtain ⟨y, e1, h1⟩ := paired_at (i := i) t (by simpa using e)
    exact ⟨y, by simpa using e1, h1⟩
/-! ### what stays: tuples, and what is frozen -/
def Fixed : HO → Prop
  | .tup _ => True
  | .frz _ _ => True
  | _ => False
def Keeps (H H' : Hp) : Prop := ∀ b o, Fixed o → H b = some o → H' b = some o
theorem Keeps.refl (H : Hp) : Keeps H H := fun _ _ _ h => h
theorem Keeps.trans {H H1 H2 : Hp} (a : Keeps H H1) (b : Keeps H1 H2) : Keeps H H2 := fun c o f h => b c o f (a c o f h)
theorem Keeps.of {H H' : Hp} (s : Same H H') : Keeps H H' := fun b o _ h => s b o h
theorem Keeps.upd {H H' : Hp} {l : Addr} {o ol : HO} (h : H l = some ol) (n : ¬ Fixed ol) (e : L2.upd H l o = H') : Keeps H H' := fun b u f q => by
  rw [← e, upd_ne]
  · exact q
  · rintro rfl
    rw [h] at q
    cases q
    exact n f
theorem Keeps.tup {K : PySem.W.Frag} {H H' : Hp} {a : Addr} {xs : List V} (s : Keeps H H') (h : SqT K H a xs) : SqT K H' a xs := by
  rcases h with (h | ⟨o, h⟩) | h
  · exact .inl (.inl (s _ _ trivial h))
  · exact .inl (.inr ⟨o, s _ _ trivial h⟩)
  · exact .inr h
/-- the script, and what stands written -/
theorem Keeps.script {K : PySem.W.Frag} {H H' : Hp} {a : Addr} {o : Obj} {xs : List V} (s : Keeps H H') (h : H a = some (.frz o (.lst xs))) : SqL K H' a xs := .inl (.inr ⟨o, s _ _ trivial h⟩)
theorem SqL.keep {K : PySem.W.Frag} {H H' : Hp} {a d C dx : Addr} {fs : List (Str × V)} {o : HO} {xs : List V} (h : SqL K H a xs) (hd : H d = some (.ins C dx fs)) (e : L2.upd H d o = H') : SqL K H' a xs := by
  rcases h with (h | ⟨o', h⟩) | h
  · exact .inl (.inl (at_keep e h hd (by intro z; cases z)))
  · exact .inl (.inr ⟨o', at_keep e h hd (by intro z; cases z)⟩)
  · exact .inr h
/-- the script: a list that is read for as long as what is fixed stays -/
def Scr (K : PySem.W.Frag) (H : Hp) (a : Addr) (ns : List Int) : Prop := ∀ H', Keeps H H' → SqL K H' a (ns.map V.int)
theorem scr_of {K : PySem.W.Frag} {H : Hp} {a : Addr} {ns : List Int} (hO : Only H) (h : SqL K H a (ns.map V.int)) : Scr K H a ns := fun H' k => by
  rcases h with (h | ⟨o', h⟩) | h
  · rcases hO a with z | ⟨o, xs, z⟩ <;> rw [h] at z <;> cases z
  · exact .inl (.inr ⟨o', k _ _ trivial h⟩)
  · exact .inr h
/-- [e for x in range], its items anything -/
theorem r_lcR {lo : Int} {n slot : Nat} {vs : List Nat} {te : TE} {σ : L2.St} {H : Hp} {Q : V → Hp → Prop} (P : Nat → List V → Hp → Prop) (hn : n ≤ 100000) (hv : vs = [slot])
    (h0 : P 0 [] H)
    (hs : ∀ (i : Nat) (acc : List V) (H0 H' : Hp), i < n → L2.Same H H0 → P i acc H0 → L2.Same H0 H' → ∀ R : V → Hp → Prop,
      (∀ (v : V) (H'' : Hp), L2.Same H' H'' → (∀ D, H0 D = none → H' D = some (.lst acc) → P (i + 1) (acc ++ [v]) (hid D H'')) → R v H'') → te ((wipe σ vs).set slot (some (.int (lo + i)))) H' R)
    (q : ∀ (H' : Hp) (l : Addr) (acc : List V), L2.Same H H' → H l = none → H' l = some (.lst acc) → acc.length = n → P n acc (hid l H') → Q (.ref l) H') :
    kLc (gName slot) tYes te vs σ Q (Itr lo n) H := by
  intro L hL
  have hw : ∀ (τ : L2.St) (x : V), wipe (τ.set slot (some x)) [slot] = wipe τ [slot] := fun τ x => by simp [wipe, List.set_set]
  have hw2 : wipe (wipe σ vs) vs = wipe σ vs := by subst hv; simp [wipe, List.set_set]
  refine lc_range (fun i H' => ∃ acc : List V, acc.length = i ∧ H' L = some (.lst acc) ∧ L2.Same H H' ∧ P i acc (hid L H')) ⟨[], rfl, upd_same, fun b o e => by rw [upd_ne (ne_of_none e hL)]; exact e, by rw [hid_upd, hid_none hL]; exact h0⟩ ?_ ?_
  · rintro i H' hi ⟨acc, el, eL, s, hp⟩
    refine ⟨?_, ?_⟩
    · subst hv
      rw [hw]
      exact hw2
    · show te ((wipe σ vs).set slot (some (.int (lo + i)))) H' _
      refine hs i acc (hid L H') H' hi (same_hid s hL) hp hid_same _ fun v H'' s2 hP => ⟨acc, s2 _ _ eL, ?_, acc ++ [v], ?_, upd_same, ?_, ?_⟩
      · rw [el, sz]
        omega
      · rw [List.length_append, el]; rfl
      · intro b o e
        rw [upd_ne (ne_of_none e hL)]
        exact s2 _ _ (s _ _ e)
      · rw [hid_upd]
        exact hP L hid_at eL
  · rintro H' ⟨acc, el, eL, s, hp⟩
    exact q H' L acc s hL eL el hp
theorem keeps_hid {H : Hp} {D : Addr} {xs : List V} (h : H D = some (.lst xs)) : Keeps H (hid D H) := fun b o f e => by
  rw [hid_ne (ne_of e h (by rintro rfl; exact f))]
  exact e
theorem Keeps.hid {H H' : Hp} {D : Addr} (k : Keeps H H') (n : H D = none) : Keeps H (hid D H') := fun b o f e => by
  rw [hid_ne (ne_of_none e n)]
  exact k _ _ f e
mutual
/-- data of tuples alone -/
def tOnly : PyData → Bool
  | .none => true
  | .bool _ => true
  | .int _ => true
  | .str _ => true
  | .tuple ds => tOnlyAll ds
  | _ => false
def tOnlyAll : List PyData → Bool
  | [] => true
  | d :: ds => tOnly d && tOnlyAll ds
end
mutual
theorem Dp.keeps {K : PySem.W.Frag} {H H' : Hp} (s : Keeps H H') : ∀ (d : PyData) (v : V), tOnly d = true → Dp K H v d → Dp K H' v d
  | .none, _, _, h => by cases h; exact .non
  | .bool b, _, _, h => by cases h; exact .bl b
  | .int i, _, _, h => by cases h; exact .int i
  | .str x, _, _, h => by cases h; exact .str x
  | .list ds, _, t, _ => by simp [tOnly] at t
  | .tuple ds, _, t, h => by
    cases h with
    | tup hs ha => exact .tup (s.tup hs) (DpAll.keeps s ds _ (by simpa [tOnly] using t) ha)
  | .dict _, _, _, h => by cases h
theorem DpAll.keeps {K : PySem.W.Frag} {H H' : Hp} (s : Keeps H H') : ∀ (ds : List PyData) (vs : List V), tOnlyAll ds = true → DpAll K H vs ds → DpAll K H' vs ds
  | [], _, _, h => by cases h; exact .nil
  | d :: ds, _, t, h => by
    cases h with
    | cons h1 h2 =>
      have t' : tOnly d = true ∧ tOnlyAll ds = true := by simpa [tOnlyAll] using t
      exact .cons (Dp.keeps s d _ t'.1 h1) (DpAll.keeps s ds _ t'.2 h2)
end
/-- a block's value: data of tuples, not deep -/
def Bk (K : PySem.W.Frag) (H : Hp) (v : V) : Prop := ∃ d, Dp K H v d ∧ Fl 3 d ∧ tOnly d = true
theorem Bk.keeps {K : PySem.W.Frag} {H H' : Hp} {v : V} (s : Keeps H H') (h : Bk K H v) : Bk K H' v := by
  obtain ⟨d, h1, h2, h3⟩ := h
  exact ⟨d, Dp.keeps s d v h3 h1, h2, h3⟩
theorem Bk.non {K : PySem.W.Frag} {H : Hp} : Bk K H .non := ⟨.none, .non, Fl.non 3, rfl⟩
theorem tOnly_ints : ∀ ns : List Int, tOnlyAll (ns.map PyData.int) = true
  | [] => rfl
  | n :: ns => by rw [List.map_cons, tOnlyAll, tOnly, tOnly_ints ns]; rfl
/-- a block that the text writes: (kind, sequence, rank, body), the body a tuple of ints -/
theorem Bk.mk {K : PySem.W.Frag} {H : Hp} {t b : Addr} {i j k : Int} {ns : List Int} (h : H t = some (.tup [.int i, .int j, .int k, .ref b])) (hb : SqT K H b (ns.map V.int)) : Bk K H (.ref t) :=
  ⟨.tuple [.int i, .int j, .int k, .tuple (ns.map PyData.int)], .tup (.of h) (.cons (.int _) (.cons (.int _) (.cons (.int _) (.cons (.tup hb (DpAll.ints ns)) .nil)))), (Fl.tup (Fl.cons (Fl.int _ _) (Fl.cons (Fl.int _ _) (Fl.cons (Fl.int _ _) (Fl.cons (Fl.ints ns) Fl.nil))))).mono (by decide),
    by simp [tOnly, tOnlyAll, tOnly_ints]⟩
/-- equal values are equal -/
theorem r_neB {K : PySem.W.Frag} {H : Hp} {v : V} {Q : V → Hp → Prop} (h : Bk K H v) (q : Q (.bl false) H) : rNeD K v v H Q := by
  obtain ⟨d, h1, h2, _⟩ := h
  refine r_ned h1 h1 h2.shaped h2.shaped ?_
  rw [h2.self]
  exact q
/-! ### the device -/
structure DevM where
  lay : Addr
  sure : List V
  shown : List V
  wait : List (Int × V)
  left : Option Int
  off : Bool
def leftV : Option Int → V
  | none => .non
  | some n => .int n
structure DevFs (fs : List (Str × V)) (m : DevM) (su sh un : Addr) : Prop where
  few : fs.length ≤ 20
  lay : fs.lookup ("layout" : Str) = some (.ref m.lay)
  sure : fs.lookup ("_sure" : Str) = some (.ref su)
  shown : fs.lookup ("_shown" : Str) = some (.ref sh)
  uns : fs.lookup ("_unsure" : Str) = some (.ref un)
  left : fs.lookup ("_commands_left" : Str) = some (leftV m.left)
  off : fs.lookup ("_power_is_off" : Str) = some (.bl m.off)
  nT : fs.lookup ("_takes_place" : Str) = none
  nR : fs.lookup ("read" : Str) = none
  nW : fs.lookup ("write" : Str) = none
  nB : fs.lookup ("barrier" : Str) = none
  nC : fs.lookup ("cut_after" : Str) = none
  nP : fs.lookup ("pending" : Str) = none
  nS : fs.lookup ("sure_blocks" : Str) = none
  nU : fs.lookup ("was_cut" : Str) = none
  nL : fs.lookup ("left" : Str) = none
  nK : fs.lookup ("fork" : Str) = none
  nG : fs.lookup ("written_blocks" : Str) = none
theorem DevFs.to {fs : List (Str × V)} {m m' : DevM} {su sh un : Addr} (h : DevFs fs m su sh un) (e1 : m'.lay = m.lay) (e2 : m'.left = m.left) (e3 : m'.off = m.off) : DevFs fs m' su sh un := by
  obtain ⟨h1, h2, h3, h4, h5, h6, h7, g1, g2, g3, g4, g5, g6, g7, g8, g9, g10, g11⟩ := h
  exact ⟨h1, by rw [e1]; exact h2, h3, h4, h5, by rw [e2]; exact h6, by rw [e3]; exact h7, g1, g2, g3, g4, g5, g6, g7, g8, g9, g10, g11⟩
/-- a device over what stood ahead of it -/
structure DevIn (C : Addr) (H0 H : Hp) (d : Addr) (m : DevM) : Prop where
  same : Same H0 H
  new : H0 d = none
  at_ : ∃ (dx : Addr) (fs : List (Str × V)) (su sh un : Addr) (us : List Addr), H d = some (.ins C dx fs) ∧ DevFs fs m su sh un ∧ H0 su = none ∧ H0 sh = none ∧ H0 un = none ∧ su ≠ sh ∧ su ≠ un ∧ sh ≠ un ∧
    H su = some (.lst m.sure) ∧ H sh = some (.lst m.shown) ∧ H un = some (.lst (us.map V.ref)) ∧ Paired (fun (u : Addr) (p : Int × V) => H u = some (.tup [.int p.1, p.2])) us m.wait
theorem pairs_keeps {H H' : Hp} (s : Keeps H H') : ∀ {us : List Addr} {ps : List (Int × V)}, Paired (fun (u : Addr) (p : Int × V) => H u = some (.tup [.int p.1, p.2])) us ps → Paired (fun (u : Addr) (p : Int × V) => H' u = some (.tup [.int p.1, p.2])) us ps
  | _, _, .nil => .nil
  | _, _, .cons h t => .cons (s _ _ trivial h) (pairs_keeps s t)
theorem DevIn.mono {C : Addr} {H0 H H' : Hp} {d : Addr} {m : DevM} (s : Same H H') (h : DevIn C H0 H d m) : DevIn C H0 H' d m := by
  obtain ⟨s0, n0, dx, fs, su, sh, un, us, h1, h2, h3, h4, h5, h6, h7, h8, h9, h10, h11, h12⟩ := h
  exact ⟨s0.trans s, n0, dx, fs, su, sh, un, us, s _ _ h1, h2, h3, h4, h5, h6, h7, h8, s _ _ h9, s _ _ h10, s _ _ h11, pairs_keeps (Keeps.of s) h12⟩
/-- what stood ahead of it is changed -/
theorem DevIn.rebase {C : Addr} {H0 H : Hp} {d e : Addr} {m : DevM} {o ol : HO} (h : DevIn C H0 H d m) (he : H0 e = some ol) (hn : ¬ Fixed ol) : DevIn C (upd H0 e o) (upd H e o) d m := by
  obtain ⟨s0, n0, dx, fs, su, sh, un, us, h1, h2, h3, h4, h5, h6, h7, h8, h9, h10, h11, h12⟩ := h
  have ne : ∀ {x : Addr}, H0 x = none → x ≠ e := fun h z => by rw [z, he] at h; cases h
  refine ⟨fun b u q => ?_, by rw [upd_ne (ne n0)]; exact n0, dx, fs, su, sh, un, us, by rw [upd_ne (ne n0)]; exact h1, h2, by rw [upd_ne (ne h3)]; exact h3, by rw [upd_ne (ne h4)]; exact h4, by rw [upd_ne (ne h5)]; exact h5, h6, h7, h8,
    by rw [upd_ne (ne h3)]; exact h9, by rw [upd_ne (ne h4)]; exact h10, by rw [upd_ne (ne h5)]; exact h11, pairs_keeps (Keeps.upd (s0 _ _ he) hn rfl) h12⟩
  by_cases hb : b = e
  · rw [hb, upd_same] at q
    rw [hb, upd_same]
    exact q
  · rw [upd_ne hb] at q
    rw [upd_ne hb]
    exact s0 _ _ q

/-! ### methods of the device -/
def putB (xs : List V) (a : Int) (v : V) : List V := if 0 ≤ a ∧ a < xs.length then xs.set a.toNat v else xs
theorem putB_len {xs : List V} {a : Int} {v : V} : (putB xs a v).length = xs.length := by
  unfold putB
  split
  · rw [List.length_set]
  · rfl
def sp_put_block : Sp := fun vs H Q _ => ∃ (l : Addr) (a : Int) (v : V) (xs : List V), vs = [.ref l, .int a, v] ∧ H l = some (.lst xs) ∧ ∀ H', upd H l (.lst (putB xs a v)) = H' → Q .non H'
theorem upd_self {H : Hp} {l : Addr} {o : HO} (h : H l = some o) : upd H l o = H := by
  funext b
  by_cases hb : b = l
  · rw [hb, upd_same, h]
  · rw [upd_ne hb]
theorem ok_put_block (T : Txt K mg) : FnOk P w K mg base CX0 1 T.a_put_block T.fd_put_block ["blocks", "address", "block"] sp_put_block := by
  refine T.F_put_block.ok sc_put_block (fun vs H Q E h => ?_) (fun cdv A outer s H vs Q E hr h => ?_)
  · obtain ⟨l, a, v, xs, rfl, _⟩ := h
    rfl
  · refine ⟨_, (pss_one (ps_if (pt_chain op_le op_lt pe_int (pv 1) (pe_callB (c_len) (by rfl) T.n_len (by decide +kernel) (pa_cons (pv 0) pa_nil)))
       (pss_one (ps_asg (pv 2) (pg_sub (pv 0) (pv 1) set_list)))
       pss_nil)), ?_⟩
    try dsimp only [cxOf, Cx.nox, Cx.wish]
    obtain ⟨l, a, v, xs, rfl, hl, q⟩ := h
    walk_at "rd"
    refine r_ite (fun h0 => ?_) (fun h0 => ?_)
    · walk_at "rd"
      refine r_ite (fun h1 => ?_) (fun h1 => ?_)
      · walk_at "rd"
        refine r_setl hl (ixN_ok h0 h1) ?_
        exact q _ (by rw [putB, if_pos ⟨h0, h1⟩])
      · walk_at "rd"
        exact q _ (by rw [putB, if_neg (fun z => h1 z.2)]; exact upd_self hl)
    · walk_at "rd"
      exact q _ (by rw [putB, if_neg (fun z => h0 z.1)]; exact upd_self hl)
theorem putF_same {f : Str} {x v : V} : ∀ {fs : List (Str × V)}, fs.lookup f = some v → (putF f x fs).length = fs.length
  | [], h => by simp at h
  | (g, y) :: r, h => by
    unfold putF
    by_cases e : g = f
    · rw [if_pos e]
      rfl
    · rw [if_neg e]
      rw [List.lookup_cons] at h
      have hb : (f == g) = false := by
        cases hb : f == g with
        | false => rfl
        | true => exact absurd (eq_of_beq hb).symm e
      rw [hb] at h
      rw [List.length_cons, List.length_cons, putF_same h]
/-- a command is counted -/
def takeF (m : DevM) : DevM := match m.left with
  | some n => if n = 0 then { m with off := true } else { m with left := some (n - 1) }
  | none => m
theorem takeF_lists (m : DevM) : (takeF m).sure = m.sure ∧ (takeF m).shown = m.shown ∧ (takeF m).wait = m.wait ∧ (takeF m).lay = m.lay := by
  unfold takeF
  split
  · split <;> exact ⟨rfl, rfl, rfl, rfl⟩
  · exact ⟨rfl, rfl, rfl, rfl⟩
def sp_takes (C : Addr) : Sp := fun vs H Q _ => ∃ (H0 : Hp) (d : Addr) (m : DevM), vs = [.ref d] ∧ DevIn C H0 H d m ∧ ∀ H', DevIn C H0 H' d (takeF m) → Keeps H H' → Q (.bl (!(takeF m).off)) H'
/-- a field of the device is set -/
theorem DevFs.left' {fs : List (Str × V)} {m : DevM} {su sh un : Addr} (h : DevFs fs m su sh un) (n : Option Int) : DevFs (putF "_commands_left" (leftV n) fs) { m with left := n } su sh un := by
  obtain ⟨h1, h2, h3, h4, h5, h6, h7, g1, g2, g3, g4, g5, g6, g7, g8, g9, g10, g11⟩ := h
  exact ⟨by rw [putF_same h6]; exact h1, by walk_at "lk", by walk_at "lk", by walk_at "lk", by walk_at "lk", by walk_at "lk", by walk_at "lk", by walk_at "lk", by walk_at "lk", by walk_at "lk", by walk_at "lk", by walk_at "lk", by walk_at "lk", by walk_at "lk", by walk_at "lk", by walk_at "lk", by walk_at "lk", by walk_at "lk"⟩
theorem DevFs.off' {fs : List (Str × V)} {m : DevM} {su sh un : Addr} (h : DevFs fs m su sh un) (b : Bool) : DevFs (putF "_power_is_off" (.bl b) fs) { m with off := b } su sh un := by
  obtain ⟨h1, h2, h3, h4, h5, h6, h7, g1, g2, g3, g4, g5, g6, g7, g8, g9, g10, g11⟩ := h
  exact ⟨by rw [putF_same h7]; exact h1, by walk_at "lk", by walk_at "lk", by walk_at "lk", by walk_at "lk", by walk_at "lk", by walk_at "lk", by walk_at "lk", by walk_at "lk", by walk_at "lk", by walk_at "lk", by walk_at "lk", by walk_at "lk", by walk_at "lk", by walk_at "lk", by walk_at "lk", by walk_at "lk", by walk_at "lk"⟩
theorem DevFs.uns' {fs : List (Str × V)} {m : DevM} {su sh un : Addr} (h : DevFs fs m su sh un) (u : Addr) (w : List (Int × V)) : DevFs (putF "_unsure" (.ref u) fs) { m with wait := w } su sh u := by
  obtain ⟨h1, h2, h3, h4, h5, h6, h7, g1, g2, g3, g4, g5, g6, g7, g8, g9, g10, g11⟩ := h
  exact ⟨by rw [putF_same h5]; exact h1, by walk_at "lk", by walk_at "lk", by walk_at "lk", by walk_at "lk", by walk_at "lk", by walk_at "lk", by walk_at "lk", by walk_at "lk", by walk_at "lk", by walk_at "lk", by walk_at "lk", by walk_at "lk", by walk_at "lk", by walk_at "lk", by walk_at "lk", by walk_at "lk", by walk_at "lk"⟩
theorem insNF {C dx : Addr} {fs : List (Str × V)} : ¬ Fixed (.ins C dx fs) := fun z => z
theorem lstNF {xs : List V} : ¬ Fixed (.lst xs) := fun z => z
/-- the device's own record is changed -/
theorem DevIn.setd {C : Addr} {H0 H H' : Hp} {d dx : Addr} {m m' : DevM} {fs fs' : List (Str × V)} {su sh un : Addr} {us : List Addr} (s0 : Same H0 H) (n0 : H0 d = none) (h1 : H d = some (.ins C dx fs)) (e : upd H d (.ins C dx fs') = H') (h2 : DevFs fs' m' su sh un)
    (h3 : H0 su = none) (h4 : H0 sh = none) (h5 : H0 un = none) (h6 : su ≠ sh) (h7 : su ≠ un) (h8 : sh ≠ un) (h9 : H su = some (.lst m.sure)) (h10 : H sh = some (.lst m.shown)) (h11 : H un = some (.lst (us.map V.ref)))
    (h12 : Paired (fun (u : Addr) (p : Int × V) => H u = some (.tup [.int p.1, p.2])) us m.wait) (e1 : m'.sure = m.sure) (e2 : m'.shown = m.shown) (e3 : m'.wait = m.wait) : DevIn C H0 H' d m' := by
  have k : ∀ {x : Addr} {xs : List V}, H x = some (.lst xs) → H' x = some (.lst xs) := fun hx => at_keep e hx h1 (by intro z; cases z)
  exact ⟨Same.old s0 n0 e, n0, dx, fs', su, sh, un, us, Sg.at_new e, h2, h3, h4, h5, h6, h7, h8, by rw [e1]; exact k h9, by rw [e2]; exact k h10, k h11, by rw [e3]; exact pairs_keeps (Keeps.upd h1 insNF e) h12⟩
theorem ok_Device__takes_place (T : Txt K mg) : FnOk P w K mg base CX0 1 T.a_Device__takes_place T.fd_Device__takes_place ["self"] (sp_takes T.A_Device) := by
  refine T.F_Device__takes_place.ok sc_Device__takes_place (fun vs H Q E h => ?_) (fun cdv A outer s H vs Q E hr h => ?_)
  · obtain ⟨H0, d, m, rfl, _⟩ := h
    rfl
  · refine ⟨_, (C8.pss_cut (ps_if (pt_cmpR op_eq (pe_fld (pv 0) rfl) pe_int (nomark _))
       (pss_one (ps_fld (pv 0) pe_bl rfl))
       (pss_one (ps_if (pt_cmp (pc_notN (pe_fld (pv 0) rfl)) rfl)
       (pss_one (ps_fldaug (pv 0) pe_int in_sub))
       pss_nil)))
       (pss_one (ps_ret (pe_not (pe_fld (pv 0) rfl))))), ?_⟩
    try dsimp only [cxOf, Cx.nox, Cx.wish]
    obtain ⟨H0, d, m, rfl, ⟨s0, n0, dx, fs, su, sh, un, us, h1, h2, h3, h4, h5, h6, h7, h8, h9, h10, h11, h12⟩, q⟩ := h
    have cl := T.cl_Device
    have na1 := T.na_Device__commands_left
    have na2 := T.na_Device__power_is_off
    obtain ⟨few, lkl, lks, lkh, lku, lkc, lko, _⟩ := id h2
    walk_at "rd"
    refine r_cut (fun σ' H' => σ' = [some (.ref d)] ∧ DevIn T.A_Device H0 H' d (takeF m) ∧ Keeps H H') ?_ ?_
    · walk_at "rd"
      have base : takeF m = m → DevIn T.A_Device H0 H d (takeF m) := fun e => by
        rw [e]
        exact ⟨s0, n0, dx, fs, su, sh, un, us, h1, h2, h3, h4, h5, h6, h7, h8, h9, h10, h11, h12⟩
      cases hl : m.left with
      | none =>
        rw [hl] at lkc
        have lkc : fs.lookup ("_commands_left" : Str) = some .non := lkc
        show rEq .non (.int 0) H _
        refine r_eq rfl ?_
        walk_at "rd"
        exact ⟨rfl, base (by unfold takeF; rw [hl]), Keeps.refl H⟩
      | some n =>
        rw [hl] at lkc
        have lkc : fs.lookup ("_commands_left" : Str) = some (.int n) := lkc
        show rEq (.int n) (.int 0) H _
        walk_at "rd"
        refine r_ite (fun h0 => ?_) (fun h0 => ?_)
        · walk_at "rd"
          rename_i H' e _
          refine ⟨rfl, ?_, Keeps.upd h1 insNF e⟩
          have em : takeF m = { m with off := true } := by unfold takeF; rw [hl]; exact if_pos h0
          rw [em]
          exact DevIn.setd (m := m) s0 n0 h1 e (h2.off' true) h3 h4 h5 h6 h7 h8 h9 h10 h11 h12 rfl rfl rfl
        · walk_at "rd"
          refine ⟨_, rfl, d, _, dx, fs, _, rfl, h1, cl, na1, lkc, ?_⟩
          refine ⟨_, _, rfl, rfl, dx, fs, h1, by omega, ?_⟩
          have em : takeF m = { m with left := some (n - 1) } := by unfold takeF; rw [hl]; exact if_neg h0
          refine ⟨rfl, ?_, Keeps.upd h1 insNF rfl⟩
          rw [em]
          exact DevIn.setd (m := m) s0 n0 h1 rfl (h2.left' (some (n - 1))) h3 h4 h5 h6 h7 h8 h9 h10 h11 h12 rfl rfl rfl
    · rintro _ H' ⟨rfl, hD, hK⟩
      obtain ⟨s0', n0', dx', fs', su', sh', un', us', h1', h2', _⟩ := id hD
      have lko' := h2'.off
      walk_at "rd"
      exact q _ hD hK
def readF (m : DevM) (a : Int) : V := if 0 ≤ a ∧ a < m.shown.length then m.shown.getD a.toNat .non else .non
def sp_read (C : Addr) : Sp := fun vs H Q _ => ∃ (H0 : Hp) (d : Addr) (m : DevM) (a : Int), vs = [.ref d, .int a] ∧ DevIn C H0 H d m ∧ Q (readF m a) H
theorem at_vals {xs : List V} {k : Int} (h0 : 0 ≤ k) (h1 : k < xs.length) : atI xs k = some (xs.getD k.toNat .non) := by
  obtain ⟨n, rfl⟩ := Int.eq_ofNat_of_zero_le h0
  have hn : n < xs.length := by omega
  refine atI_nat ?_
  rw [List.getElem?_eq_getElem hn, List.getD_eq_getElem?_getD, Int.toNat_natCast, List.getElem?_eq_getElem hn]
  rfl
theorem ok_Device_read (T : Txt K mg) : FnOk P w K mg base CX0 1 T.a_Device_read T.fd_Device_read ["self", "address"] (sp_read T.A_Device) := by
  refine T.F_Device_read.ok sc_Device_read (fun vs H Q E h => ?_) (fun cdv A outer s H vs Q E hr h => ?_)
  · obtain ⟨H0, d, m, a, rfl, _⟩ := h
    rfl
  · refine ⟨_, (pss_cons (ps_if (pt_not (pt_chain op_le op_lt pe_int (pv 1) (pe_callB (c_len) (by rfl) T.n_len (by decide +kernel) (pa_cons (pe_fld (pv 0) rfl) pa_nil))))
       (pss_one (ps_ret pe_non))
       pss_nil)
       (pss_one (ps_ret (pe_ix ix_list (pe_fld (pv 0) rfl) (pv 1) (fun _ _ => rfl))))), ?_⟩
    try dsimp only [cxOf, Cx.nox, Cx.wish]
    obtain ⟨H0, d, m, a, rfl, ⟨s0, n0, dx, fs, su, sh, un, us, h1, h2, h3, h4, h5, h6, h7, h8, h9, h10, h11, h12⟩, q⟩ := h
    have cl := T.cl_Device
    have na1 := T.na_Device__shown
    obtain ⟨few, lkl, lks, lkh, lku, lkc, lko, _⟩ := id h2
    by_cases ha : 0 ≤ a ∧ a < m.shown.length
    · obtain ⟨a0, a1⟩ := ha
      walk_at "rdo"
      refine r_ixl (by walk_at "hp") (at_vals a0 a1) ?_
      rw [readF, if_pos ⟨a0, a1⟩] at q
      exact q
    · rw [readF, if_neg ha] at q
      walk_at "rd"
      refine r_ite (fun h0 => ?_) (fun h0 => ?_)
      · walk_at "rdo"
        exact q
      · walk_at "rdo"
        exact q
def writeF (m : DevM) (a : Int) (v : V) : DevM :=
  { takeF m with wait := if (takeF m).off then m.wait else m.wait ++ [(a, v)], shown := putB m.shown a v }
def sp_write (C : Addr) : Sp := fun vs H Q _ => ∃ (H0 : Hp) (d : Addr) (m : DevM) (a : Int) (v : V), vs = [.ref d, .int a, v] ∧ DevIn C H0 H d m ∧ m.wait.length ≤ 1000 ∧ ∀ H', DevIn C H0 H' d (writeF m a v) → Keeps H H' → Q .non H'
theorem ok_Device_write (T : Txt K mg) : FnOk P w K mg base CX0 2 T.a_Device_write T.fd_Device_write ["self", "address", "block"] (sp_write T.A_Device) := by
  refine T.F_Device_write.ok sc_Device_write (fun vs H Q E h => ?_) (fun cdv A outer s H vs Q E hr h => ?_)
  · obtain ⟨H0, d, m, a, v, rfl, _⟩ := h
    rfl
  · refine ⟨_, (C8.pss_cut (ps_if (pt_val (pe_meth0 (pv 0) T.cl_Device T.me_Device__takes_place (ok_Device__takes_place T) (hr.mono (by decide)) T.b_Device__takes_place .nil pass0))
       (pss_one (ps_expr (pe_bm PySem.F.plainAttrs_list PySem.F.slot_list_append PySem.F.type_list_append mt_append (pe_fld (pv 0) rfl) (pa_cons (pe_tup (pa_cons (pv 1) (pa_cons (pv 2) pa_nil))) pa_nil))))
       pss_nil)
       (pss_one (ps_expr (pe_call (ok_put_block T) (hr.mono (by decide)) rfl T.m_put_block T.F_put_block.kp T.b_put_block .nil pass0 (pa_cons (pe_fld (pv 0) rfl) (pa_cons (pv 1) (pa_cons (pv 2) pa_nil))))))), ?_⟩
    try dsimp only [cxOf, Cx.nox, Cx.wish]
    obtain ⟨H0, d, m, a, v, rfl, hD, hw, q⟩ := h
    have cl := T.cl_Device
    have na1 := T.na_Device__shown
    have na2 := T.na_Device__unsure
    obtain ⟨s0, n0, dx, fs, su, sh, un, us, h1, h2, _⟩ := id hD
    have nT := h2.nT
    walk_at "rd"
    refine r_cut (fun σ' H' => σ' = [some (.ref d), some (.int a), some v] ∧ DevIn T.A_Device H0 H' d { takeF m with wait := if (takeF m).off then m.wait else m.wait ++ [(a, v)] } ∧ Keeps H H') ?_ ?_
    · walk_at "rd"
      refine ⟨H0, d, m, rfl, hD, fun H1 hD1 hK1 => ?_⟩
      obtain ⟨t1, t2, t3, t4⟩ := takeF_lists m
      generalize takeF m = m1 at hD1 t1 t2 t3 t4
      walk_at "rd"
      refine to_ite (fun hb => ?_) (fun hb => ?_)
      · have ho : m1.off = false := by simpa using hb
        obtain ⟨s0', n0', dx', fs', su', sh', un', us', h1', h2', h3', h4', h5', h6', h7', h8', h9', h10', h11', h12'⟩ := id hD1
        have lku := h2'.uns
        walk_at "rd"
        rename_i tp ntp H2 s2 htp
        have hl' : us'.length ≤ 1000 := by rw [Paired.length h12', t3]; exact hw
        refine r_app (by walk_at "hp") (by rw [List.length_map, sz]; omega) ?_
        generalize hH : upd _ _ _ = H3
        refine ⟨rfl, ⟨Same.old (s0'.trans s2) h5' hH, n0', dx', fs', su', sh', un', us' ++ [tp], at_keep hH (s2 _ _ h1') (s2 _ _ h11') (by intro z; cases z), h2'.to rfl rfl rfl, h3', h4', h5', h6', h7', h8', ?_, ?_, ?_, ?_⟩, (hK1.trans (Keeps.of s2)).trans (Keeps.upd (s2 _ _ h11') lstNF hH)⟩
        · rw [← hH, upd_ne h7']
          exact s2 _ _ h9'
        · rw [← hH, upd_ne h8']
          exact s2 _ _ h10'
        · rw [← hH, upd_same, List.map_append]
          rfl
        · rw [ho, if_neg (by decide), ← t3]
          exact paired_snoc (pairs_keeps ((Keeps.of s2).trans (Keeps.upd (s2 _ _ h11') lstNF hH)) h12') (by rw [← hH, upd_ne (ne_of htp (s2 _ _ h11') (by intro z; cases z))]; exact htp)
      · have ho : m1.off = true := by simpa using hb
        refine ⟨rfl, ?_, hK1⟩
        rw [ho, if_pos rfl, ← t3]
        exact hD1
    · rintro _ H' ⟨rfl, hD', hK⟩
      obtain ⟨t1, t2, t3, t4⟩ := takeF_lists m
      obtain ⟨s0', n0', dx', fs', su', sh', un', us', h1', h2', h3', h4', h5', h6', h7', h8', h9', h10', h11', h12'⟩ := id hD'
      have lks := h2'.shown
      walk_at "rd"
      refine ⟨sh', a, v, _, rfl, h10', fun H2 hH => ?_⟩
      have kp : Keeps H' H2 := Keeps.upd h10' lstNF hH
      refine q _ ⟨Same.old s0' h4' hH, n0', dx', fs', su', sh', un', us', at_keep hH h1' h10' (by intro z; cases z), h2'.to rfl rfl rfl, h3', h4', h5', h6', h7', h8', ?_, ?_, ?_, pairs_keeps kp h12'⟩ (hK.trans kp)
      · rw [← hH, upd_ne h6']
        exact h9'
      · rw [← hH, upd_same]
        show some (HO.lst (putB (takeF m).shown a v)) = some (HO.lst (putB m.shown a v))
        rw [t2]
      · rw [← hH, upd_ne h8'.symm]
        exact h11'
def barrierF (m : DevM) : DevM := if (takeF m).off then takeF m else { takeF m with sure := m.wait.foldl (fun xs p => putB xs p.1 p.2) m.sure, wait := [] }
def sp_barrier (C : Addr) : Sp := fun vs H Q _ => ∃ (H0 : Hp) (d : Addr) (m : DevM), vs = [.ref d] ∧ DevIn C H0 H d m ∧ ∀ H', DevIn C H0 H' d (barrierF m) → Keeps H H' → Q .non H'
theorem ok_Device_barrier (T : Txt K mg) : FnOk P w K mg base CX0 2 T.a_Device_barrier T.fd_Device_barrier ["self"] (sp_barrier T.A_Device) := by
  refine T.F_Device_barrier.ok sc_Device_barrier (fun vs H Q E h => ?_) (fun cdv A outer s H vs Q E hr h => ?_)
  · obtain ⟨H0, d, m, rfl, _⟩ := h
    rfl
  · refine ⟨_, (pss_one (ps_if (pt_val (pe_meth0 (pv 0) T.cl_Device T.me_Device__takes_place (ok_Device__takes_place T) (hr.mono (by decide)) T.b_Device__takes_place .nil pass0))
       (pss_cons (ps_for PassesOwn.never rfl (pi_list (pe_fld (pv 0) rfl)) (pg_tup (by rfl) (pgs_cons (pg_name (i := 1) sc_Device_barrier.nd rfl (Or.inl rfl)) (pgs_cons (pg_name (i := 2) sc_Device_barrier.nd rfl (Or.inl rfl)) pgs_nil)))
       (pss_one (ps_expr (pe_call (ok_put_block T) (hr.mono (by decide)) rfl T.m_put_block T.F_put_block.kp T.b_put_block .nil pass0 (pa_cons (pe_fld (pv 0) rfl) (pa_cons (pv 1) (pa_cons (pv 2) pa_nil)))))))
       (pss_one (ps_fld (pv 0) (pe_lst pa_nil) rfl)))
       pss_nil)), ?_⟩
    try dsimp only [cxOf, Cx.nox, Cx.wish]
    obtain ⟨H0, d, m, rfl, hD, q⟩ := h
    have cl := T.cl_Device
    have na1 := T.na_Device__sure
    have na2 := T.na_Device__unsure
    obtain ⟨s0, n0, dx, fs, su, sh, un, us, h1, h2, _⟩ := id hD
    have nT := h2.nT
    walk_at "rd"
    refine ⟨H0, d, m, rfl, hD, fun H1 hD1 hK1 => ?_⟩
    obtain ⟨t1, t2, t3, t4⟩ := takeF_lists m
    unfold barrierF at q
    generalize takeF m = m1 at hD1 t1 t2 t3 t4 q
    walk_at "rd"
    refine to_ite (fun hb => ?_) (fun hb => ?_)
    · have ho : m1.off = false := by simpa using hb
      rw [ho, if_neg (by decide)] at q
      obtain ⟨s0', n0', dx', fs', su', sh', un', us', h1', h2', h3', h4', h5', h6', h7', h8', h9', h10', h11', h12'⟩ := id hD1
      have lku := h2'.uns
      have lks := h2'.sure
      have few := h2'.few
      walk_at "rd"
      refine r_forL (xs := us'.map V.ref) (fun i σ' H' => ∃ v1 v2 : Option V, σ' = [some (.ref d), v1, v2] ∧ DevIn T.A_Device H0 H' d { m1 with sure := (m1.wait.take i).foldl (fun xs p => putB xs p.1 p.2) m1.sure } ∧ Keeps H1 H' ∧ H' d = some (.ins T.A_Device dx' fs') ∧ H' un' = some (.lst (us'.map V.ref)) ∧ H' su' = some (.lst ((m1.wait.take i).foldl (fun xs p => putB xs p.1 p.2) m1.sure)) ∧ H' sh' = some (.lst m1.shown)) ?_ ?_ ?_ ?_
      · exact ⟨_, _, rfl, hD1, Keeps.refl _, h1', h11', h9', h10'⟩
      · rintro i σ' H' _ ⟨v1, v2, rfl, _, _, _, hu, _⟩
        exact .of hu
      · rintro i x σ' H' hx ⟨v1, v2, rfl, hD2, hK2, hd2, hu2, hs2, hh2⟩
        rw [List.getElem?_map] at hx
        obtain ⟨u, hu, rfl⟩ := Option.map_eq_some_iff.mp hx
        obtain ⟨p, ep, hp⟩ := paired_at h12' hu
        have hp2 : SqT K H' u [.int p.1, p.2] := .of (hK2 _ _ trivial hp)
        walk_at "rd"
        refine ⟨su', p.1, p.2, _, rfl, hs2, fun H3 hH => ?_⟩
        have kp : Keeps H' H3 := Keeps.upd hs2 lstNF hH
        have et : (m1.wait.take (i + 1)).foldl (fun xs p => putB xs p.1 p.2) m1.sure = putB ((m1.wait.take i).foldl (fun xs p => putB xs p.1 p.2) m1.sure) p.1 p.2 := by
          rw [List.take_add_one, ep, List.foldl_append]
          rfl
        have e1 : H3 d = some (.ins T.A_Device dx' fs') := at_keep hH hd2 hs2 (by intro z; cases z)
        have e2 : H3 un' = some (.lst (us'.map V.ref)) := by rw [← hH, upd_ne h7'.symm]; exact hu2
        have e3 : H3 sh' = some (.lst m1.shown) := by rw [← hH, upd_ne h6'.symm]; exact hh2
        have e4 : H3 su' = some (.lst (putB ((m1.wait.take i).foldl (fun xs p => putB xs p.1 p.2) m1.sure) p.1 p.2)) := by rw [← hH, upd_same]
        rw [et]
        refine ⟨_, _, rfl, ⟨Same.old hD2.same h3' hH, n0', dx', fs', su', sh', un', us', e1, h2'.to rfl rfl rfl, h3', h4', h5', h6', h7', h8', e4, e3, e2, pairs_keeps (hK2.trans kp) h12'⟩, hK2.trans kp, e1, e2, e4, e3⟩
      · rintro σ' H' ⟨v1, v2, rfl, hD2, hK2, hd2, hu2, hs2, hh2⟩
        rw [List.length_map, Paired.length h12', List.take_length] at hs2
        walk_at "rd"
        rename_i nl nnl H3 s3 hnl H4 hH _
        have kp : Keeps H' H4 := (Keeps.of s3).trans (Keeps.upd (s3 _ _ hd2) insNF hH)
        have en : nl ≠ d := fun e => by rw [e, hd2] at nnl; cases nnl
        have eu : nl ≠ su' := fun e => by rw [e, hs2] at nnl; cases nnl
        have eh : nl ≠ sh' := fun e => by rw [e, hh2] at nnl; cases nnl
        refine q _ ⟨Same.old (hD2.same.trans s3) n0' hH, n0', dx', _, su', sh', nl, [], Sg.at_new hH, ?_, h3', h4', hD2.same.free nnl, h6', eu.symm, eh.symm, ?_, ?_, ?_, .nil⟩ (hK1.trans (hK2.trans kp))
        · exact (h2'.uns' nl []).to rfl rfl rfl
        · refine at_keep hH (s3 _ _ ?_) (s3 _ _ hd2) (by intro z; cases z)
          rw [hs2, t3, t1]
        · refine at_keep hH (s3 _ _ ?_) (s3 _ _ hd2) (by intro z; cases z)
          exact hh2
        · exact at_keep hH hnl (s3 _ _ hd2) (by intro z; cases z)
    · have ho : m1.off = true := by simpa using hb
      rw [ho, if_pos rfl] at q
      walk_at "rd"
      exact q _ hD1 hK1

def cutF (m : DevM) (n : Int) : DevM := if m.off then m else { m with left := some n }
def sp_cut_after (C : Addr) : Sp := fun vs H Q _ => ∃ (H0 : Hp) (d : Addr) (m : DevM) (n : Int), vs = [.ref d, .int n] ∧ DevIn C H0 H d m ∧ ∀ H', DevIn C H0 H' d (cutF m n) → Keeps H H' → Q .non H'
theorem ok_Device_cut_after (T : Txt K mg) : FnOk P w K mg base CX0 1 T.a_Device_cut_after T.fd_Device_cut_after ["self", "count"] (sp_cut_after T.A_Device) := by
  refine T.F_Device_cut_after.ok sc_Device_cut_after (fun vs H Q E h => ?_) (fun cdv A outer s H vs Q E hr h => ?_)
  · obtain ⟨H0, d, m, n, rfl, _⟩ := h
    rfl
  · refine ⟨_, (pss_one (ps_if (pt_not (pt_val (pe_fld (pv 0) rfl)))
       (pss_one (ps_fld (pv 0) (pv 1) rfl))
       pss_nil)), ?_⟩
    try dsimp only [cxOf, Cx.nox, Cx.wish]
    obtain ⟨H0, d, m, n, rfl, hD, q⟩ := h
    have cl := T.cl_Device
    have na1 := T.na_Device__commands_left
    have na2 := T.na_Device__power_is_off
    obtain ⟨s0, n0, dx, fs, su, sh, un, us, h1, h2, h3, h4, h5, h6, h7, h8, h9, h10, h11, h12⟩ := id hD
    have lko := h2.off
    have few := h2.few
    walk_at "rd"
    refine to_ite (fun hb => ?_) (fun hb => ?_)
    · have ho : m.off = false := by simpa using hb
      rw [cutF, ho, if_neg (by decide)] at q
      walk_at "rd"
      rename_i H' e _
      exact q _ (DevIn.setd (m := m) s0 n0 h1 e ((h2.left' (some n)).to rfl rfl ho.symm) h3 h4 h5 h6 h7 h8 h9 h10 h11 h12 rfl rfl rfl) (Keeps.upd h1 insNF e)
    · have ho : m.off = true := by simpa using hb
      rw [cutF, ho, if_pos rfl] at q
      walk_at "rd"
      exact q _ hD (Keeps.refl _)

/-! ### a device is made -/
theorem rep_non (n : Nat) : (List.replicate n [V.non]).flatten = List.replicate n V.non := by
  induction n with
  | zero => rfl
  | succ n ih => rw [List.replicate_succ, List.flatten_cons, ih, List.replicate_succ]; rfl
def newM (lay : Addr) (xs : List V) : DevM := ⟨lay, xs, xs, [], none, false⟩
def sp_dev_init (K : PySem.W.Frag) (C CL : Addr) : Sp := fun vs H Q _ => ∃ (H0 : Hp) (d dx lay : Addr) (L : Lay) (b : V) (xs : List V), vs = [.ref d, .ref lay, b] ∧ H d = some (.ins C dx []) ∧ Same H0 H ∧ H0 d = none ∧ LayAt CL L H lay ∧
  ((b = .non ∧ 0 ≤ L.dev ∧ L.dev ≤ 100000 ∧ xs = List.replicate L.dev.toNat V.non) ∨ ∃ l, b = .ref l ∧ SqL K H l xs) ∧ ∀ H', DevIn C H0 H' d (newM lay xs) → Keeps H H' → Q .non H'
theorem ok_Device___init (T : Txt K mg) : FnOk P w K mg base CX0 1 T.a_Device___init T.fd_Device___init ["self", "layout", "blocks"] (sp_dev_init K T.A_Device T.A_Layout) := by
  refine T.F_Device___init.ok (CX := CX0) sc_Device___init (fun vs H Q E h => ?_) (fun cdv A outer s H vs Q E hr h => ?_)
  · obtain ⟨H0, d, dx, lay, L, b, xs, rfl, _⟩ := h
    rfl
  · refine ⟨_, (C8.pss_cut (ps_if (pt_cmp (pc_isN (pv 2)) rfl)
       (pss_one (ps_set (i := 2) sc_Device___init.nd rfl (Or.inl rfl) (pe_op op_rep (pe_lst (pa_cons pe_non pa_nil)) (pe_fld (pv 1) rfl))))
       pss_nil)
       (pss_cons (ps_fld (pv 0) (pv 1) rfl)
       (pss_cons (ps_fld (pv 0) (pe_callTy c_list (by rfl) T.n_list (by decide +kernel) (pa_cons (pv 2) pa_nil)) rfl)
       (pss_cons (ps_fld (pv 0) (pe_callTy c_list (by rfl) T.n_list (by decide +kernel) (pa_cons (pv 2) pa_nil)) rfl)
       (pss_cons (ps_fld (pv 0) (pe_lst pa_nil) rfl)
       (pss_cons (ps_fld (pv 0) pe_non rfl)
       (pss_one (ps_fld (pv 0) pe_bl rfl)))))))), ?_⟩
    try dsimp only [cxOf, Cx.nox, Cx.wish]
    obtain ⟨H0, d, dx, lay, L, b, xs, rfl, hd, s0, n0, ⟨ldx, lfs, hlay, hL⟩, hb, q⟩ := h
    have clL := T.cl_Layout
    have naL := T.na_Layout_device_blocks
    have lkL := hL.dev
    have cl := T.cl_Device
    have na1 := T.na_Device_layout
    have na2 := T.na_Device__sure
    have na3 := T.na_Device__shown
    have na4 := T.na_Device__unsure
    have na5 := T.na_Device__commands_left
    have na6 := T.na_Device__power_is_off
    walk_at "rd"
    refine r_cut (fun σ' H' => ∃ l, σ' = [some (.ref d), some (.ref lay), some (.ref l)] ∧ Same H H' ∧ SqL K H' l xs) ?_ ?_
    · rcases hb with ⟨rfl, d0, d1, rfl⟩ | ⟨l, rfl, hl⟩
      · walk_at "rd"
        refine r_rep (by walk_at "hp") (by omega) (by omega) ?_ ?_
        · show 1 * _ ≤ sizeLine
          rw [sz]
          omega
        rw [rep_non]
        walk_at "al"
        walk_at "rd"
        exact ⟨_, rfl, by walk_at "sm", by walk_at "hp"⟩
      · walk_at "rd"
        exact ⟨l, rfl, Same.refl _, hl⟩
    · rintro _ H1 ⟨l, rfl, s1, hl⟩
      have hd1 : H1 d = some (.ins T.A_Device dx []) := s1 _ _ hd
      walk_at "rd"
      rename_i H2 e2 h2
      refine r_listl (SqL.keep hl hd1 e2) ?_
      walk_at "al"
      walk_at "rd"
      rename_i su nsu H3 s3 hsu H4 e4 h4
      have hd3 := s3 _ _ h2
      refine r_listl (SqL.keep (s3.seq (SqL.keep hl hd1 e2)) hd3 e4) ?_
      walk_at "al"
      walk_at "rd"
      rename_i sh nsh H5 s5 hsh H6 e6 h6 un nun H7 s7 hun H8 e8 h8 H9 e9 h9 H10 e10 h10
      have b1 : Same H0 H2 := Same.old (s0.trans s1) n0 e2
      have b3 : Same H0 H4 := Same.old (b1.trans s3) n0 e4
      have b5 : Same H0 H6 := Same.old (b3.trans s5) n0 e6
      have b7 : Same H0 H8 := Same.old (b5.trans s7) n0 e8
      have b9 : Same H0 H10 := Same.old (Same.old b7 n0 e9) n0 e10
      have l4 : ∀ {x : Addr} {ys : List V}, H3 x = some (.lst ys) → H4 x = some (.lst ys) := fun h => at_keep e4 h hd3 (by intro z; cases z)
      have l6 : ∀ {x : Addr} {ys : List V}, H5 x = some (.lst ys) → H6 x = some (.lst ys) := fun h => at_keep e6 h (s5 _ _ h4) (by intro z; cases z)
      have l8 : ∀ {x : Addr} {ys : List V}, H7 x = some (.lst ys) → H8 x = some (.lst ys) := fun h => at_keep e8 h (s7 _ _ h6) (by intro z; cases z)
      have l9 : ∀ {x : Addr} {ys : List V}, H8 x = some (.lst ys) → H10 x = some (.lst ys) := fun h => at_keep e10 (at_keep e9 h h8 (by intro z; cases z)) h9 (by intro z; cases z)
      have c4 := l4 hsu
      have c6 := l6 (s5 _ _ c4)
      have c8 := l8 (s7 _ _ c6)
      have d6 := l6 hsh
      have d8 := l8 (s7 _ _ d6)
      have e8' := l8 hun
      have k2 : Keeps H1 H2 := Keeps.upd hd1 insNF e2
      have k4 : Keeps H2 H4 := (Keeps.of s3).trans (Keeps.upd hd3 insNF e4)
      have k6 : Keeps H4 H6 := (Keeps.of s5).trans (Keeps.upd (s5 _ _ h4) insNF e6)
      have k8 : Keeps H6 H8 := (Keeps.of s7).trans (Keeps.upd (s7 _ _ h6) insNF e8)
      have k10 : Keeps H8 H10 := (Keeps.upd h8 insNF e9).trans (Keeps.upd h9 insNF e10)
      refine q _ ⟨b9, n0, dx, _, su, sh, un, [], h10, ⟨Sg.putF_len (Sg.putF_len (Sg.putF_len (Sg.putF_len (Sg.putF_len (Sg.putF_len (Nat.zero_le _)))))), by walk_at "lk", by walk_at "lk", by walk_at "lk", by walk_at "lk", by walk_at "lk", by walk_at "lk", by walk_at "lk", by walk_at "lk", by walk_at "lk", by walk_at "lk", by walk_at "lk", by walk_at "lk", by walk_at "lk", by walk_at "lk", by walk_at "lk", by walk_at "lk", by walk_at "lk"⟩,
        b1.free nsu, b3.free nsh, b5.free nun, fun e => ?_, fun e => ?_, fun e => ?_, l9 c8, l9 d8, l9 e8', .nil⟩ ((Keeps.of s1).trans (k2.trans (k4.trans (k6.trans (k8.trans k10)))))
      · rw [← e, c4] at nsh
        cases nsh
      · rw [← e, c6] at nun
        cases nun
      · rw [← e, d6] at nun
        cases nun

/-! ### what a device tells, and what is left of it -/
theorem newM_of {lay : Addr} {xs : List V} : (newM lay xs).sure = xs ∧ (newM lay xs).shown = xs ∧ (newM lay xs).wait = [] ∧ (newM lay xs).off = false ∧ (newM lay xs).lay = lay := ⟨rfl, rfl, rfl, rfl, rfl⟩
/-- a new thing stands ahead of it -/
theorem DevIn.more {C : Addr} {H0 H : Hp} {d l : Addr} {m : DevM} {o : HO} (h : DevIn C H0 H d m) (n : H l = none) : DevIn C (upd H0 l o) (upd H l o) d m := by
  obtain ⟨s0, n0, dx, fs, su, sh, un, us, h1, h2, h3, h4, h5, h6, h7, h8, h9, h10, h11, h12⟩ := h
  have ne : ∀ {x : Addr} {u : HO}, H x = some u → x ≠ l := fun h z => by rw [z, n] at h; cases h
  have hs : Same H (upd H l o) := fun b u q => by rw [upd_ne (ne q)]; exact q
  refine ⟨fun b u q => ?_, by rw [upd_ne (ne h1)]; exact n0, dx, fs, su, sh, un, us, hs _ _ h1, h2, by rw [upd_ne (ne h9)]; exact h3, by rw [upd_ne (ne h10)]; exact h4, by rw [upd_ne (ne h11)]; exact h5, h6, h7, h8,
    hs _ _ h9, hs _ _ h10, hs _ _ h11, pairs_keeps (Keeps.of hs) h12⟩
  by_cases hb : b = l
  · rw [hb, upd_same] at q
    rw [hb, upd_same]
    exact q
  · rw [upd_ne hb] at q
    rw [upd_ne hb]
    exact s0 _ _ q
def sp_pending (C : Addr) : Sp := fun vs H Q _ => ∃ (H0 : Hp) (d : Addr) (m : DevM), vs = [.ref d] ∧ DevIn C H0 H d m ∧ Q (.int m.wait.length) H
theorem ok_Device_pending (T : Txt K mg) : FnOk P w K mg base CX0 1 T.a_Device_pending T.fd_Device_pending ["self"] (sp_pending T.A_Device) := by
  refine T.F_Device_pending.ok sc_Device_pending (fun vs H Q E h => ?_) (fun cdv A outer s H vs Q E hr h => ?_)
  · obtain ⟨H0, d, m, rfl, _⟩ := h
    rfl
  · refine ⟨_, (pss_one (ps_ret (pe_callB (c_len) (by rfl) T.n_len (by decide +kernel) (pa_cons (pe_fld (pv 0) rfl) pa_nil)))), ?_⟩
    try dsimp only [cxOf, Cx.nox, Cx.wish]
    obtain ⟨H0, d, m, rfl, ⟨s0, n0, dx, fs, su, sh, un, us, h1, h2, h3, h4, h5, h6, h7, h8, h9, h10, h11, h12⟩, q⟩ := h
    have cl := T.cl_Device
    have na1 := T.na_Device__unsure
    have lku := h2.uns
    walk_at "rd"
    rw [List.length_map, Paired.length h12]
    exact q
def sp_was_cut (C : Addr) : Sp := fun vs H Q _ => ∃ (H0 : Hp) (d : Addr) (m : DevM), vs = [.ref d] ∧ DevIn C H0 H d m ∧ Q (.bl m.off) H
theorem ok_Device_was_cut (T : Txt K mg) : FnOk P w K mg base CX0 1 T.a_Device_was_cut T.fd_Device_was_cut ["self"] (sp_was_cut T.A_Device) := by
  refine T.F_Device_was_cut.ok sc_Device_was_cut (fun vs H Q E h => ?_) (fun cdv A outer s H vs Q E hr h => ?_)
  · obtain ⟨H0, d, m, rfl, _⟩ := h
    rfl
  · refine ⟨_, (pss_one (ps_ret (pe_fld (pv 0) rfl))), ?_⟩
    try dsimp only [cxOf, Cx.nox, Cx.wish]
    obtain ⟨H0, d, m, rfl, ⟨s0, n0, dx, fs, su, sh, un, us, h1, h2, h3, h4, h5, h6, h7, h8, h9, h10, h11, h12⟩, q⟩ := h
    have cl := T.cl_Device
    have na1 := T.na_Device__power_is_off
    have lku := h2.off
    walk_at "rd"
    exact q
def sp_sure_blocks (C : Addr) : Sp := fun vs H Q _ => ∃ (H0 : Hp) (d : Addr) (m : DevM), vs = [.ref d] ∧ DevIn C H0 H d m ∧ ∀ l H', H l = none → upd H l (.lst m.sure) = H' → Q (.ref l) H'
theorem ok_Device_sure_blocks (T : Txt K mg) : FnOk P w K mg base CX0 1 T.a_Device_sure_blocks T.fd_Device_sure_blocks ["self"] (sp_sure_blocks T.A_Device) := by
  refine T.F_Device_sure_blocks.ok sc_Device_sure_blocks (fun vs H Q E h => ?_) (fun cdv A outer s H vs Q E hr h => ?_)
  · obtain ⟨H0, d, m, rfl, _⟩ := h
    rfl
  · refine ⟨_, (pss_one (ps_ret (pe_callTy c_list (by rfl) T.n_list (by decide +kernel) (pa_cons (pe_fld (pv 0) rfl) pa_nil)))), ?_⟩
    try dsimp only [cxOf, Cx.nox, Cx.wish]
    obtain ⟨H0, d, m, rfl, ⟨s0, n0, dx, fs, su, sh, un, us, h1, h2, h3, h4, h5, h6, h7, h8, h9, h10, h11, h12⟩, q⟩ := h
    have cl := T.cl_Device
    have na1 := T.na_Device__sure
    have lku := h2.sure
    have g9 : True ∧ H su = some (.lst m.sure) := ⟨trivial, h9⟩
    clear h9
    walk_at "rd"
    refine r_listl (.of g9.2) (fun l hl => ?_)
    exact q l _ hl rfl
/-- the blocks that are left -/
def leftN (w : List (Int × V)) (xs : List V) (kept torn : List Int) : Nat → List V
  | 0 => xs
  | i + 1 =>
    if (i : Int) ∈ torn then putB (leftN w xs kept torn i) (w.getD i (0, .non)).1 .non else if (i : Int) ∈ kept then putB (leftN w xs kept torn i) (w.getD i (0, .non)).1 (w.getD i (0, .non)).2 else leftN w xs kept torn i
theorem leftN_none (w : List (Int × V)) (xs : List V) : ∀ n, leftN w xs [] [] n = xs
  | 0 => rfl
  | n + 1 => by
    rw [leftN, if_neg (by simp), if_neg (by simp)]
    exact leftN_none w xs n
theorem leftN_all (w : List (Int × V)) (xs : List V) (kept : List Int) (h : ∀ i : Nat, i < w.length → (i : Int) ∈ kept) : ∀ n, n ≤ w.length → leftN w xs kept [] n = (w.take n).foldl (fun xs p => putB xs p.1 p.2) xs
  | 0, _ => rfl
  | n + 1, hn => by
    have hl : n < w.length := by omega
    rw [leftN, if_neg (by simp), if_pos (h n hl), leftN_all w xs kept h n (by omega), List.take_add_one, List.getElem?_eq_getElem hl, List.foldl_append, List.getD_eq_getElem?_getD, List.getElem?_eq_getElem hl]
    rfl
def leftF (m : DevM) (kept torn : List Int) : List V := leftN m.wait m.sure kept torn m.wait.length
def SqI (K : PySem.W.Frag) (H : Hp) (l : Addr) (ns : List Int) : Prop := SqL K H l (ns.map V.int) ∨ SqT K H l (ns.map V.int)
theorem SqI.mono {K : PySem.W.Frag} {H H' : Hp} {l : Addr} {ns : List Int} (s : Same H H') (h : SqI K H l ns) : SqI K H' l ns := h.imp (fun h => s.seq h) (fun h => Same.tup s h)
def sp_left (K : PySem.W.Frag) (C CL : Addr) : Sp := fun vs H Q _ => ∃ (H0 : Hp) (d k t : Addr) (m : DevM) (L : Lay) (kept torn : List Int), vs = [.ref d, .ref k, .ref t] ∧ DevIn C H0 H d m ∧ SqI K H k kept ∧ SqI K H t torn ∧ kept.length ≤ 4000 ∧ torn.length ≤ 4000 ∧ LayAt CL L H m.lay ∧
  ∀ H' d', Same H H' → DevIn C H H' d' (newM m.lay (leftF m kept torn)) → Q (.ref d') H'
theorem ok_Device_left (T : Txt K mg) : FnOk P w K mg base CX0 3 T.a_Device_left T.fd_Device_left ["self", "kept", "torn"] (sp_left K T.A_Device T.A_Layout) := by
  refine fund_okN T.F_Device_left sc_Device_left (fun vs H Q E h => ?_) (fun cdv A outer s H vs Q E hr h => ?_)
  · obtain ⟨H0, d, k, t, m, L, kept, torn, rfl, _⟩ := h
    rfl
  · refine ⟨_, (pss_cons (ps_set (i := 3) sc_Device_left.nd rfl (Or.inl rfl) (pe_callTy (c_set rfl) (by rfl) T.n_set (by decide +kernel) (pa_cons (pv 1) pa_nil)))
       (pss_cons (ps_set (i := 4) sc_Device_left.nd rfl (Or.inl rfl) (pe_callTy (c_set rfl) (by rfl) T.n_set (by decide +kernel) (pa_cons (pv 2) pa_nil)))
       (pss_cons (ps_set (i := 5) sc_Device_left.nd rfl (Or.inl rfl) (pe_callTy c_list (by rfl) T.n_list (by decide +kernel) (pa_cons (pe_fld (pv 0) rfl) pa_nil)))
       (pss_cons (ps_for PassesOwn.never rfl (pi_enum (by rfl) T.n_enumerate (pa_cons (pe_fld (pv 0) rfl) pa_nil)) (pg_tup (by rfl) (pgs_cons (pg_name (i := 6) sc_Device_left.nd rfl (Or.inl rfl)) (pgs_cons (pg_tup (by rfl) (pgs_cons (pg_name (i := 7) sc_Device_left.nd rfl (Or.inl rfl)) (pgs_cons (pg_name (i := 8) sc_Device_left.nd rfl (Or.inl rfl)) pgs_nil))) pgs_nil)))
       (pss_one (ps_if (pt_cmpR or_inS (pv 6) (pv 4) (by with_unfolding_all rfl))
       (pss_one (ps_expr (pe_call (ok_put_block T) (hr.mono (by decide)) rfl T.m_put_block T.F_put_block.kp T.b_put_block .nil pass0 (pa_cons (pv 5) (pa_cons (pv 7) (pa_cons pe_non pa_nil))))))
       (pss_one (ps_if (pt_cmpR or_inS (pv 6) (pv 3) (by with_unfolding_all rfl))
       (pss_one (ps_expr (pe_call (ok_put_block T) (hr.mono (by decide)) rfl T.m_put_block T.F_put_block.kp T.b_put_block .nil pass0 (pa_cons (pv 5) (pa_cons (pv 7) (pa_cons (pv 8) pa_nil))))))
       pss_nil)))))
       (pss_one (ps_ret (pe_make T.M_Device (ok_Device___init T) (hr.mono (by decide)) rfl T.m_Device T.b_Device___init .nil pass0 (pa_cons (pe_fld (pv 0) rfl) (pa_cons (pv 5) pa_nil))))))))), ?_⟩
    try dsimp only [cxOf, Cx.nox, Cx.wish]
    obtain ⟨H0, d, k, t, m, L, kept, torn, rfl, hD, hk, ht, lk, lt, ⟨ldx, lfs, hlay, hL⟩, q⟩ := h
    obtain ⟨s0, n0, dx, fs, su, sh, un, us, h1, h2, h3, h4, h5, h6, h7, h8, h9, h10, h11, h12⟩ := hD
    have cl := T.cl_Device
    have na1 := T.na_Device__sure
    have na2 := T.na_Device__unsure
    have na3 := T.na_Device_layout
    have lks := h2.sure
    have lku := h2.uns
    have lkl := h2.lay
    walk_at "rd"
    refine r_setOf kept hk lk (fun pk ck npk => ?_)
    generalize hH1 : upd _ _ _ = H1
    have s1 := Same.of_new hH1 npk
    have a1 := Sg.at_new hH1
    walk_at "rd"
    refine r_setOf torn (ht.mono s1) lt (fun pt ct npt => ?_)
    generalize hH2 : upd _ _ _ = H2
    have s2 := Same.of_new hH2 npt
    have a2 := Sg.at_new hH2
    walk_at "rd"
    rename_i pb npb H3 s3 a3
    refine r_ienum ?_
    walk_at "rd"
    refine r_kIe (xs := us.map V.ref) (by walk_at "hp") ?_
    have s03 : Same H H3 := (s1.trans s2).trans s3
    have nb : H pb = none := (s1.trans s2).free npb
    refine r_forE (xs := us.map V.ref) (fun i σ' H' => ∃ v6 v7 v8 : Option V, σ' = [some (.ref d), some (.ref k), some (.ref t), some (.ref pk), some (.ref pt), some (.ref pb), v6, v7, v8] ∧ Same H H' ∧ H' pk = some (.set (fun k => decide (k ∈ kept)) ck) ∧ H' pt = some (.set (fun k => decide (k ∈ torn)) ct) ∧
      H' pb = some (.lst (leftN m.wait m.sure kept torn i))) ?_ ?_ ?_ ?_
    · exact ⟨_, _, _, rfl, s03, s3 _ _ (s2 _ _ a1), s3 _ _ a2, a3⟩
    · rintro i σ' H' _ ⟨v6, v7, v8, rfl, sH, _⟩
      exact .of (sH _ _ h11)
    · rintro i x σ' H' H'' T' hx ⟨v6, v7, v8, rfl, sH, hpk, hpt, hpb⟩ nT hT
      rw [List.getElem?_map] at hx
      obtain ⟨u, hu, rfl⟩ := Option.map_eq_some_iff.mp hx
      obtain ⟨p, ep, hp⟩ := paired_at h12 hu
      have sT := Same.of_new hT nT
      have aT := Sg.at_new hT
      have hu2 := sT _ _ (sH _ _ hp)
      have e1 : m.wait.getD i (0, .non) = p := by rw [List.getD_eq_getElem?_getD, ep]; rfl
      have es : leftN m.wait m.sure kept torn (i + 1) = if (i : Int) ∈ torn then putB (leftN m.wait m.sure kept torn i) p.1 .non else if (i : Int) ∈ kept then putB (leftN m.wait m.sure kept torn i) p.1 p.2 else leftN m.wait m.sure kept torn i := by
        rw [leftN, e1]
      have fin : ∀ (xs : List V) (Hn : Hp), upd H'' pb (.lst xs) = Hn → Same H Hn ∧ Hn pk = some (.set (fun k => decide (k ∈ kept)) ck) ∧ Hn pt = some (.set (fun k => decide (k ∈ torn)) ct) ∧ Hn pb = some (.lst xs) := fun xs Hn e =>
        ⟨Same.old (sH.trans sT) nb e, at_keep e (sT _ _ hpk) (sT _ _ hpb) (by intro z; cases z), at_keep e (sT _ _ hpt) (sT _ _ hpb) (by intro z; cases z), Sg.at_new e⟩
      walk_at "rd"
      refine r_inS (sT _ _ hpt) ?_
      walk_at "rd"
      refine r_ite (fun c1 => ?_) (fun c1 => ?_)
      · walk_at "rd"
        refine ⟨pb, p.1, .non, _, rfl, sT _ _ hpb, fun H4 hH4 => ?_⟩
        obtain ⟨f1, f2, f3, f4⟩ := fin _ _ hH4
        refine ⟨_, _, _, rfl, f1, f2, f3, ?_⟩
        rw [es, if_pos c1]
        exact f4
      · walk_at "rd"
        refine r_inS (sT _ _ hpk) ?_
        walk_at "rd"
        refine r_ite (fun c2 => ?_) (fun c2 => ?_)
        · walk_at "rd"
          refine ⟨pb, p.1, p.2, _, rfl, sT _ _ hpb, fun H4 hH4 => ?_⟩
          obtain ⟨f1, f2, f3, f4⟩ := fin _ _ hH4
          refine ⟨_, _, _, rfl, f1, f2, f3, ?_⟩
          rw [es, if_neg c1, if_pos c2]
          exact f4
        · walk_at "rd"
          refine ⟨_, _, _, rfl, sH.trans sT, sT _ _ hpk, sT _ _ hpt, ?_⟩
          rw [es, if_neg c1, if_neg c2]
          exact sT _ _ hpb
    · rintro σ' H' ⟨v6, v7, v8, rfl, sH, hpk, hpt, hpb⟩
      rw [List.length_map, Paired.length h12] at hpb
      have h1' := sH _ _ h1
      walk_at "rd"
      intro d2 dx2 nd2 ndx2 ned2
      have hl' := sH _ _ hlay
      have smk : Same H' (upd (upd H' dx2 (.own d2)) d2 (.ins T.A_Device dx2 [])) := fun b u e => by
        rw [upd_ne (ne_of_none e nd2), upd_ne (ne_of_none e ndx2)]
        exact e
      refine ⟨H, d2, dx2, m.lay, L, .ref pb, _, rfl, upd_same, sH.trans smk, sH.free nd2, ⟨ldx, lfs, smk _ _ hl', hL⟩, .inr ⟨pb, rfl, .of (smk _ _ hpb)⟩, fun H4 hD4 hK4 => ⟨rfl, q H4 d2 hD4.same hD4⟩⟩

/-! ### a drawn block -/
structure LayB (L : Lay) : Prop where
  l0 : 45 ≤ L.last
  l1 : L.last ≤ 465
  d0 : 64 ≤ L.dev
  d1 : L.dev ≤ 1000
  z0 : 64 ≤ L.size
  z1 : L.size ≤ 256
  f0 : 32 ≤ L.fan
  f1 : L.fan ≤ 128
theorem Fits.bounds {s b z : Int} (h : Fits s b z) : LayB (layOf s b z) := by
  obtain ⟨s0, s1, b0, b1, hz, _⟩ := h
  have e : (s - 2) * (b - 1) + (b - 1) = (s - 1) * (b - 1) := by
    have e : s - 1 = (s - 2) + 1 := by omega
    rw [e, Int.add_mul, Int.one_mul]
  have h1 : 3 * (b - 1) ≤ (s - 1) * (b - 1) := Int.mul_le_mul_of_nonneg_right (by omega) (by omega)
  have h2 : (s - 1) * (b - 1) ≤ 15 * (b - 1) := Int.mul_le_mul_of_nonneg_right (by omega) (by omega)
  have h3 : 4 * b ≤ s * b := Int.mul_le_mul_of_nonneg_right (by omega) (by omega)
  have h4 : s * b ≤ 16 * b := Int.mul_le_mul_of_nonneg_right (by omega) (by omega)
  have e1 : (layOf s b z).last = (s - 1) * (b - 1) := e
  have e2 : (layOf s b z).dev = 2 * ((2 * (4 * ((s - 1) * (b - 1)) + 6 + s) + z - 1) / z) + s * b := by
    show 2 * ((2 * (4 * ((s - 2) * (b - 1) + (b - 1)) + 6 + s) + z - 1) / z) + s * b = _
    rw [e]
  have e3 : (layOf s b z).size = z := rfl
  have e4 : (layOf s b z).fan = z / 2 := rfl
  generalize (s - 1) * (b - 1) = l at h1 h2 e1 e2
  generalize s * b = d at h3 h4 e2
  constructor
  · omega
  · omega
  · rcases hz with rfl | rfl | rfl <;> omega
  · rcases hz with rfl | rfl | rfl <;> omega
  · rcases hz with rfl | rfl | rfl <;> omega
  · rcases hz with rfl | rfl | rfl <;> omega
  · rcases hz with rfl | rfl | rfl <;> omega
  · rcases hz with rfl | rfl | rfl <;> omega
def sp_law_block (K : PySem.W.Frag) (CL : Addr) : Sp := fun vs H Q _ => ∃ (lay : Addr) (L : Lay) (r sq : Int), vs = [.ref lay, .int r, .int sq] ∧ LayAt CL L H lay ∧ LayB L ∧ ∀ H' v, Same H H' → Bk K H' v → Q v H'
theorem ok_law_block (T : Txt K mg) : FnOk P w K mg base CX0 2 T.a_law_block T.fd_law_block ["layout", "row", "sequence"] (sp_law_block K T.A_Layout) := by
  refine T.F_law_block.ok sc_law_block (fun vs H Q E h => ?_) (fun cdv A outer s H vs Q E hr h => ?_)
  · obtain ⟨lay, L, r, sq, rfl, _⟩ := h
    rfl
  · refine ⟨_, (pss_cons (ps_asg (pe_call (ok_law_digits T) (hr.mono (by decide)) rfl T.m_law_digits T.F_law_digits.kp T.b_law_digits .nil pass0 (pa_cons (pv 1) (pa_cons (pe_lst (pa_cons pe_int (pa_cons pe_int (pa_cons (pe_op op_pow pe_int pe_int) pa_nil)))) pa_nil))) (pg_unl (by rfl) (pgs_cons (pg_name (i := 3) sc_law_block.nd rfl (Or.inl rfl)) (pgs_cons (pg_name (i := 4) sc_law_block.nd rfl (Or.inl rfl)) (pgs_cons (pg_name (i := 5) sc_law_block.nd rfl (Or.inl rfl)) pgs_nil)))))
       (pss_cons (ps_set (i := 6) sc_law_block.nd rfl (Or.inl rfl) (pe_op op_add pe_int (pe_op op_mod (pv 5) (pe_fld (pv 0) rfl))))
       (pss_cons (ps_if (pt_cmpR op_eq (pv 3) pe_int (nomark _))
       (pss_one (ps_ret (pe_tup (pa_cons pe_int (pa_cons (pv 2) (pa_cons pe_int (pa_cons (pe_tup (pa_cons (pe_tup (pa_cons (pv 6) pa_nil)) (pa_cons (pe_tup (pa_cons (pv 6) pa_nil)) (pa_cons (pe_op op_mod (pv 5) pe_int) pa_nil)))) pa_nil)))))))
       pss_nil)
       (pss_cons (ps_if (pt_cmpR op_eq (pv 3) pe_int (nomark _))
       (pss_one (ps_ret (pe_tup (pa_cons pe_int (pa_cons (pv 2) (pa_cons pe_int (pa_cons (pe_tup (pa_cons (pe_op op_mod (pv 5) (pe_fld (pv 0) rfl)) pa_nil)) pa_nil)))))))
       pss_nil)
       (pss_cons (ps_if (pt_cmpR op_eq (pv 3) pe_int (nomark _))
       (pss_one (ps_ret (pe_tup (pa_cons pe_int (pa_cons (pv 2) (pa_cons (pv 4) (pa_cons (pe_op op_catT (pe_op op_repT (pe_tup (pa_cons (pe_op op_mod (pv 5) pe_int) pa_nil)) (pe_op op_sub (pe_fld (pv 0) rfl) pe_int)) (pe_tup (pa_cons (pe_op op_mod (pe_op op_fdiv (pv 5) pe_int) pe_int) pa_nil))) pa_nil)))))))
       pss_nil)
       (pss_cons (ps_if (pt_cmpR op_eq (pv 3) pe_int (nomark _))
       (pss_one (ps_ret (pe_tup (pa_cons pe_int (pa_cons (pv 2) (pa_cons (pv 4) (pa_cons (pe_op op_repT (pe_tup (pa_cons (pv 6) pa_nil)) (pe_fld (pv 0) rfl)) pa_nil)))))))
       pss_nil)
       (pss_cons (ps_if (pt_cmpR op_eq (pv 3) pe_int (nomark _))
       (pss_one (ps_ret (pe_tup (pa_cons pe_int (pa_cons (pv 2) (pa_cons (pv 4) (pa_cons (pe_op op_repT (pe_tup (pa_cons (pe_op op_mod (pv 5) pe_int) pa_nil)) (pe_fld (pv 0) rfl)) pa_nil)))))))
       pss_nil)
       (pss_one (ps_ret pe_non))))))))), ?_⟩
    try dsimp only [cxOf, Cx.nox, Cx.wish]
    obtain ⟨lay, L, r, sq, rfl, ⟨dx, fs, hp, hL⟩, ⟨l0, l1, d0, d1, z0, z1, f0, f1⟩, q⟩ := h
    have cl := T.cl_Layout
    have na1 := T.na_Layout_last_id
    have na2 := T.na_Layout_device_blocks
    have na3 := T.na_Layout_block_size
    have na4 := T.na_Layout_fan
    have lk1 := hL.last
    have lk2 := hL.dev
    have lk3 := hL.size
    have lk4 := hL.fan
    walk_at "rd"
    refine ⟨_, _, [6, 32, 10 ^ 9], rfl, by walk_at "hp", by simp, by decide, fun H1 d ds s1 n1 h1 hd => ?_⟩
    obtain _ | ⟨⟨a0, a1⟩, _ | ⟨⟨b0, b1⟩, _ | ⟨⟨c0, c1⟩, _ | _⟩⟩⟩ := hd
    rename_i choice rank rest
    walk_at "rd"
    refine r_ite (fun _ => ?_) (fun _ => ?_)
    · walk_at "rd"
      exact q _ _ (by walk_at "sm") ⟨_, by walk_at "dp", by walk_at "fl", by rfl⟩
    walk_at "rd"
    refine r_ite (fun _ => ?_) (fun _ => ?_)
    · walk_at "rd"
      exact q _ _ (by walk_at "sm") (Bk.mk (ns := [_]) (by walk_at "hp") (by walk_at "hp"))
    walk_at "rd"
    refine r_ite (fun _ => ?_) (fun _ => ?_)
    · walk_at "rd"
      rename_i za hza za0 za1 pt1 npt1 Hpt1 spt1 hpt1
      refine ⟨_, _, _, rfl, rfl, by walk_at "hp", by simp, by omega, by omega, by simp, ?_⟩
      rw [rep_ints]
      walk_at "al"
      walk_at "rd"
      rename_i pr npr Hr sr hpr zb hzb zb0 zb1 pq npq Hq sq' hpq
      refine ⟨_, _, _, _, rfl, rfl, by walk_at "hp", by walk_at "hp", ?_, ?_, fun z => absurd z (by simp), fun _ => ?_⟩
      · intro z
        have z' := congrArg List.length z
        rw [List.length_map, List.length_replicate] at z'
        simp at z'
        omega
      · rw [List.length_map, List.length_replicate, sz]
        simp
        omega
      walk_at "al"
      walk_at "rd"
      rename_i pb _ Hb _ hpb pt _ Ht _ hpt
      refine q _ _ (by walk_at "sm") (Bk.mk (ns := List.replicate (L.size - 1).toNat za ++ [zb]) (by walk_at "hp") ?_)
      rw [List.map_append]
      walk_at "hp"
    walk_at "rd"
    refine r_ite (fun _ => ?_) (fun _ => ?_)
    · walk_at "rd"
      refine ⟨_, _, _, rfl, rfl, by walk_at "hp", by simp, by omega, by omega, by simp, ?_⟩
      rw [rep_ints]
      walk_at "al"
      walk_at "rd"
      exact q _ _ (by walk_at "sm") (Bk.mk (by walk_at "hp") (by walk_at "hp"))
    walk_at "rd"
    refine r_ite (fun _ => ?_) (fun _ => ?_)
    · walk_at "rd"
      refine ⟨_, _, _, rfl, rfl, by walk_at "hp", by simp, by omega, by omega, by simp, ?_⟩
      rw [rep_ints]
      walk_at "al"
      walk_at "rd"
      exact q _ _ (by walk_at "sm") (Bk.mk (by walk_at "hp") (by walk_at "hp"))
    walk_at "rd"
    exact q _ _ (by walk_at "sm") Bk.non

theorem readF_in {m : DevM} {xs : List V} {a : Int} (e : m.shown = xs) (h0 : 0 ≤ a) (h1 : a < xs.length) : readF m a = xs.getD a.toNat .non := by
  rw [readF, e, if_pos ⟨h0, h1⟩]
theorem getD_in {xs : List V} {a : Int} (h0 : 0 ≤ a) (h1 : a < xs.length) : xs.getD a.toNat .non ∈ xs := by
  rw [List.getD_eq_getElem?_getD, List.getElem?_eq_getElem (by omega)]
  exact List.getElem_mem _
/-- lists of blocks are data -/
theorem bks {K : PySem.W.Frag} {H : Hp} : ∀ {xs : List V}, (∀ v ∈ xs, Bk K H v) → ∃ ds, DpAll K H xs ds ∧ ∀ d ∈ ds, Fl 3 d
  | [], _ => ⟨[], .nil, fun d hd => by cases hd⟩
  | x :: xs, h => by
    obtain ⟨d, h1, h2, _⟩ := h x (List.mem_cons_self ..)
    obtain ⟨ds, g1, g2⟩ := bks (xs := xs) (fun v hv => h v (List.mem_cons_of_mem _ hv))
    refine ⟨d :: ds, .cons h1 g1, fun e he => ?_⟩
    rcases List.mem_cons.mp he with rfl | he
    · exact h2
    · exact g2 _ he
/-- equal lists of blocks -/
theorem r_neL {K : PySem.W.Frag} {H : Hp} {a b : Addr} {xs : List V} {Q : V → Hp → Prop} (ha : SqL K H a xs) (hb : SqL K H b xs) (h : ∀ v ∈ xs, Bk K H v) (q : Q (.bl false) H) : rNeD K (.ref a) (.ref b) H Q := by
  obtain ⟨ds, h1, h2⟩ := bks h
  have f := Fl.lst h2
  refine r_ned (.lst ha h1) (.lst hb h1) f.shaped f.shaped ?_
  rw [f.self]
  exact q
theorem takeF_on {m : DevM} (h : m.left = none) : takeF m = m := by
  unfold takeF
  rw [h]
theorem barrierF_on {m : DevM} (h : m.left = none) (o : m.off = false) : barrierF m = { m with sure := m.wait.foldl (fun xs p => putB xs p.1 p.2) m.sure, wait := [] } := by
  unfold barrierF
  rw [takeF_on h, if_neg (by rw [o]; decide)]
theorem writeF_on {m : DevM} (h : m.left = none) (o : m.off = false) (a : Int) (v : V) : writeF m a v = { m with wait := m.wait ++ [(a, v)], shown := putB m.shown a v } := by
  unfold writeF
  rw [takeF_on h, if_neg (by rw [o]; decide)]
theorem putB_in {xs : List V} {a : Int} {v : V} (h0 : 0 ≤ a) (h1 : a < xs.length) : putB xs a v = xs.set a.toNat v := by
  rw [putB, if_pos ⟨h0, h1⟩]

theorem inV_ints (k : Int) : ∀ ns : List Int, inV (.int k) (ns.map V.int) = decide (k ∈ ns)
  | [] => rfl
  | n :: ns => by
    have ih := inV_ints k ns
    unfold inV at ih ⊢
    rw [List.map_cons, List.any_cons, ih]
    by_cases e : k = n
    · subst e
      simp [eqV]
    · have e' : ¬ n = k := fun z => e z.symm
      simp [eqV, e, e']
theorem flat_ints : ∀ ns : List Int, (ns.map V.int).all flatV = true
  | [] => rfl
  | n :: ns => by rw [List.map_cons, List.all_cons, flat_ints ns]; rfl
theorem leftN_len {w : List (Int × V)} {xs : List V} {kept torn : List Int} : ∀ n, (leftN w xs kept torn n).length = xs.length
  | 0 => rfl
  | n + 1 => by
    rw [leftN]
    split
    · rw [putB_len, leftN_len n]
    · split
      · rw [putB_len, leftN_len n]
      · rw [leftN_len n]
theorem leftN_P {P : V → Prop} {w : List (Int × V)} {xs : List V} {kept torn : List Int} (h0 : P .non) (hx : ∀ v ∈ xs, P v) (hw : ∀ r ∈ w, P r.2) : ∀ n, n ≤ w.length → ∀ v ∈ leftN w xs kept torn n, P v
  | 0, _ => hx
  | n + 1, hn => by
    have ih := leftN_P (kept := kept) (torn := torn) h0 hx hw n (by omega)
    have hr : P (w.getD n (0, .non)).2 := by
      rw [List.getD_eq_getElem?_getD, List.getElem?_eq_getElem (by omega)]
      exact hw _ (List.getElem_mem _)
    have put : ∀ (a : Int) (v : V), P v → ∀ u ∈ putB (leftN w xs kept torn n) a v, P u := fun a v hv u hu => by
      unfold putB at hu
      split at hu
      · rcases List.mem_or_eq_of_mem_set hu with hu | rfl
        · exact ih u hu
        · exact hv
      · exact ih u hu
    rw [leftN]
    split
    · exact put _ _ h0
    · split
      · exact put _ _ hr
      · exact ih
def sp_law_left (K : PySem.W.Frag) : Sp := fun vs H Q _ => ∃ (s w k t : Addr) (ys : List V) (ts : List Addr) (ps : List (Int × V)) (kept torn : List Int), vs = [.ref s, .ref w, .ref k, .ref t] ∧ SqL K H s ys ∧ SqL K H w (ts.map V.ref) ∧
  Paired (fun (t : Addr) (r : Int × V) => H t = some (.tup [.int r.1, r.2])) ts ps ∧ (∀ r ∈ ps, 0 ≤ r.1 ∧ r.1 < ys.length) ∧ SqL K H k (kept.map V.int) ∧ SqL K H t (torn.map V.int) ∧ ps.length ≤ 1000 ∧
  ∀ H' b, Same H H' → H b = none → H' b = some (.lst (leftN ps ys kept torn ps.length)) → Q (.ref b) H'
theorem ok_law_left (T : Txt K mg) : FnOk P w K mg base CX0 1 T.a_law_left T.fd_law_left ["sure", "waiting", "kept", "torn"] (sp_law_left K) := by
  refine T.F_law_left.ok sc_law_left (fun vs H Q E h => ?_) (fun cdv A outer s H vs Q E hr h => ?_)
  · obtain ⟨s, w, k, t, ys, ts, ps, kept, torn, rfl, _⟩ := h
    rfl
  · refine ⟨_, (pss_cons (ps_set (i := 4) sc_law_left.nd rfl (Or.inl rfl) (pe_callTy c_list (by rfl) T.n_list (by decide +kernel) (pa_cons (pv 0) pa_nil)))
       (pss_cons (ps_for PassesOwn.never rfl (pi_range1 rfl T.n_range (pa_cons (pe_callB (c_len) (by rfl) T.n_len (by decide +kernel) (pa_cons (pv 1) pa_nil)) pa_nil)) (pg_name (i := 5) sc_law_left.nd rfl (Or.inl rfl))
       (pss_cons (ps_set (i := 6) sc_law_left.nd rfl (Or.inl rfl) (pe_ix ix_tup (pe_ix ix_list (pv 1) (pv 5) (fun _ _ => rfl)) pe_int (fun _ _ => rfl)))
       (pss_one (ps_if (pt_cmpR op_in_seq (pv 5) (pv 3) (by with_unfolding_all rfl))
       (pss_one (ps_asg pe_non (pg_sub (pv 4) (pv 6) set_list)))
       (pss_one (ps_if (pt_cmpR op_in_seq (pv 5) (pv 2) (by with_unfolding_all rfl))
       (pss_one (ps_asg (pe_ix ix_tup (pe_ix ix_list (pv 1) (pv 5) (fun _ _ => rfl)) pe_int (fun _ _ => rfl)) (pg_sub (pv 4) (pv 6) set_list)))
       pss_nil))))))
       (pss_one (ps_ret (pv 4))))), ?_⟩
    try dsimp only [cxOf, Cx.nox, Cx.wish]
    obtain ⟨s, w, k, t, ys, ts, ps, kept, torn, rfl, hs, hw, hp, hr0, hk, ht, hl, q⟩ := h
    have hw' : True ∧ SqL K H w (ts.map V.ref) := ⟨trivial, hw⟩
    have hk' : True ∧ SqL K H k (kept.map V.int) := ⟨trivial, hk⟩
    have ht' : True ∧ SqL K H t (torn.map V.int) := ⟨trivial, ht⟩
    clear hw hk ht
    have tl := Paired.length hp
    walk_at "rd"
    rename_i b nb H1 s1 hb
    refine r_lenl (s1.seq hw'.2) ?_
    rw [List.length_map, tl]
    obtain ⟨wi, hwi⟩ : ∃ wi : Int, wi = (ps.length : Int) := ⟨_, rfl⟩
    rw [← hwi]
    walk_at "rd"
    refine r_forR (fun i σ' H' => ∃ v5 v6 : Option V, σ' = [some (.ref s), some (.ref w), some (.ref k), some (.ref t), some (.ref b), v5, v6] ∧ Same H H' ∧ H' b = some (.lst (leftN ps ys kept torn i))) ⟨_, _, rfl, s1, hb⟩ ?_ ?_
    · rintro i σ' H' hi ⟨v5, v6, rfl, sH, hb'⟩
      have hi' : i < ps.length := by omega
      have e0 : (0 + (i : Int)) = i := by omega
      have it : ts[i]? = some (ts[i]'(by omega)) := List.getElem?_eq_getElem _
      generalize ts[i]'(by omega) = ti at it
      obtain ⟨r, er, hr⟩ := paired_at hp it
      have hri := hr0 r (List.mem_of_getElem? er)
      have hti := sH _ _ hr
      have at1 : atI (ts.map V.ref) (0 + (i : Int)) = some (.ref ti) := by
        rw [e0]
        exact atI_nat (by rw [List.getElem?_map, it]; rfl)
      have e1 : ps.getD i (0, .non) = r := by rw [List.getD_eq_getElem?_getD, er]; rfl
      have es : leftN ps ys kept torn (i + 1) = if (i : Int) ∈ torn then putB (leftN ps ys kept torn i) r.1 .non else if (i : Int) ∈ kept then putB (leftN ps ys kept torn i) r.1 r.2 else leftN ps ys kept torn i := by
        rw [leftN, e1]
      have hlen : r.1 < ((leftN ps ys kept torn i).length : Int) := by rw [leftN_len]; exact hri.2
      have pe : ∀ v, putB (leftN ps ys kept torn i) r.1 v = (leftN ps ys kept torn i).set r.1.toNat v := fun v => putB_in hri.1 hlen
      walk_at "rd"
      refine r_ixl (sH.seq hw'.2) at1 ?_
      walk_at "rd"
      refine r_in (.inl (sH.seq ht'.2)) rfl (flat_ints _) ?_
      rw [if_neg (by decide), inV_ints, e0]
      walk_at "rd"
      refine r_ite (fun c1 => ?_) (fun c1 => ?_)
      · walk_at "rd"
        refine r_setl hb' (ixN_ok hri.1 hlen) ?_
        refine ⟨_, _, rfl, Same.old sH nb rfl, ?_⟩
        rw [upd_same, es, if_pos c1, pe]
      · walk_at "rd"
        refine r_in (.inl (sH.seq hk'.2)) rfl (flat_ints _) ?_
        rw [if_neg (by decide), inV_ints]
        walk_at "rd"
        refine r_ite (fun c2 => ?_) (fun c2 => ?_)
        · walk_at "rd"
          refine r_ixl (sH.seq hw'.2) (by rw [← e0]; exact at1) ?_
          walk_at "rd"
          refine r_setl hb' (ixN_ok hri.1 hlen) ?_
          refine ⟨_, _, rfl, Same.old sH nb rfl, ?_⟩
          rw [upd_same, es, if_neg c1, if_pos c2, pe]
        · walk_at "rd"
          refine ⟨_, _, rfl, sH, ?_⟩
          rw [es, if_neg c1, if_neg c2]
          exact hb'
    · rintro σ' H' ⟨v5, v6, rfl, sH, hb'⟩
      have ew : wi.toNat = ps.length := by omega
      rw [ew] at hb'
      walk_at "rd"
      exact q _ _ sH nb hb'
def sp_law_choice (K : PySem.W.Frag) : Sp := fun vs H Q _ => ∃ (a : Addr) (ns : List Int) (at_ most : Int), vs = [.ref a, .int at_, .int most] ∧ Scr K H a ns ∧ ns.length ≤ 63 ∧ 0 ≤ at_ ∧ at_ ≤ 60 ∧ 0 ≤ most ∧
  ∀ (H' : Hp) (l : Addr) (ks : List Int), Same H H' → H l = none → H' l = some (.lst (ks.map V.int)) → ks.length ≤ 12 → Q (.ref l) H'
theorem ok_law_choice (T : Txt K mg) : FnOk P w K mg base CX0 2 T.a_law_choice T.fd_law_choice ["script", "at", "most"] (sp_law_choice K) := by
  refine T.F_law_choice.ok sc_law_choice (fun vs H Q E h => ?_) (fun cdv A outer s H vs Q E hr h => ?_)
  · obtain ⟨a, ns, at_, most, rfl, _⟩ := h
    rfl
  · refine ⟨_, (pss_cons (ps_set (i := 3) sc_law_choice.nd rfl (Or.inl rfl) (pe_lst pa_nil))
       (pss_cons (ps_asg (pe_call (ok_law_digits T) (hr.mono (by decide)) rfl T.m_law_digits T.F_law_digits.kp T.b_law_digits .nil pass0 (pa_cons (pe_call (ok_law_row T) (hr.mono (by decide)) rfl T.m_law_row T.F_law_row.kp T.b_law_row .nil pass0 (pa_cons (pv 0) (pa_cons (pv 1) pa_nil))) (pa_cons (pe_lst (pa_cons pe_int (pa_cons pe_int (pa_cons pe_int pa_nil)))) pa_nil))) (pg_unl (by rfl) (pgs_cons (pg_name (i := 4) sc_law_choice.nd rfl (Or.inl rfl)) (pgs_cons (pg_name (i := 5) sc_law_choice.nd rfl (Or.inl rfl)) (pgs_cons (pg_name (i := 6) sc_law_choice.nd rfl (Or.inl rfl)) pgs_nil)))))
       (pss_cons (ps_for PassesOwn.never rfl (pi_range1 rfl T.n_range (pa_cons (pv 4) pa_nil)) (pg_name (i := 7) sc_law_choice.nd rfl (Or.inl rfl))
       (pss_one (ps_expr (pe_bm PySem.F.plainAttrs_list PySem.F.slot_list_append PySem.F.type_list_append mt_append (pv 3) (pa_cons (pe_op op_mod (pe_callTy c_int (by rfl) T.n_int (by decide +kernel) (pa_cons (pe_op op_add (pv 6) (pe_op op_mul (pv 7) (pe_op op_add (pv 5) pe_int))) pa_nil)) (pe_op op_add (pv 2) pe_int)) pa_nil)))))
       (pss_one (ps_ret (pv 3)))))), ?_⟩
    try dsimp only [cxOf, Cx.nox, Cx.wish]
    obtain ⟨a, ns, at_, most, rfl, hS, h63, a0, a1, m0, q⟩ := h
    walk_at "rd"
    rename_i l nl H1 s1 h1
    refine ⟨a, ns, _, rfl, hS _ (Keeps.of s1), h63, by omega, by omega, fun z0 hz0 => ?_⟩
    walk_at "rd"
    refine ⟨_, _, [12, 7, 40], rfl, by walk_at "hp", by simp, by decide, fun H2 dd ds s2 n2 h2 hd => ?_⟩
    obtain _ | ⟨⟨a0', a1'⟩, _ | ⟨⟨b0', b1'⟩, _ | ⟨⟨c0', c1'⟩, _ | _⟩⟩⟩ := hd
    rename_i size step start
    have hl2 : H2 l = some (.lst []) := by walk_at "hp"
    have s02 : Same H H2 := by walk_at "sm"
    clear h1
    walk_at "rd"
    refine r_forR (fun i σ' H' => ∃ (v7 : Option V) (ks : List Int), σ' = [some (.ref a), some (.int at_), some (.int most), some (.ref l), some (.int size), some (.int step), some (.int start), v7] ∧ Same H H' ∧ (True ∧ H' l = some (.lst (ks.map V.int))) ∧ ks.length = i) ⟨_, [], rfl, s02, ⟨trivial, hl2⟩, rfl⟩ ?_ ?_
    · rintro i σ' H' hi ⟨v7, ks, rfl, sH, hl, hk⟩
      clear hl2
      walk_at "rd"
      refine r_tyl (.of hl.2) ?_
      walk_at "rd"
      refine r_app hl.2 (by rw [List.length_map, sz]; omega) ?_
      rename_i z hz z0 z1
      refine ⟨_, ks ++ [z], rfl, Same.old sH nl rfl, ⟨trivial, ?_⟩, by rw [List.length_append, hk]; rfl⟩
      rw [upd_same, List.map_append]
      rfl
    · rintro σ' H' ⟨v7, ks, rfl, sH, hl, hk⟩
      clear hl2
      walk_at "rd"
      exact q _ _ ks sH nl hl.2 (by omega)

theorem DevIn.more2 {C : Addr} {H0 H H' : Hp} {d l : Addr} {m : DevM} {o : HO} (h : DevIn C H0 H d m) (n : H l = none) (s : Same H H') (e : H' l = some o) : DevIn C (upd H0 l o) H' d m := by
  obtain ⟨s0, n0, dx, fs, su, sh, un, us, h1, h2, h3, h4, h5, h6, h7, h8, h9, h10, h11, h12⟩ := h
  have ne : ∀ {x : Addr} {u : HO}, H x = some u → x ≠ l := fun h z => by rw [z, n] at h; cases h
  refine ⟨fun b u q => ?_, by rw [upd_ne (ne h1)]; exact n0, dx, fs, su, sh, un, us, s _ _ h1, h2, by rw [upd_ne (ne h9)]; exact h3, by rw [upd_ne (ne h10)]; exact h4, by rw [upd_ne (ne h11)]; exact h5, h6, h7, h8,
    s _ _ h9, s _ _ h10, s _ _ h11, pairs_keeps (Keeps.of s) h12⟩
  by_cases hb : b = l
  · rw [hb, upd_same] at q
    rw [hb, e]
    exact q
  · rw [upd_ne hb] at q
    exact s _ _ (s0 _ _ q)
/-- what the law counts of the cut -/
structure Rel (m : DevM) (rc : Int) (ct : Bool) : Prop where
  off : m.off = ct
  low : -1 ≤ rc
  left : m.left = if rc = -1 then none else some rc
theorem Rel.take {m : DevM} {rc : Int} {ct : Bool} (h : Rel m rc ct) : Rel (takeF m) (if rc > 0 then rc - 1 else rc) (ct || decide (rc = 0)) := by
  obtain ⟨h1, h2, h3⟩ := h
  by_cases e : rc = -1
  · rw [if_pos e] at h3
    have et : takeF m = m := takeF_on h3
    rw [et, if_neg (by omega)]
    refine ⟨?_, h2, ?_⟩
    · rw [h1, decide_eq_false (by omega), Bool.or_false]
    · rw [h3, if_pos e]
  · rw [if_neg e] at h3
    by_cases z : rc = 0
    · have et : takeF m = { m with off := true } := by
        unfold takeF
        rw [h3]
        exact if_pos z
      rw [et, if_neg (by omega)]
      refine ⟨?_, h2, ?_⟩
      · rw [decide_eq_true z, Bool.or_true]
      · rw [if_neg e]
        exact h3
    · have et : takeF m = { m with left := some (rc - 1) } := by
        unfold takeF
        rw [h3]
        exact if_neg z
      rw [et, if_pos (by omega)]
      refine ⟨?_, by omega, ?_⟩
      · rw [decide_eq_false z, Bool.or_false]
        exact h1
      · rw [if_neg (by omega)]
theorem Rel.lists {m m' : DevM} {rc : Int} {ct : Bool} (h : Rel m rc ct) (e1 : m'.off = m.off) (e2 : m'.left = m.left) : Rel m' rc ct := ⟨e1.trans h.off, h.low, e2.trans h.left⟩
/-- the law's state -/
structure St3 (K : PySem.W.Frag) (C : Addr) (H1 H' : Hp) (n : Int) (p u q d : Addr) (ys : List V) (ts : List Addr) (rc : Int) (ct : Bool) (k : Nat) : Prop where
  ex : ∃ (H0 : Hp) (m : DevM), Same H1 H0 ∧ H1 u = none ∧ H1 q = none ∧ H0 u = some (.lst ys) ∧ H0 q = some (.lst (ts.map V.ref)) ∧ u ≠ q ∧ DevIn C H0 H' d m ∧ m.sure = ys ∧ m.wait.length ≤ k ∧ m.lay = p ∧ Rel m rc ct ∧
    Paired (fun (t : Addr) (r : Int × V) => H' t = some (.tup [.int r.1, r.2])) ts m.wait ∧ ∀ r ∈ m.wait, 0 ≤ r.1 ∧ r.1 < n ∧ Bk K H' r.2
  len : (ys.length : Int) = n
  blk : ∀ v ∈ ys, Bk K H' v
  kp : Keeps H1 H'
theorem St3.mono {K : PySem.W.Frag} {C : Addr} {H1 H' H'' : Hp} {n : Int} {p u q d : Addr} {ys : List V} {ts : List Addr} {rc : Int} {ct : Bool} {k : Nat} (s : Same H' H'') (h : St3 K C H1 H' n p u q d ys ts rc ct k) : St3 K C H1 H'' n p u q d ys ts rc ct k := by
  obtain ⟨⟨H0, m, g1, g2, g3, g4, g5, g6, g7, g8, g9, g10, g11, g12, g13⟩, gl, gb, gk⟩ := h
  exact ⟨⟨H0, m, g1, g2, g3, g4, g5, g6, g7.mono s, g8, g9, g10, g11, pairs_keeps (Keeps.of s) g12, fun r hr => ⟨(g13 r hr).1, (g13 r hr).2.1, (g13 r hr).2.2.keeps (Keeps.of s)⟩⟩, gl, fun v hv => (gb v hv).keeps (Keeps.of s), gk.trans (Keeps.of s)⟩
theorem fold_len {w : List (Int × V)} : ∀ {ys : List V}, (w.foldl (fun xs p => putB xs p.1 p.2) ys).length = ys.length := by
  induction w with
  | nil => exact rfl
  | cons r w ih =>
    intro ys
    rw [List.foldl_cons, ih, putB_len]
theorem fold_all {P : V → Prop} : ∀ {w : List (Int × V)} {ys : List V}, (∀ v ∈ ys, P v) → (∀ r ∈ w, P r.2) → ∀ v ∈ w.foldl (fun xs p => putB xs p.1 p.2) ys, P v
  | [], _, h, _ => h
  | r :: w, ys, h, hw => by
    rw [List.foldl_cons]
    refine fold_all (fun v hv => ?_) (fun r' hr => hw r' (List.mem_cons_of_mem _ hr))
    unfold putB at hv
    split at hv
    · rcases List.mem_or_eq_of_mem_set hv with hv | rfl
      · exact h v hv
      · exact hw r (List.mem_cons_self ..)
    · exact h v hv
/-- for pair in waiting: sure[pair[0]] = pair[1] -/
theorem fold_step {w : List (Int × V)} {ys : List V} {i : Nat} {r : Int × V} (e : w[i]? = some r) (h0 : 0 ≤ r.1) (h1 : r.1 < ys.length) : ((w.take i).foldl (fun xs p => putB xs p.1 p.2) ys).set r.1.toNat r.2 = (w.take (i + 1)).foldl (fun xs p => putB xs p.1 p.2) ys := by
  rw [List.take_add_one, e, List.foldl_append]
  show _ = putB _ r.1 r.2
  rw [putB_in h0 (by rw [fold_len]; exact h1)]

def rcAt (c : Int) (i : Nat) : Int := if c < 20 then (if (i : Int) ≤ c then c - i else 0) else -1
def ctAt (c : Int) (i : Nat) : Bool := decide (c < 20 ∧ c < i)
theorem rcAt_step {c : Int} (h : 0 ≤ c) (i : Nat) : (if rcAt c i > 0 then rcAt c i - 1 else rcAt c i) = rcAt c (i + 1) := by
  unfold rcAt
  repeat' split
  all_goals omega
theorem ctAt_step {c : Int} (h : 0 ≤ c) (i : Nat) : (ctAt c i || decide (rcAt c i = 0)) = ctAt c (i + 1) := by
  unfold ctAt rcAt
  rw [Bool.eq_iff_iff]
  simp only [Bool.or_eq_true, decide_eq_true_eq]
  repeat' split
  all_goals omega
theorem dark_at {c : Int} (i : Nat) : (decide (c < 20) && decide (c ≤ 0 + (i : Int))) = ctAt c (i + 1) := by
  unfold ctAt
  rw [Bool.eq_iff_iff]
  simp only [Bool.and_eq_true, decide_eq_true_eq]
  omega
theorem r_andge {b : Bool} {te : TE} {σ : L2.St} {H : Hp} {Q : V → Hp → Prop} (b2 : Bool) (hte : ∀ R : V → Hp → Prop, R (.bl b2) H → te σ H R) (q : Q (.bl (b && b2)) H) : if b = true then te σ H Q else Q (.bl false) H := by
  cases b with
  | true => exact iteT (hte _ q)
  | false => exact iteF q
theorem r_neI {K : PySem.W.Frag} {H : Hp} {a b : Addr} {ns : List Int} {Q : V → Hp → Prop} (ha : SqL K H a (ns.map V.int)) (hb : SqL K H b (ns.map V.int)) (q : Q (.bl false) H) : rNeD K (.ref a) (.ref b) H Q := by
  refine r_ned (Dp.ints ha) (Dp.ints hb) (Fl.intlS ns) (Fl.intlS ns) ?_
  rw [(Fl.intl ns).self]
  exact q
theorem r_eqL {K : PySem.W.Frag} {H : Hp} {a b : Addr} {xs : List V} {Q : V → Hp → Prop} (ha : SqL K H a xs) (hb : SqL K H b xs) (h : ∀ v ∈ xs, Bk K H v) (q : Q (.bl true) H) : rEqD K (.ref a) (.ref b) H Q := by
  obtain ⟨ds, h1, h2⟩ := bks h
  have f := Fl.lst h2
  refine r_eqd (.lst ha h1) (.lst hb h1) f.shaped f.shaped ?_
  rw [f.self]
  exact q
theorem leftF_eq {m : DevM} {ys : List V} {kept torn : List Int} (e : m.sure = ys) : leftF m kept torn = leftN m.wait ys kept torn m.wait.length := by
  rw [leftF, e]
def spLawK (K : PySem.W.Frag) : Sp := fun vs H Q _ => ∃ (a : Addr) (ns : List Int), vs = [.ref a] ∧ Scr K H a ns ∧ ns.length ≤ 63 ∧ ∀ H', Q (.bl true) H'
theorem ok_law (T : Txt K mg) : FnOk P w K mg base CX0 5 T.a_law T.fd_law ["script"] (spLawK K) := by
  refine T.F_law.ok sc_law (fun vs H Q E h => ?_) (fun cdv A outer s H vs Q E hr h => ?_)
  · obtain ⟨a, ns, rfl, _⟩ := h
    rfl
  · refine ⟨_, (pss_cons (ps_set (i := 1) sc_law.nd rfl (Or.inr rfl) (pe_call (ok_law_layout T) (hr.mono (by decide)) rfl T.m_law_layout T.F_law_layout.kp T.b_law_layout .nil pass0 (pa_cons (pe_call (ok_law_row T) (hr.mono (by decide)) rfl T.m_law_row T.F_law_row.kp T.b_law_row .nil pass0 (pa_cons (pv 0) (pa_cons pe_int pa_nil))) pa_nil)))
       (pss_cons (ps_set (i := 2) sc_law.nd rfl (Or.inl rfl) (pe_fld (pv 1) rfl))
       (pss_cons (ps_asg (pe_call (ok_law_digits T) (hr.mono (by decide)) rfl T.m_law_digits T.F_law_digits.kp T.b_law_digits .nil pass0 (pa_cons (pe_call (ok_law_row T) (hr.mono (by decide)) rfl T.m_law_row T.F_law_row.kp T.b_law_row .nil pass0 (pa_cons (pv 0) (pa_cons pe_int pa_nil))) (pa_cons (pe_lst (pa_cons pe_int (pa_cons pe_int (pa_cons pe_int (pa_cons (pe_op op_pow pe_int pe_int) pa_nil))))) pa_nil))) (pg_unl (by rfl) (pgs_cons (pg_name (i := 3) sc_law.nd rfl (Or.inl rfl)) (pgs_cons (pg_name (i := 4) sc_law.nd rfl (Or.inl rfl)) (pgs_cons (pg_name (i := 5) sc_law.nd rfl (Or.inl rfl)) (pgs_cons (pg_name (i := 6) sc_law.nd rfl (Or.inr rfl)) pgs_nil))))))
       (pss_cons (ps_set (i := 7) sc_law.nd rfl (Or.inl rfl) (pe_op op_rep (pe_lst (pa_cons pe_non pa_nil)) (pv 2)))
       (C8.pss_cut (ps_if (pt_cmpR op_eq (pv 3) pe_int (nomark _))
       (pss_one (ps_setLc (i := 7) (own := [("k", 8)]) (g := gName 8) (tt := tYes) rfl sc_law.nd rfl rfl (sw_true rfl rfl rfl (by decide +kernel)) (pi_range1 rfl T.n_range (pa_cons (pv 2) pa_nil)) (blkOk_by (own := [("k", 8)]) (N := n_law) (sc := defScope s_law) (by decide +kernel)) (fun _ _ _ _ _ => pg_name (i := 8) sc_law.nd rfl (Or.inl rfl)) (fun _ _ _ _ _ => pts_nil) (fun _ _ _ _ _ => (pe_call (ok_law_block T) (hr.mono (by decide)) rfl T.m_law_block T.F_law_block.kp T.b_law_block .nil pass0 (pa_cons (pv 1) (pa_cons (pe_op op_add (pv 6) (pe_op op_mul pe_int (pv 8))) (pa_cons (pv 8) pa_nil)))))))
       pss_nil)
       (pss_cons (ps_set (i := 9) sc_law.nd rfl (Or.inl rfl) (pe_make T.M_Device (ok_Device___init T) (hr.mono (by decide)) rfl T.m_Device T.b_Device___init .nil pass0 (pa_cons (pv 1) (pa_cons (pe_callTy c_list (by rfl) T.n_list (by decide +kernel) (pa_cons (pv 7) pa_nil)) pa_nil))))
       (pss_cons (ps_set (i := 10) sc_law.nd rfl (Or.inl rfl) (pe_lst pa_nil))
       (C8.pss_cut (ps_if (pt_cmpR op_lt (pv 4) pe_int (nomark _))
       (pss_one (ps_expr (pe_meth (pv 9) T.cl_Device T.me_Device_cut_after (ok_Device_cut_after T) (hr.mono (by decide)) T.b_Device_cut_after .nil pass0 (pa_cons (pv 4) pa_nil))))
       pss_nil)
       (pss_cons (ps_for PassesOwn.never rfl (pi_range1 rfl T.n_range (pa_cons (pe_op op_add pe_int (pv 5)) pa_nil)) (pg_name (i := 8) sc_law.nd rfl (Or.inl rfl))
       (pss_cons (ps_asg (pe_call (ok_law_digits T) (hr.mono (by decide)) rfl T.m_law_digits T.F_law_digits.kp T.b_law_digits .nil pass0 (pa_cons (pe_call (ok_law_row T) (hr.mono (by decide)) rfl T.m_law_row T.F_law_row.kp T.b_law_row .nil pass0 (pa_cons (pv 0) (pa_cons (pe_op op_add pe_int (pv 8)) pa_nil))) (pa_cons (pe_lst (pa_cons pe_int (pa_cons pe_int (pa_cons (pv 2) (pa_cons (pe_op op_pow pe_int pe_int) pa_nil))))) pa_nil))) (pg_unl (by rfl) (pgs_cons (pg_name (i := 11) sc_law.nd rfl (Or.inl rfl)) (pgs_cons (pg_name (i := 12) sc_law.nd rfl (Or.inl rfl)) (pgs_cons (pg_name (i := 13) sc_law.nd rfl (Or.inl rfl)) (pgs_cons (pg_name (i := 6) sc_law.nd rfl (Or.inr rfl)) pgs_nil))))))
       (C8.pss_cut (ps_if (pt_cmpR op_eq (pv 12) pe_int (nomark _))
       (pss_one (ps_set (i := 13) sc_law.nd rfl (Or.inl rfl) (pe_op op_mod (pv 13) pe_int)))
       pss_nil)
       (pss_cons (ps_set (i := 14) sc_law.nd rfl (Or.inl rfl) (pe_and (pe_cmpR op_lt (pv 4) pe_int (nomark _)) (pe_one (pe_cmpR op_ge (pv 8) (pv 4) (nomark _)))))
       (pss_cons (ps_set (i := 15) sc_law.nd rfl (Or.inl rfl) (pe_call (ok_law_block T) (hr.mono (by decide)) rfl T.m_law_block T.F_law_block.kp T.b_law_block .nil pass0 (pa_cons (pv 1) (pa_cons (pv 6) (pa_cons (pe_op op_add pe_int (pv 8)) pa_nil)))))
       (pss_one (ps_if (pt_cmpR op_eq (pv 11) pe_int (nomark _))
       (pss_cons (ps_expr (pe_meth0 (pv 9) T.cl_Device T.me_Device_barrier (ok_Device_barrier T) (hr.mono (by decide)) T.b_Device_barrier .nil pass0))
       (pss_one (ps_if (pt_not (pt_val (pv 14)))
       (pss_cons (ps_set (i := 7) sc_law.nd rfl (Or.inl rfl) (pe_call (ok_law_left T) (hr.mono (by decide)) rfl T.m_law_left T.F_law_left.kp T.b_law_left .nil pass0 (pa_cons (pv 7) (pa_cons (pv 10) (pa_cons (pe_lc (own := [("j", 22)]) (g := gName 22) (tt := tYes) rfl sc_law.nd (pi_range1 rfl T.n_range (pa_cons (pe_callB (c_len) (by rfl) T.n_len (by decide +kernel) (pa_cons (pv 10) pa_nil)) pa_nil)) (blkOk_by (own := [("j", 22)]) (N := n_law) (sc := defScope s_law) (by decide +kernel)) (fun _ _ _ _ _ => pg_name (i := 22) sc_law.nd rfl (Or.inl rfl)) (fun _ _ _ _ _ => pts_nil) (fun _ _ _ _ _ => (pv 22))) (pa_cons (pe_lst pa_nil) pa_nil))))))
       (pss_one (ps_set (i := 10) sc_law.nd rfl (Or.inl rfl) (pe_lst pa_nil))))
       pss_nil)))
       (pss_cons (ps_expr (pe_meth (pv 9) T.cl_Device T.me_Device_write (ok_Device_write T) (hr.mono (by decide)) T.b_Device_write .nil pass0 (pa_cons (pv 13) (pa_cons (pv 15) pa_nil))))
       (pss_one (ps_if (pt_not (pt_val (pv 14)))
       (pss_one (ps_expr (pe_bm PySem.F.plainAttrs_list PySem.F.slot_list_append PySem.F.type_list_append mt_append (pv 10) (pa_cons (pe_tup (pa_cons (pv 13) (pa_cons (pv 15) pa_nil))) pa_nil))))
       pss_nil))))))))))
       (pss_cons (ps_for PassesOwn.never rfl (pi_range1 rfl T.n_range (pa_cons pe_int pa_nil)) (pg_name (i := 8) sc_law.nd rfl (Or.inl rfl))
       (pss_cons (ps_set (i := 16) sc_law.nd rfl (Or.inl rfl) (pe_call (ok_law_choice T) (hr.mono (by decide)) rfl T.m_law_choice T.F_law_choice.kp T.b_law_choice .nil pass0 (pa_cons (pv 0) (pa_cons (pe_op op_add pe_int (pv 8)) (pa_cons (pe_callB (c_len) (by rfl) T.n_len (by decide +kernel) (pa_cons (pv 10) pa_nil)) pa_nil)))))
       (pss_cons (ps_set (i := 17) sc_law.nd rfl (Or.inl rfl) (pe_call (ok_law_choice T) (hr.mono (by decide)) rfl T.m_law_choice T.F_law_choice.kp T.b_law_choice .nil pass0 (pa_cons (pv 0) (pa_cons (pe_op op_add pe_int (pv 8)) (pa_cons (pe_callB (c_len) (by rfl) T.n_len (by decide +kernel) (pa_cons (pv 10) pa_nil)) pa_nil)))))
       (C8.pss_cut (ps_if (pt_cmpR op_eq (pv 8) pe_int (nomark _))
       (pss_one (ps_set (i := 17) sc_law.nd rfl (Or.inl rfl) (pe_lst pa_nil)))
       pss_nil)
       (pss_cons (ps_set (i := 18) sc_law.nd rfl (Or.inl rfl) (pe_call (ok_law_left T) (hr.mono (by decide)) rfl T.m_law_left T.F_law_left.kp T.b_law_left .nil pass0 (pa_cons (pv 7) (pa_cons (pv 10) (pa_cons (pv 16) (pa_cons (pv 17) pa_nil))))))
       (pss_cons (ps_set (i := 19) sc_law.nd rfl (Or.inl rfl) (pe_callTy c_list (by rfl) T.n_list (by decide +kernel) (pa_cons (pv 16) pa_nil)))
       (pss_cons (ps_set (i := 20) sc_law.nd rfl (Or.inl rfl) (pe_callTy c_list (by rfl) T.n_list (by decide +kernel) (pa_cons (pv 17) pa_nil)))
       (pss_cons (ps_set (i := 21) sc_law.nd rfl (Or.inl rfl) (pe_meth (pv 9) T.cl_Device T.me_Device_left (ok_Device_left T) (hr.mono (by decide)) T.b_Device_left_2 T.v_Device_left_2 pass0 (pa_cons (pv 19) pa_nil)))
       (C8.pss_cut (ps_if (pt_cmpR op_eq (pv 8) pe_int (nomark _))
       (pss_one (ps_set (i := 21) sc_law.nd rfl (Or.inl rfl) (pe_methN (pv 9) T.cl_Device T.me_Device_left (ok_Device_left T) (hr.mono (by decide)) T.kb_Device_left pass0 (pa_cons (pe_callTy c_tuple (by rfl) T.n_tuple (by decide +kernel) (pa_cons (pv 16) pa_nil)) pa_nil) (pk_cons (pe_callTy c_tuple (by rfl) T.n_tuple (by decide +kernel) (pa_cons (pv 17) pa_nil)) pk_nil))))
       pss_nil)
       (C8.pss_cut (ps_if (pt_cmpR op_eq (pv 8) pe_int (nomark _))
       (pss_one (ps_set (i := 21) sc_law.nd rfl (Or.inl rfl) (pe_methN (pv 9) T.cl_Device T.me_Device_left (ok_Device_left T) (hr.mono (by decide)) T.kb_Device_left pass0 (pa_cons (pv 19) pa_nil) (pk_cons (pv 20) pk_nil))))
       pss_nil)
       (C8.pss_cut (ps_if (PW.pt (pw_or (pt_cmpR (op_neD hr.units) (pv 19) (pv 16) (nomark _)) (pw_or1 (pt_cmpR (op_neD hr.units) (pv 20) (pv 17) (nomark _)))))
       (pss_one (ps_ret pe_bl))
       pss_nil)
       (pss_cons (ps_for PassesOwn.never rfl (pi_range1 rfl T.n_range (pa_cons (pv 2) pa_nil)) (pg_name (i := 13) sc_law.nd rfl (Or.inl rfl))
       (pss_one (ps_if (pt_cmpR (op_neD hr.units) (pe_meth (pv 21) T.cl_Device T.me_Device_read (ok_Device_read T) (hr.mono (by decide)) T.b_Device_read .nil pass0 (pa_cons (pv 13) pa_nil)) (pe_ix ix_list (pv 18) (pv 13) (fun _ _ => rfl)) (nomark _))
       (pss_one (ps_ret pe_bl))
       pss_nil)))
       (C8.pss_cut (ps_if (PW.pt (pw_or (pt_cmpR op_ne (pe_meth0 (pv 21) T.cl_Device T.me_Device_pending (ok_Device_pending T) (hr.mono (by decide)) T.b_Device_pending .nil pass0) pe_int (nomark _)) (pw_or (pt_cmpR op_notBl (pe_meth0 (pv 21) T.cl_Device T.me_Device_was_cut (ok_Device_was_cut T) (hr.mono (by decide)) T.b_Device_was_cut .nil pass0) pe_bl (nomark _)) (pw_or1 (pt_cmpR (op_neD hr.units) (pe_meth0 (pv 21) T.cl_Device T.me_Device_sure_blocks (ok_Device_sure_blocks T) (hr.mono (by decide)) T.b_Device_sure_blocks .nil pass0) (pv 18) (nomark _))))))
       (pss_one (ps_ret pe_bl))
       pss_nil)
       (pss_cons (ps_expr (pe_meth (pv 21) T.cl_Device T.me_Device_write (ok_Device_write T) (hr.mono (by decide)) T.b_Device_write .nil pass0 (pa_cons pe_int (pa_cons (pe_tup (pa_cons pe_int (pa_cons pe_int (pa_cons pe_int (pa_cons (pe_op op_repT (pe_tup (pa_cons (pv 8) pa_nil)) (pe_fld (pv 1) rfl)) pa_nil))))) pa_nil))))
       (pss_one (ps_expr (pe_meth0 (pv 21) T.cl_Device T.me_Device_barrier (ok_Device_barrier T) (hr.mono (by decide)) T.b_Device_barrier .nil pass0)))))))))))))))))
       (pss_one (ps_ret (pe_and (pe_cmpR op_eq (pe_meth0 (pv 9) T.cl_Device T.me_Device_pending (ok_Device_pending T) (hr.mono (by decide)) T.b_Device_pending .nil pass0) (pe_callB (c_len) (by rfl) T.n_len (by decide +kernel) (pa_cons (pv 10) pa_nil)) (nomark _)) (pe_and (pe_cmpR (op_eqD hr.units) (pe_meth0 (pv 9) T.cl_Device T.me_Device_sure_blocks (ok_Device_sure_blocks T) (hr.mono (by decide)) T.b_Device_sure_blocks .nil pass0) (pv 7) (nomark _)) (pe_one (pe_cmpR op_eq (pe_meth0 (pv 9) T.cl_Device T.me_Device_was_cut (ok_Device_was_cut T) (hr.mono (by decide)) T.b_Device_was_cut .nil pass0) (pe_cmpR op_lt (pv 4) pe_int (nomark _)) (nomark _))))))))))))))))), ?_⟩
    try dsimp only [cxOf, Cx.nox, Cx.wish]
    obtain ⟨a, ns, rfl, hS, h63, q⟩ := h
    have cl := T.cl_Layout
    have na1 := T.na_Layout_device_blocks
    have na2 := T.na_Layout_fan
    have cd := T.cl_Device
    walk_at "rd"
    refine ⟨a, ns, _, rfl, hS _ (Keeps.refl _), h63, by decide, by decide, fun z0 hz0 => ?_⟩
    walk_at "rd"
    refine ⟨_, rfl, fun s b z H1 p hF s1 n1 hLay => ?_⟩
    have hB := hF.bounds
    generalize layOf s b z = L at hB hLay
    obtain ⟨dx, fs, hp, hL⟩ := id hLay
    have lk1 := hL.dev
    have lk2 := hL.fan
    obtain ⟨l0, l1, d0, d1, z0, z1, f0, f1⟩ := id hB
    walk_at "rd"
    refine ⟨a, ns, _, rfl, hS _ (Keeps.of (by walk_at "sm")), h63, by decide, by decide, fun z1 hz1 => ?_⟩
    walk_at "rd"
    refine ⟨_, _, [2, 40, 16, 10 ^ 9], rfl, by walk_at "hp", by simp, by decide, fun H2 dd ds s2 n2 h2 hd => ?_⟩
    obtain _ | ⟨⟨a0, a1⟩, _ | ⟨⟨b0, b1⟩, _ | ⟨⟨c0, c1⟩, _ | ⟨⟨e0, e1⟩, _ | _⟩⟩⟩⟩ := hd
    rename_i choice cut size rest
    walk_at "rd"
    refine r_rep (by walk_at "hp") (by omega) (by omega) ?_ ?_
    · show 1 * _ ≤ sizeLine
      rw [sz]
      omega
    rw [rep_non]
    walk_at "al"
    rename_i e ne H3 s3 h3
    have k13 : Same H1 H3 := by walk_at "sm"
    walk_at "rd"
    refine r_cut (fun σ' H' => ∃ (e : Addr) (xs : List V) (v8 : Option V), σ' = [some (.ref a), some (.ref p), some (.int L.dev), some (.int choice), some (.int cut), some (.int size), some (.int rest), some (.ref e), v8, none, none, none, none, none, none, none, none, none, none, none, none, none, none] ∧ Same H1 H' ∧ H1 e = none ∧ H' e = some (.lst xs) ∧ (xs.length : Int) = L.dev ∧ ∀ v ∈ xs, Bk K H' v) ?_ ?_
    · walk_at "rd"
      refine r_ite (fun _ => ?_) (fun _ => ?_)
      · walk_at "rd"
        refine r_lcR (fun i acc H0 => ∀ v ∈ acc, Bk K H0 v) (by omega) rfl (fun v hv => by cases hv) ?_ ?_
        · intro i acc H0 H' hi s0 hacc s1' R hR
          walk_at "rd"
          refine ⟨p, L, _, _, rfl, ⟨dx, fs, s1' _ _ (s0 _ _ (k13 _ _ hp)), hL⟩, hB, fun H'' v s2' hv => ?_⟩
          refine hR _ _ s2' fun D nD hD => ?_
          intro u hu
          rcases List.mem_append.mp hu with hu | hu
          · exact (hacc u hu).keeps (Keeps.of (same_hid (s1'.trans s2') nD))
          · simp at hu
            subst hu
            exact hv.keeps (keeps_hid (s2' _ _ hD))
        rintro H6 e2 xs s6 n6 h6 l6 hx6
        have hx6 : ∀ v ∈ xs, Bk K H6 v := fun v hv => (hx6 v hv).keeps (Keeps.of hid_same)
        walk_at "rd"
        exact ⟨e2, xs, _, rfl, k13.trans s6, k13.free n6, h6, by omega, hx6⟩
      · walk_at "rd"
        refine ⟨e, _, _, rfl, k13, by walk_at "nn", h3, ?_, ?_⟩
        · rw [List.length_replicate]
          omega
        · intro v hv
          rw [List.eq_of_mem_replicate hv]
          exact Bk.non
    rintro _ H4 ⟨e, xs, v8, rfl, s4, n4, h4, xl, hx⟩
    clear h3 ne s3 k13
    walk_at "rd"
    rename_i pd npd H5 s5 h5
    intro d dx2 nd ndx ned
    have h5p : H5 p = some (.ins T.A_Layout dx fs) := s5 _ _ (s4 _ _ hp)
    have smk : Same H5 (upd (upd H5 dx2 (.own d)) d (.ins T.A_Device dx2 [])) := fun b u e => by
      rw [upd_ne (ne_of_none e nd), upd_ne (ne_of_none e ndx)]
      exact e
    refine ⟨H5, d, dx2, p, L, .ref pd, xs, rfl, upd_same, smk, nd, ⟨dx, fs, smk _ _ h5p, hL⟩, .inr ⟨pd, rfl, .of (smk _ _ h5)⟩, fun H6 hD6 hK6 => ⟨rfl, ?_⟩⟩
    have h5e := s5 _ _ h4
    clear h4 h5 h5p npd
    walk_at "rd"
    rename_i qw nq H7 s7 hq7
    have hD7 := hD6.more2 nq s7 hq7
    have n5q : H5 qw = none := hD6.same.free nq
    have neq : e ≠ qw := fun z => by rw [z, n5q] at h5e; cases h5e
    have s45 : Same H1 H5 := s4.trans s5
    have S7 : St3 K T.A_Device H1 H7 L.dev p e qw d xs [] (-1) false 0 := by
      refine ⟨⟨_, _, Same.old s45 (s45.free n5q) rfl, n4, s45.free n5q, by rw [upd_ne neq]; exact h5e, upd_same, neq, hD7, rfl, Nat.le_refl _, rfl, ⟨rfl, by omega, rfl⟩, .nil, fun r hr => by cases hr⟩, xl, ?_, ?_⟩
      · exact fun v hv => (hx v hv).keeps ((Keeps.of (s5.trans smk)).trans (hK6.trans (Keeps.of s7)))
      · exact (Keeps.of (s45.trans smk)).trans (hK6.trans (Keeps.of s7))
    clear hD6 hD7 hK6 h5e neq n5q xl hx s7 hq7 nq
    refine r_cut (fun σ' H' => ∃ rc, σ' = [some (.ref a), some (.ref p), some (.int L.dev), some (.int choice), some (.int cut), some (.int size), some (.int rest), some (.ref e), v8, some (.ref d), some (.ref qw), none, none, none, none, none, none, none, none, none, none, none, none] ∧ St3 K T.A_Device H1 H' L.dev p e qw d xs [] rc false 0 ∧ rc = if cut < 20 then cut else -1) ?_ ?_
    · walk_at "rd"
      refine r_ite (fun h0 => ?_) (fun h0 => ?_)
      · obtain ⟨⟨H0, m, g1, g2, g3, g4, g5, g6, g7, g8, g9, g10, g11, g12, g13⟩, gl, gb, gk⟩ := S7
        obtain ⟨dxd, fsd, su, sh, un, us, hd1, hd2, _⟩ := id g7.at_
        have nC := hd2.nC
        walk_at "rd"
        refine ⟨H0, d, m, _, rfl, g7, fun H'' hD' hK' => ?_⟩
        have ec : cutF m cut = { m with left := some cut } := by rw [cutF, if_neg (by rw [g11.off]; decide)]
        rw [ec] at hD'
        walk_at "rd"
        exact ⟨cut, rfl, ⟨⟨H0, _, g1, g2, g3, g4, g5, g6, hD', g8, g9, g10, ⟨g11.off, by omega, by rw [if_neg (by omega)]⟩, pairs_keeps hK' g12, fun r hr => ⟨(g13 r hr).1, (g13 r hr).2.1, (g13 r hr).2.2.keeps hK'⟩⟩, gl, fun v hv => (gb v hv).keeps hK', gk.trans hK'⟩, by rw [if_pos h0]⟩
      · walk_at "rd"
        exact ⟨-1, rfl, S7, by rw [if_neg h0]⟩
    rintro _ H8 ⟨rc, rfl, S8, erc⟩
    clear S7
    walk_at "rd"
    refine r_forR (fun i σ' H' => ∃ (u qw : Addr) (ts : List Addr) (ys : List V) (rc : Int) (ct : Bool) (v8 v11 v12 v13 v14 v15 v22 : Option V) (r : Int), σ' = [some (.ref a), some (.ref p), some (.int L.dev), some (.int choice), some (.int cut), some (.int size), some (.int r), some (.ref u), v8, some (.ref d), some (.ref qw), v11, v12, v13, v14, v15, none, none, none, none, none, none, v22] ∧ St3 K T.A_Device H1 H' L.dev p u qw d ys ts rc ct i ∧ rc = rcAt cut i ∧ ct = ctAt cut i) ?_ ?_ ?_
    · refine ⟨_, _, _, _, _, _, _, _, _, _, _, _, _, _, rfl, S8, ?_, ?_⟩
      · rw [erc, rcAt]
        split
        · rw [if_pos (by omega)]
          omega
        · rfl
      · symm
        exact decide_eq_false (by omega)
    · rintro i σ' H' hi ⟨u, qw, ts, ys, rc, ct, v8, v11, v12, v13, v14, v15, v22, r, rfl, S, erc, ect⟩
      clear S8
      have hi40 : (i : Int) < 20 + size := by omega
      have hS' := hS _ ((Keeps.of s1).trans S.kp)
      walk_at "rd"
      refine ⟨a, ns, _, rfl, hS', h63, by omega, by omega, fun z2 hz2 => ?_⟩
      walk_at "rd"
      refine ⟨_, _, [9, 2, L.dev, 10 ^ 9], rfl, by walk_at "hp", by simp, ?_, fun H2' dd' ds' s2' n2' h2' hd' => ?_⟩
      · intro s hs
        simp only [List.mem_cons, List.not_mem_nil, or_false] at hs
        rcases hs with rfl | rfl | rfl | rfl <;> omega
      obtain _ | ⟨⟨a0', a1'⟩, _ | ⟨⟨b0', b1'⟩, _ | ⟨⟨c0', c1'⟩, _ | ⟨⟨e0', e1'⟩, _ | _⟩⟩⟩⟩ := hd'
      rename_i kind near address rest'
      have sH : Same H' H2' := by walk_at "sm"
      have S2 := S.mono sH
      clear S hS'
      walk_at "rd"
      refine r_cut (fun σ' H' => ∃ ad : Int, 0 ≤ ad ∧ ad < L.dev ∧ σ' = [some (.ref a), some (.ref p), some (.int L.dev), some (.int choice), some (.int cut), some (.int size), some (.int rest'), some (.ref u), some (.int (0 + (i : Int))), some (.ref d), some (.ref qw), some (.int kind), some (.int near), some (.int ad), v14, v15, none, none, none, none, none, none, v22] ∧ H2' = H') ?_ ?_
      · walk_at "rd"
        refine r_ite (fun _ => ?_) (fun _ => ?_)
        · walk_at "rd"
          exact ⟨_, by omega, by omega, rfl, rfl⟩
        · exact ⟨_, c0', c1', rfl, rfl⟩
      rintro _ _ ⟨ad, ad0, ad1, rfl, rfl⟩
      obtain ⟨⟨H0, m, g1, g2, g3, g4, g5, g6, g7, g8, g9, g10, g11, g12, g13⟩, gl, gb, gk⟩ := S2
      have R' := g11.take
      rw [erc, ect, rcAt_step b0, ctAt_step b0] at R'
      obtain ⟨dxd, fsd, su, sh, un, us, hd1, hd2, _⟩ := id g7.at_
      have nB := hd2.nB
      walk_at "rd"
      refine r_andge ?b2 ?hte ?hq
      case hte =>
        intro R h
        walk_at "rd"
        exact h
      case hq =>
      rw [dark_at]
      generalize ect' : ctAt cut (i + 1) = ct' at R'
      generalize erc' : rcAt cut (i + 1) = rc' at R'
      obtain ⟨t1, t2, t3, t4⟩ := takeF_lists m
      walk_at "rd"
      refine ⟨p, L, _, _, rfl, ⟨dx, fs, g7.same _ _ (g1 _ _ hp), hL⟩, hB, fun H3 v s3' hv => ?_⟩
      have g7' := g7.mono s3'
      have hd1' := s3' _ _ hd1
      walk_at "rd"
      refine r_ite (fun _ => ?_) (fun _ => ?_)
      · walk_at "rd"
        refine ⟨H0, d, m, rfl, g7', fun H'' hD' hK' => ?_⟩
        have kk : Keeps H2' H'' := (Keeps.of s3').trans hK'
        have gp := pairs_keeps kk g12
        have g13' : ∀ r ∈ m.wait, 0 ≤ r.1 ∧ r.1 < L.dev ∧ Bk K H'' r.2 := fun r hr => ⟨(g13 r hr).1, (g13 r hr).2.1, (g13 r hr).2.2.keeps kk⟩
        walk_at "rd"
        refine to_ite (fun hb => ?_) (fun hb => ?_)
        · have ho : ct' = false := by simpa using hb
          have eb : barrierF m = { takeF m with sure := m.wait.foldl (fun xs p => putB xs p.1 p.2) m.sure, wait := [] } := by
            unfold barrierF
            rw [if_neg (by rw [R'.off, ho]; decide)]
          rw [eb] at hD'
          have hu'' := hD'.same _ _ g4
          have hq'' : True ∧ H'' qw = some (.lst (ts.map V.ref)) := ⟨trivial, hD'.same _ _ g5⟩
          have tl := Paired.length g12
          walk_at "rd"
          refine r_lenl (.of hq''.2) ?_
          rw [List.length_map, tl]
          obtain ⟨wi, hwi⟩ : ∃ wi : Int, wi = (m.wait.length : Int) := ⟨_, rfl⟩
          rw [← hwi]
          walk_at "rd"
          refine r_lcI (fun i z => z = (i : Int)) (by omega) rfl ?_ ?_
          · intro j H' hj s' R hR
            walk_at "rd"
            exact hR _ (by omega)
          intro HA lA ks sA nA hA lenA hz
          walk_at "rd"
          rename_i lB nB' HB sB hB'
          have sAB := sA.trans sB
          refine ⟨u, qw, lA, lB, ys, ts, m.wait, ks, [], rfl, .of (sAB _ _ hu''), .of (sAB _ _ hq''.2), pairs_keeps (Keeps.of sAB) gp, fun r hr => ⟨(g13 r hr).1, by have := (g13 r hr).2.1; omega⟩, .of (sB _ _ hA), .of hB', by omega, fun HC b sC nb hb' => ?_⟩
          have ef : leftN m.wait ys ks [] m.wait.length = m.wait.foldl (fun xs p => putB xs p.1 p.2) ys := by
            rw [leftN_all _ _ _ _ _ (Nat.le_refl _), List.take_length]
            intro j hj
            have e1 := hz j ks[j] (List.getElem?_eq_getElem (by omega))
            rw [← e1]
            exact List.getElem_mem _
          rw [ef] at hb'
          have sAC := sAB.trans sC
          have bz : ∀ v ∈ m.wait.foldl (fun xs p => putB xs p.1 p.2) ys, Bk K H'' v := fold_all (fun v hv => (gb v hv).keeps kk) (fun r hr => (g13' r hr).2.2)
          have lz : (m.wait.foldl (fun xs p => putB xs p.1 p.2) ys).length = ys.length := fold_len
          rw [g8] at hD'
          generalize m.wait.foldl (fun xs p => putB xs p.1 p.2) ys = zs at hb' hD' bz lz ef
          have hDb := (hD'.mono sAB).more2 nb sC hb'
          walk_at "rd"
          rename_i q2 nq2 Hn sn hn
          have hDn := hDb.more2 nq2 sn hn
          have nbq : b ≠ q2 := fun z => by rw [← z, hb'] at nq2; cases nq2
          have n0b : H0 b = none := (hD'.same.trans sAB).free nb
          have n0q : H0 q2 = none := (hD'.same.trans sAC).free nq2
          have kn : Keeps H'' Hn := Keeps.of (sAC.trans sn)
          exact ⟨b, q2, [], zs, rc', ct', _, _, _, _, _, _, _, _, rfl, ⟨⟨_, _, Same.old (Same.old g1 (g1.free n0b) rfl) (g1.free n0q) rfl, g1.free n0b, g1.free n0q, by rw [upd_ne nbq, upd_same], upd_same, nbq, hDn, rfl, Nat.zero_le _, t4.trans g10, R'.lists rfl rfl, .nil, fun r hr => by cases hr⟩, by omega, fun v hv => (bz v hv).keeps kn, gk.trans (kk.trans kn)⟩, rfl, rfl⟩
        · have ho : ct' = true := by simpa using hb
          have eb : barrierF m = takeF m := by
            unfold barrierF
            rw [if_pos (by rw [R'.off, ho])]
          rw [eb] at hD'
          walk_at "rd"
          exact ⟨u, qw, ts, ys, rc', ct', _, _, _, _, _, _, _, _, rfl, ⟨⟨H0, _, g1, g2, g3, g4, g5, g6, hD', t1.trans g8, by rw [t3]; omega, t4.trans g10, R', by rw [t3]; exact gp, by rw [t3]; exact g13'⟩, gl, fun v hv => (gb v hv).keeps kk, gk.trans kk⟩, rfl, rfl⟩
      · have nW := hd2.nW
        walk_at "rd"
        refine ⟨H0, d, m, ad, v, rfl, g7', by omega, fun H'' hD' hK' => ?_⟩
        have kk : Keeps H2' H'' := (Keeps.of s3').trans hK'
        have gp := pairs_keeps kk g12
        have g13' : ∀ r ∈ m.wait, 0 ≤ r.1 ∧ r.1 < L.dev ∧ Bk K H'' r.2 := fun r hr => ⟨(g13 r hr).1, (g13 r hr).2.1, (g13 r hr).2.2.keeps kk⟩
        have hv' := hv.keeps hK'
        walk_at "rd"
        refine to_ite (fun hb => ?_) (fun hb => ?_)
        · have ho : ct' = false := by simpa using hb
          have eb : writeF m ad v = { takeF m with wait := m.wait ++ [(ad, v)], shown := putB m.shown ad v } := by
            unfold writeF
            rw [if_neg (by rw [R'.off, ho]; decide)]
          rw [eb] at hD'
          have hq'' := hD'.same _ _ g5
          walk_at "rd"
          rename_i tp ntp Ht stp htp
          have hqt := stp _ _ hq''
          have tl := Paired.length g12
          refine r_app hqt (by rw [List.length_map, sz]; omega) ?_
          generalize hHa : upd _ _ _ = Ha
          have hDa := (hD'.mono stp).rebase (o := .lst (ts.map V.ref ++ [.ref tp])) g5 lstNF
          rw [hHa] at hDa
          have ka : Keeps H'' Ha := (Keeps.of stp).trans (Keeps.upd hqt lstNF hHa)
          have hta : Ha tp = some (.tup [.int ad, v]) := at_keep hHa htp hqt (by intro z; cases z)
          walk_at "rd"
          refine ⟨u, qw, ts ++ [tp], ys, rc', ct', _, _, _, _, _, _, _, _, rfl, ⟨⟨_, _, Same.old g1 g3 rfl, g2, g3, by rw [upd_ne g6]; exact g4, by rw [upd_same, List.map_append]; rfl, g6, hDa, t1.trans g8, ?_, t4.trans g10, R'.lists rfl rfl, paired_snoc (pairs_keeps ka gp) hta, ?_⟩, gl, fun v hv => (gb v hv).keeps (kk.trans ka), gk.trans (kk.trans ka)⟩, rfl, rfl⟩
          · show (m.wait ++ [(ad, v)]).length ≤ i + 1
            rw [List.length_append]
            simp
            omega
          · intro r hr
            rcases List.mem_append.mp hr with hr | hr
            · exact ⟨(g13' r hr).1, (g13' r hr).2.1, (g13' r hr).2.2.keeps ka⟩
            · cases List.mem_singleton.mp hr
              exact ⟨ad0, ad1, hv'.keeps ka⟩
        · have ho : ct' = true := by simpa using hb
          have eb : writeF m ad v = { takeF m with wait := m.wait, shown := putB m.shown ad v } := by
            unfold writeF
            rw [if_pos (by rw [R'.off, ho])]
          rw [eb] at hD'
          walk_at "rd"
          exact ⟨u, qw, ts, ys, rc', ct', _, _, _, _, _, _, _, _, rfl, ⟨⟨H0, _, g1, g2, g3, g4, g5, g6, hD', t1.trans g8, by show m.wait.length ≤ _; omega, t4.trans g10, R'.lists rfl rfl, gp, g13'⟩, gl, fun v hv => (gb v hv).keeps kk, gk.trans kk⟩, rfl, rfl⟩
    · rintro σ' H6 ⟨u, qw, ts, ys, rc, ct, v8, v11, v12, v13, v14, v15, v22, r, rfl, S, erc, ect⟩
      clear S8
      walk_at "rd"
      refine r_forR (fun i σ' H' => ∃ (v8 v13 v16 v17 v18 v19 v20 v21 v22 : Option V), σ' = [some (.ref a), some (.ref p), some (.int L.dev), some (.int choice), some (.int cut), some (.int size), some (.int r), some (.ref u), v8, some (.ref d), some (.ref qw), v11, v12, v13, v14, v15, v16, v17, v18, v19, v20, v21, v22] ∧ St3 K T.A_Device H1 H' L.dev p u qw d ys ts rc ct (20 + size).toNat) ?_ ?_ ?_
      · exact ⟨_, _, _, _, _, _, _, _, _, rfl, S⟩
      · rintro i σ' H' hi ⟨v8, v13, v16, v17, v18, v19, v20, v21, v22, rfl, S'⟩
        clear S
        have hi3 : i < 3 := hi
        obtain ⟨⟨H0, m, g1, g2, g3, g4, g5, g6, g7, g8, g9, g10, g11, g12, g13⟩, gl, gb, gk⟩ := id S'
        obtain ⟨dxd, fsd, su, sh, un, us, hd1, hd2, _⟩ := id g7.at_
        have nL := hd2.nL
        have hS' : Scr K H' a ns := fun _ k => hS _ (((Keeps.of s1).trans gk).trans k)
        have hu' := g7.same _ _ g4
        have hq' : True ∧ H' qw = some (.lst (ts.map V.ref)) := ⟨trivial, g7.same _ _ g5⟩
        have hp' := g7.same _ _ (g1 _ _ hp)
        have tl := Paired.length g12
        have w40 : m.wait.length ≤ 40 := by omega
        walk_at "rd"
        refine r_lenl (.of hq'.2) ?_
        rw [List.length_map, tl]
        obtain ⟨wi, hwi⟩ : ∃ wi : Int, wi = (m.wait.length : Int) := ⟨_, rfl⟩
        rw [← hwi]
        walk_at "rd"
        refine ⟨a, ns, _, _, rfl, hS', h63, by omega, by omega, by omega, fun Hk lk ks sk nk hk lk12 => ?_⟩
        walk_at "rd"
        refine r_lenl (.of (sk _ _ hq'.2)) ?_
        rw [List.length_map, tl, ← hwi]
        walk_at "rd"
        refine ⟨a, ns, _, _, rfl, fun _ k => hS' _ ((Keeps.of sk).trans k), h63, by omega, by omega, by omega, fun Ht lt tn0 st nt ht lt12 => ?_⟩
        walk_at "rd"
        refine r_cut (fun σ' Hc => ∃ (lt : Addr) (tn : List Int), σ' = [some (.ref a), some (.ref p), some (.int L.dev), some (.int choice), some (.int cut), some (.int size), some (.int r), some (.ref u), some (.int (0 + (i : Int))), some (.ref d), some (.ref qw), v11, v12, v13, v14, v15, some (.ref lk), some (.ref lt), v18, v19, v20, v21, v22] ∧ Same Ht Hc ∧ Hc lt = some (.lst (tn.map V.int)) ∧ tn.length ≤ 12 ∧ (i = 0 → tn = [])) ?_ ?_
        · walk_at "rd"
          refine r_ite (fun c => ?_) (fun c => ?_)
          · walk_at "rd"
            rename_i l0' nl0 Hn sn hn
            exact ⟨l0', [], rfl, sn, hn, by simp, fun _ => rfl⟩
          · walk_at "rd"
            exact ⟨lt, tn0, rfl, Same.refl _, ht, lt12, fun z => absurd z (by omega)⟩
        rintro _ Hc ⟨lt, tn, rfl, sc, hlt, ltn, h00⟩
        have hkc := (st.trans sc) _ _ hk
        have s1c : Same H' Hc := sk.trans (st.trans sc)
        clear ht hk
        walk_at "rd"
        refine ⟨u, qw, lk, lt, ys, ts, m.wait, ks, tn, rfl, .of (s1c _ _ hu'), .of (s1c _ _ hq'.2), pairs_keeps (Keeps.of s1c) g12, fun r hr => ⟨(g13 r hr).1, by have := (g13 r hr).2.1; omega⟩, .of hkc, .of hlt, by omega, fun He b se nb hb => ?_⟩
        have hke := se _ _ hkc
        have hlte := se _ _ hlt
        have hd1e := se _ _ (s1c _ _ hd1)
        have hpe := se _ _ (s1c _ _ hp')
        walk_at "rd"
        rename_i lp nlp Hp' spp hlp lq nlq Hq sq hlq
        have seq' : Same He Hq := spp.trans sq
        have s1q : Same H' Hq := s1c.trans (se.trans seq')
        have hlpq := sq _ _ hlp
        have hkq := seq' _ _ hke
        have hltq := seq' _ _ hlte
        have hd1q := seq' _ _ hd1e
        have hpq := seq' _ _ hpe
        have hbq := seq' _ _ hb
        refine ⟨H0, d, lp, T.e_Device_left_torn, m, L, ks, [], rfl, g7.mono s1q, .inl (.of hlpq), .inr (T.z_Device_left_torn _), by omega, by simp, ⟨dx, fs, by rw [g10]; exact hpq, hL⟩, fun H9 d9 s9 hD9 => ?_⟩
        rw [g10, leftF_eq g8] at hD9
        clear hke hlte hd1e hpe hlp hkc hlt
        walk_at "rd"
        refine r_cut (fun σ' Hf => ∃ (d9 : Addr) (Hb : Hp) (zs : List V), σ' = [some (.ref a), some (.ref p), some (.int L.dev), some (.int choice), some (.int cut), some (.int size), some (.int r), some (.ref u), some (.int (0 + (i : Int))), some (.ref d), some (.ref qw), v11, v12, v13, v14, v15, some (.ref lk), some (.ref lt), some (.ref b), some (.ref lp), some (.ref lq), some (.ref d9), v22] ∧ Same Hq Hb ∧ DevIn T.A_Device Hb Hf d9 (newM p zs) ∧ (i ≠ 2 → zs = leftN m.wait ys ks tn m.wait.length)) ?_ ?_
        · have hk9 := s9 _ _ hkq
          have hlt9 := s9 _ _ hltq
          have hd9 := s9 _ _ hd1q
          walk_at "rd"
          refine r_ite (fun c => ?_) (fun c => ?_)
          · walk_at "rd"
            refine r_methN ?_
            walk_at "rd"
            refine r_methNL hd9 nL ?_
            walk_at "rd"
            rename_i lx nlx Hx sx hx' ly nly Hy sy hy'
            have s9y : Same H9 Hy := sx.trans sy
            refine ⟨rfl, rfl, ?_⟩
            refine ⟨H0, d, lx, ly, m, L, ks, tn, rfl, g7.mono (s1q.trans (s9.trans s9y)), .inr (.of (sy _ _ hx')), .inr (.of hy'), by omega, by omega, ⟨dx, fs, by rw [g10]; exact s9y _ _ (s9 _ _ hpq), hL⟩, fun Hg dg sg hDg => ?_⟩
            rw [g10, leftF_eq g8] at hDg
            walk_at "rd"
            exact ⟨dg, Hy, _, rfl, s9.trans s9y, hDg, fun _ => rfl⟩
          · walk_at "rd"
            exact ⟨d9, Hq, _, rfl, Same.refl _, hD9, fun c2 => by rw [h00 (by omega)]⟩
        rintro _ Hf ⟨d9, Hb, zs, rfl, sb, hD9, h9⟩
        have sqf : Same Hq Hf := sb.trans hD9.same
        refine r_cut (fun σ' Hf => ∃ (d9 : Addr) (Hb : Hp), σ' = [some (.ref a), some (.ref p), some (.int L.dev), some (.int choice), some (.int cut), some (.int size), some (.int r), some (.ref u), some (.int (0 + (i : Int))), some (.ref d), some (.ref qw), v11, v12, v13, v14, v15, some (.ref lk), some (.ref lt), some (.ref b), some (.ref lp), some (.ref lq), some (.ref d9), v22] ∧ Same Hq Hb ∧ DevIn T.A_Device Hb Hf d9 (newM p (leftN m.wait ys ks tn m.wait.length))) ?_ ?_
        · have hdf := sqf _ _ hd1q
          walk_at "rd"
          refine r_ite (fun c => ?_) (fun c => ?_)
          · walk_at "rd"
            refine r_methN ?_
            walk_at "rd"
            refine r_methNL hdf nL ?_
            walk_at "rd"
            refine ⟨rfl, rfl, ?_⟩
            refine ⟨H0, d, lp, lq, m, L, ks, tn, rfl, g7.mono (s1q.trans sqf), .inl (.of (sqf _ _ hlpq)), .inl (.of (sqf _ _ hlq)), by omega, by omega, ⟨dx, fs, by rw [g10]; exact sqf _ _ hpq, hL⟩, fun Hg dg sg hDg => ?_⟩
            rw [g10, leftF_eq g8] at hDg
            walk_at "rd"
            exact ⟨dg, Hf, rfl, sqf, hDg⟩
          · walk_at "rd"
            exact ⟨d9, Hb, rfl, sb, by rw [← h9 (by omega)]; exact hD9⟩
        clear hD9 h9 sb sqf
        rintro _ Hg ⟨dg, Hb, rfl, sb, hDg⟩
        have bz : ∀ v ∈ leftN m.wait ys ks tn m.wait.length, Bk K H' v := leftN_P Bk.non gb (fun r hr => (g13 r hr).2.2) _ (Nat.le_refl _)
        have lz : (leftN m.wait ys ks tn m.wait.length).length = ys.length := leftN_len _
        generalize leftN m.wait ys ks tn m.wait.length = zs at hb hbq hDg bz lz
        have sqg : Same Hq Hg := sb.trans hDg.same
        have bzg : ∀ v ∈ zs, Bk K Hg v := fun v hv => (bz v hv).keeps (Keeps.of (s1q.trans sqg))
        have hbg := sqg _ _ hbq
        obtain ⟨dxg, fsg, sug, shg, ung, usg, hg1, hg2, _⟩ := id hDg.at_
        have nR := hg2.nR
        have nP := hg2.nP
        have nU := hg2.nU
        have nS := hg2.nS
        have nW := hg2.nW
        refine r_cutS ?_ ?_
        · walk_at "rd"
          refine r_neI (.of (sqg _ _ hlpq)) (.of (sqg _ _ hkq)) ?_
          walk_at "rd"
          refine r_neI (.of (sqg _ _ hlq)) (.of (sqg _ _ hltq)) ?_
          walk_at "rd"
          exact ⟨rfl, rfl⟩
        walk_at "rd"
        refine r_forR (fun j σ' Hj => ∃ v13 : Option V, σ' = [some (.ref a), some (.ref p), some (.int L.dev), some (.int choice), some (.int cut), some (.int size), some (.int r), some (.ref u), some (.int (0 + (i : Int))), some (.ref d), some (.ref qw), v11, v12, v13, v14, v15, some (.ref lk), some (.ref lt), some (.ref b), some (.ref lp), some (.ref lq), some (.ref dg), v22] ∧ Hg = Hj) ⟨_, rfl, rfl⟩ ?_ ?_
        · rintro j σ' Hj hj ⟨v13, rfl, rfl⟩
          walk_at "rd"
          refine ⟨Hb, dg, _, _, rfl, hDg, ?_⟩
          rw [readF_in (m := newM p zs) (xs := zs) rfl (by omega) (by omega)]
          walk_at "rd"
          refine r_ixl (.of hbg) (at_vals (by omega) (by omega)) ?_
          refine r_neB (bzg _ (getD_in (by omega) (by omega))) ?_
          walk_at "rd"
          exact ⟨_, rfl, rfl⟩
        · rintro σ' Hj ⟨v13, rfl, rfl⟩
          refine r_cutH ?_ (fun Hh sgh => ?_)
          · walk_at "rd"
            refine ⟨Hb, dg, _, rfl, hDg, ?_⟩
            walk_at "rd"
            refine ⟨Hb, dg, _, rfl, hDg, ?_⟩
            walk_at "rd"
            refine ⟨Hb, dg, _, rfl, hDg, fun l Hl nl hl => ?_⟩
            have sl := Same.of_new hl nl
            walk_at "rd"
            refine r_neL (.of (Sg.at_new hl)) (.of (sl _ _ hbg)) (fun v hv => (bzg v hv).keeps (Keeps.of sl)) ?_
            walk_at "rd"
            exact ⟨rfl, sl⟩
          have hgh := sgh _ _ hg1
          have hph := sgh _ _ (sqg _ _ hpq)
          walk_at "rd"
          refine ⟨_, _, _, rfl, rfl, by walk_at "hp", by simp, by omega, by omega, by simp, ?_⟩
          rw [rep_ints]
          walk_at "al"
          walk_at "rd"
          rename_i pt npt Hw sw hpt
          have shw : Same Hh Hw := by walk_at "sm"
          refine ⟨Hb, dg, _, 0, .ref pt, rfl, (hDg.mono sgh).mono shw, by simp [newM], fun Hx hDx hKx => ?_⟩
          obtain ⟨dxx, fsx, sux, shx, unx, usx, hx1, hx2, _⟩ := id hDx.at_
          have nB := hx2.nB
          walk_at "rd"
          refine ⟨Hb, dg, _, rfl, hDx, fun Hy hDy hKy => ?_⟩
          walk_at "rd"
          exact ⟨_, _, _, _, _, _, _, _, _, rfl, S'.mono ((s1q.trans sb).trans hDy.same)⟩
      · rintro σ' H' ⟨v8, v13, v16, v17, v18, v19, v20, v21, v22, rfl, S'⟩
        clear S
        obtain ⟨⟨H0, m, g1, g2, g3, g4, g5, g6, g7, g8, g9, g10, g11, g12, g13⟩, gl, gb, gk⟩ := id S'
        obtain ⟨dxd, fsd, su, sh, un, us, hd1, hd2, _⟩ := id g7.at_
        have nP := hd2.nP
        have nU := hd2.nU
        have nS := hd2.nS
        have hu' := g7.same _ _ g4
        have hq' := g7.same _ _ g5
        have tl := Paired.length g12
        walk_at "rd"
        refine ⟨H0, d, m, rfl, g7, ?_⟩
        walk_at "rd"
        refine r_iteD (by rw [List.length_map, tl]) ?_
        walk_at "rd"
        refine ⟨H0, d, m, rfl, g7, fun l Hl nl hl => ?_⟩
        rw [g8] at hl
        have sl := Same.of_new hl nl
        walk_at "rd"
        refine r_eqL (.of (Sg.at_new hl)) (.of (sl _ _ hu')) (fun v hv => (gb v hv).keeps (Keeps.of sl)) ?_
        have hdl := sl _ _ hd1
        walk_at "rd"
        refine ⟨H0, d, m, rfl, g7.mono sl, ?_⟩
        walk_at "rd"
        refine r_eq rfl ?_
        have e20 : ctAt cut (20 + size).toNat = decide (cut < 20) := by
          unfold ctAt
          rw [Bool.eq_iff_iff]
          simp only [decide_eq_true_eq]
          omega
        rw [g11.off, ect, e20, decide_eq_true rfl]
        exact q _
end
theorem all_mk {l : PySem.W.OpenLaw} {w : World} {K : PySem.W.Frag} {h : Heap} {mg : Str → Option Value} {fa C_Device C_Layout f_Device___init f_Device_read f_Device_write f_Device_barrier f_Device_cut_after f_Device_was_cut f_Device_pending f_Device_sure_blocks f_Device_left f_Device__takes_place f_put_block f_Layout___init f_parts_of f_law_row f_law_digits f_law_layout f_law_block f_law_left f_law_choice f_law k_BLOCK_SIZES dT_Device___init kD_Device_left kT_Device_left_torn : Addr} (X : K.In h) (G : h.Ns mainGlobals mg) (hfa : mg "law" = some (.ref fa))
    {od_Device___init an_Device___init od_Device_read an_Device_read od_Device_write an_Device_write od_Device_barrier an_Device_barrier od_Device_cut_after an_Device_cut_after od_Device_was_cut an_Device_was_cut od_Device_pending an_Device_pending od_Device_sure_blocks an_Device_sure_blocks od_Device_left an_Device_left od_Device__takes_place an_Device__takes_place od_put_block an_put_block od_Layout___init an_Layout___init od_parts_of an_parts_of od_law_row an_law_row od_law_digits an_law_digits od_law_layout an_law_layout od_law_block an_law_block od_law_left an_law_left od_law_choice an_law_choice od_law an_law : Option Addr} {sl_Device___init sl_Device_read sl_Device_write sl_Device_barrier sl_Device_cut_after sl_Device_was_cut sl_Device_pending sl_Device_sure_blocks sl_Device_left sl_Device__takes_place sl_put_block sl_Layout___init sl_parts_of sl_law_row sl_law_digits sl_law_layout sl_law_block sl_law_left sl_law_choice sl_law : Array (Option Value)} {oc_Device___init kV_Device___init dc_Device___init pm_Device___init cd_Device___init ct_Device___init oc_Device_read kV_Device_read dc_Device_read pm_Device_read cd_Device_read ct_Device_read oc_Device_write kV_Device_write dc_Device_write pm_Device_write cd_Device_write ct_Device_write oc_Device_barrier kV_Device_barrier dc_Device_barrier pm_Device_barrier cd_Device_barrier ct_Device_barrier oc_Device_cut_after kV_Device_cut_after dc_Device_cut_after pm_Device_cut_after cd_Device_cut_after ct_Device_cut_after oc_Device_was_cut kV_Device_was_cut dc_Device_was_cut pm_Device_was_cut cd_Device_was_cut ct_Device_was_cut oc_Device_pending kV_Device_pending dc_Device_pending pm_Device_pending cd_Device_pending ct_Device_pending oc_Device_sure_blocks kV_Device_sure_blocks dc_Device_sure_blocks pm_Device_sure_blocks cd_Device_sure_blocks ct_Device_sure_blocks oc_Device_left dc_Device_left pm_Device_left cd_Device_left ct_Device_left oc_Device__takes_place kV_Device__takes_place dc_Device__takes_place pm_Device__takes_place cd_Device__takes_place ct_Device__takes_place oc_put_block kV_put_block dc_put_block pm_put_block cd_put_block ct_put_block oc_Layout___init kV_Layout___init dc_Layout___init pm_Layout___init cd_Layout___init ct_Layout___init oc_parts_of kV_parts_of dc_parts_of pm_parts_of cd_parts_of ct_parts_of oc_law_row kV_law_row dc_law_row pm_law_row cd_law_row ct_law_row oc_law_digits kV_law_digits dc_law_digits pm_law_digits cd_law_digits ct_law_digits oc_law_layout kV_law_layout dc_law_layout pm_law_layout cd_law_layout ct_law_layout oc_law_block kV_law_block dc_law_block pm_law_block cd_law_block ct_law_block oc_law_left kV_law_left dc_law_left pm_law_left cd_law_left ct_law_left oc_law_choice kV_law_choice dc_law_choice pm_law_choice cd_law_choice ct_law_choice oc_law kV_law dc_law pm_law cd_law ct_law : Value}
    {dd_Device___init : Option Addr} {dn_Device___init : Nat} {dsl_Device___init : Array (Option Value)}
    {kod_Device_left_torn : Option Addr} {kn_Device_left_torn : Nat} {ks_Device_left_torn : Array (Option Value)}
    {t_SUMMARY_HEAD yt_BLOCK_SIZES_0 yt_BLOCK_SIZES_1 yt_BLOCK_SIZES_2 : Tok}
    {yd_BLOCK_SIZES : Option Addr} {yn_BLOCK_SIZES : Nat} {ys_BLOCK_SIZES : Array (Option Value)}
    (mC_Device : PySem.W.nsIn K mainGlobals "Device" = some (some (.ref C_Device)))
    (pg_Device : PySem.W.plainGet K C_Device Str.empty = true)
    (hd_Device : PySem.W.hasDictIn K C_Device = true)
    (po_Device : PySem.W.plainOver K C_Device = true)
    (sa_Device : PySem.W.findIn K (.ref C_Device) "__setattr__" = some (some (.builtin "object.__setattr__")))
    (mk_Device : PySem.W.makesIn K C_Device = true)
    (kc_Device : PySem.W.keepIn K (.ref C_Device) = true)
    (na_Device_layout : PySem.W.findIn K (.ref C_Device) "layout" = some none)
    (na_Device__sure : PySem.W.findIn K (.ref C_Device) "_sure" = some none)
    (na_Device__shown : PySem.W.findIn K (.ref C_Device) "_shown" = some none)
    (na_Device__unsure : PySem.W.findIn K (.ref C_Device) "_unsure" = some none)
    (na_Device__commands_left : PySem.W.findIn K (.ref C_Device) "_commands_left" = some none)
    (na_Device__power_is_off : PySem.W.findIn K (.ref C_Device) "_power_is_off" = some none)
    (mC_Layout : PySem.W.nsIn K mainGlobals "Layout" = some (some (.ref C_Layout)))
    (pg_Layout : PySem.W.plainGet K C_Layout Str.empty = true)
    (hd_Layout : PySem.W.hasDictIn K C_Layout = true)
    (po_Layout : PySem.W.plainOver K C_Layout = true)
    (sa_Layout : PySem.W.findIn K (.ref C_Layout) "__setattr__" = some (some (.builtin "object.__setattr__")))
    (mk_Layout : PySem.W.makesIn K C_Layout = true)
    (kc_Layout : PySem.W.keepIn K (.ref C_Layout) = true)
    (na_Layout_segments : PySem.W.findIn K (.ref C_Layout) "segments" = some none)
    (na_Layout_segment_blocks : PySem.W.findIn K (.ref C_Layout) "segment_blocks" = some none)
    (na_Layout_block_size : PySem.W.findIn K (.ref C_Layout) "block_size" = some none)
    (na_Layout_payload : PySem.W.findIn K (.ref C_Layout) "payload" = some none)
    (na_Layout_limit : PySem.W.findIn K (.ref C_Layout) "limit" = some none)
    (na_Layout_last_id : PySem.W.findIn K (.ref C_Layout) "last_id" = some none)
    (na_Layout_fan : PySem.W.findIn K (.ref C_Layout) "fan" = some none)
    (na_Layout_region_blocks : PySem.W.findIn K (.ref C_Layout) "region_blocks" = some none)
    (na_Layout_device_blocks : PySem.W.findIn K (.ref C_Layout) "device_blocks" = some none)
    (a_Device___init : PySem.W.findIn K (.ref C_Device) "__init__" = some (some (.ref f_Device___init)))
    (i_Device___init : PySem.W.isFn K (.ref f_Device___init) = true)
    (l_Device___init : K.lookup f_Device___init = some ⟨oc_Device___init, od_Device___init, .func (PySem.W.fnOf "__init__" "Device.__init__" (defArgs s_Device___init) (defBody s_Device___init) (defScope s_Device___init) (.ref dT_Device___init) kV_Device___init dc_Device___init pm_Device___init an_Device___init cd_Device___init ct_Device___init), sl_Device___init⟩)
    (dl_Device___init : K.lookup dT_Device___init = some ⟨.type "tuple", dd_Device___init, .seq #[Value.none] dn_Device___init, dsl_Device___init⟩)
    (c_Device___init : PySem.W.codeIn K cd_Device___init "Device.__init__" = true)
    (k_Device___init : PySem.W.keepIn K (.ref f_Device___init) = true)
    (a_Device_read : PySem.W.findIn K (.ref C_Device) "read" = some (some (.ref f_Device_read)))
    (i_Device_read : PySem.W.isFn K (.ref f_Device_read) = true)
    (l_Device_read : K.lookup f_Device_read = some ⟨oc_Device_read, od_Device_read, .func (PySem.W.fnOf "read" "Device.read" (defArgs s_Device_read) (defBody s_Device_read) (defScope s_Device_read) .none kV_Device_read dc_Device_read pm_Device_read an_Device_read cd_Device_read ct_Device_read), sl_Device_read⟩)
    (c_Device_read : PySem.W.codeIn K cd_Device_read "Device.read" = true)
    (k_Device_read : PySem.W.keepIn K (.ref f_Device_read) = true)
    (a_Device_write : PySem.W.findIn K (.ref C_Device) "write" = some (some (.ref f_Device_write)))
    (i_Device_write : PySem.W.isFn K (.ref f_Device_write) = true)
    (l_Device_write : K.lookup f_Device_write = some ⟨oc_Device_write, od_Device_write, .func (PySem.W.fnOf "write" "Device.write" (defArgs s_Device_write) (defBody s_Device_write) (defScope s_Device_write) .none kV_Device_write dc_Device_write pm_Device_write an_Device_write cd_Device_write ct_Device_write), sl_Device_write⟩)
    (c_Device_write : PySem.W.codeIn K cd_Device_write "Device.write" = true)
    (k_Device_write : PySem.W.keepIn K (.ref f_Device_write) = true)
    (a_Device_barrier : PySem.W.findIn K (.ref C_Device) "barrier" = some (some (.ref f_Device_barrier)))
    (i_Device_barrier : PySem.W.isFn K (.ref f_Device_barrier) = true)
    (l_Device_barrier : K.lookup f_Device_barrier = some ⟨oc_Device_barrier, od_Device_barrier, .func (PySem.W.fnOf "barrier" "Device.barrier" (defArgs s_Device_barrier) (defBody s_Device_barrier) (defScope s_Device_barrier) .none kV_Device_barrier dc_Device_barrier pm_Device_barrier an_Device_barrier cd_Device_barrier ct_Device_barrier), sl_Device_barrier⟩)
    (c_Device_barrier : PySem.W.codeIn K cd_Device_barrier "Device.barrier" = true)
    (k_Device_barrier : PySem.W.keepIn K (.ref f_Device_barrier) = true)
    (a_Device_cut_after : PySem.W.findIn K (.ref C_Device) "cut_after" = some (some (.ref f_Device_cut_after)))
    (i_Device_cut_after : PySem.W.isFn K (.ref f_Device_cut_after) = true)
    (l_Device_cut_after : K.lookup f_Device_cut_after = some ⟨oc_Device_cut_after, od_Device_cut_after, .func (PySem.W.fnOf "cut_after" "Device.cut_after" (defArgs s_Device_cut_after) (defBody s_Device_cut_after) (defScope s_Device_cut_after) .none kV_Device_cut_after dc_Device_cut_after pm_Device_cut_after an_Device_cut_after cd_Device_cut_after ct_Device_cut_after), sl_Device_cut_after⟩)
    (c_Device_cut_after : PySem.W.codeIn K cd_Device_cut_after "Device.cut_after" = true)
    (k_Device_cut_after : PySem.W.keepIn K (.ref f_Device_cut_after) = true)
    (a_Device_was_cut : PySem.W.findIn K (.ref C_Device) "was_cut" = some (some (.ref f_Device_was_cut)))
    (i_Device_was_cut : PySem.W.isFn K (.ref f_Device_was_cut) = true)
    (l_Device_was_cut : K.lookup f_Device_was_cut = some ⟨oc_Device_was_cut, od_Device_was_cut, .func (PySem.W.fnOf "was_cut" "Device.was_cut" (defArgs s_Device_was_cut) (defBody s_Device_was_cut) (defScope s_Device_was_cut) .none kV_Device_was_cut dc_Device_was_cut pm_Device_was_cut an_Device_was_cut cd_Device_was_cut ct_Device_was_cut), sl_Device_was_cut⟩)
    (c_Device_was_cut : PySem.W.codeIn K cd_Device_was_cut "Device.was_cut" = true)
    (k_Device_was_cut : PySem.W.keepIn K (.ref f_Device_was_cut) = true)
    (a_Device_pending : PySem.W.findIn K (.ref C_Device) "pending" = some (some (.ref f_Device_pending)))
    (i_Device_pending : PySem.W.isFn K (.ref f_Device_pending) = true)
    (l_Device_pending : K.lookup f_Device_pending = some ⟨oc_Device_pending, od_Device_pending, .func (PySem.W.fnOf "pending" "Device.pending" (defArgs s_Device_pending) (defBody s_Device_pending) (defScope s_Device_pending) .none kV_Device_pending dc_Device_pending pm_Device_pending an_Device_pending cd_Device_pending ct_Device_pending), sl_Device_pending⟩)
    (c_Device_pending : PySem.W.codeIn K cd_Device_pending "Device.pending" = true)
    (k_Device_pending : PySem.W.keepIn K (.ref f_Device_pending) = true)
    (a_Device_sure_blocks : PySem.W.findIn K (.ref C_Device) "sure_blocks" = some (some (.ref f_Device_sure_blocks)))
    (i_Device_sure_blocks : PySem.W.isFn K (.ref f_Device_sure_blocks) = true)
    (l_Device_sure_blocks : K.lookup f_Device_sure_blocks = some ⟨oc_Device_sure_blocks, od_Device_sure_blocks, .func (PySem.W.fnOf "sure_blocks" "Device.sure_blocks" (defArgs s_Device_sure_blocks) (defBody s_Device_sure_blocks) (defScope s_Device_sure_blocks) .none kV_Device_sure_blocks dc_Device_sure_blocks pm_Device_sure_blocks an_Device_sure_blocks cd_Device_sure_blocks ct_Device_sure_blocks), sl_Device_sure_blocks⟩)
    (c_Device_sure_blocks : PySem.W.codeIn K cd_Device_sure_blocks "Device.sure_blocks" = true)
    (k_Device_sure_blocks : PySem.W.keepIn K (.ref f_Device_sure_blocks) = true)
    (a_Device_left : PySem.W.findIn K (.ref C_Device) "left" = some (some (.ref f_Device_left)))
    (i_Device_left : PySem.W.isFn K (.ref f_Device_left) = true)
    (l_Device_left : K.lookup f_Device_left = some ⟨oc_Device_left, od_Device_left, .func (PySem.W.fnOf "left" "Device.left" (defArgs s_Device_left) (defBody s_Device_left) (defScope s_Device_left) .none (.ref kD_Device_left) dc_Device_left pm_Device_left an_Device_left cd_Device_left ct_Device_left), sl_Device_left⟩)
    (kd_Device_left_torn : PySem.W.nsIn K kD_Device_left "torn" = some (some (.ref kT_Device_left_torn)))
    (kt_Device_left_torn : K.lookup kT_Device_left_torn = some ⟨.type "tuple", kod_Device_left_torn, .seq #[] kn_Device_left_torn, ks_Device_left_torn⟩)
    (c_Device_left : PySem.W.codeIn K cd_Device_left "Device.left" = true)
    (k_Device_left : PySem.W.keepIn K (.ref f_Device_left) = true)
    (a_Device__takes_place : PySem.W.findIn K (.ref C_Device) "_takes_place" = some (some (.ref f_Device__takes_place)))
    (i_Device__takes_place : PySem.W.isFn K (.ref f_Device__takes_place) = true)
    (l_Device__takes_place : K.lookup f_Device__takes_place = some ⟨oc_Device__takes_place, od_Device__takes_place, .func (PySem.W.fnOf "_takes_place" "Device._takes_place" (defArgs s_Device__takes_place) (defBody s_Device__takes_place) (defScope s_Device__takes_place) .none kV_Device__takes_place dc_Device__takes_place pm_Device__takes_place an_Device__takes_place cd_Device__takes_place ct_Device__takes_place), sl_Device__takes_place⟩)
    (c_Device__takes_place : PySem.W.codeIn K cd_Device__takes_place "Device._takes_place" = true)
    (k_Device__takes_place : PySem.W.keepIn K (.ref f_Device__takes_place) = true)
    (a_put_block : PySem.W.nsIn K mainGlobals "_put_block" = some (some (.ref f_put_block)))
    (l_put_block : K.lookup f_put_block = some ⟨oc_put_block, od_put_block, .func (PySem.W.fnOf "_put_block" "_put_block" (defArgs s_put_block) (defBody s_put_block) (defScope s_put_block) .none kV_put_block dc_put_block pm_put_block an_put_block cd_put_block ct_put_block), sl_put_block⟩)
    (c_put_block : PySem.W.codeIn K cd_put_block "_put_block" = true)
    (k_put_block : PySem.W.keepIn K (.ref f_put_block) = true)
    (a_Layout___init : PySem.W.findIn K (.ref C_Layout) "__init__" = some (some (.ref f_Layout___init)))
    (i_Layout___init : PySem.W.isFn K (.ref f_Layout___init) = true)
    (l_Layout___init : K.lookup f_Layout___init = some ⟨oc_Layout___init, od_Layout___init, .func (PySem.W.fnOf "__init__" "Layout.__init__" (defArgs s_Layout___init) (defBody s_Layout___init) (defScope s_Layout___init) .none kV_Layout___init dc_Layout___init pm_Layout___init an_Layout___init cd_Layout___init ct_Layout___init), sl_Layout___init⟩)
    (c_Layout___init : PySem.W.codeIn K cd_Layout___init "Layout.__init__" = true)
    (k_Layout___init : PySem.W.keepIn K (.ref f_Layout___init) = true)
    (a_parts_of : PySem.W.nsIn K mainGlobals "parts_of" = some (some (.ref f_parts_of)))
    (l_parts_of : K.lookup f_parts_of = some ⟨oc_parts_of, od_parts_of, .func (PySem.W.fnOf "parts_of" "parts_of" (defArgs s_parts_of) (defBody s_parts_of) (defScope s_parts_of) .none kV_parts_of dc_parts_of pm_parts_of an_parts_of cd_parts_of ct_parts_of), sl_parts_of⟩)
    (c_parts_of : PySem.W.codeIn K cd_parts_of "parts_of" = true)
    (k_parts_of : PySem.W.keepIn K (.ref f_parts_of) = true)
    (a_law_row : PySem.W.nsIn K mainGlobals "_law_row" = some (some (.ref f_law_row)))
    (l_law_row : K.lookup f_law_row = some ⟨oc_law_row, od_law_row, .func (PySem.W.fnOf "_law_row" "_law_row" (defArgs s_law_row) (defBody s_law_row) (defScope s_law_row) .none kV_law_row dc_law_row pm_law_row an_law_row cd_law_row ct_law_row), sl_law_row⟩)
    (c_law_row : PySem.W.codeIn K cd_law_row "_law_row" = true)
    (k_law_row : PySem.W.keepIn K (.ref f_law_row) = true)
    (a_law_digits : PySem.W.nsIn K mainGlobals "_law_digits" = some (some (.ref f_law_digits)))
    (l_law_digits : K.lookup f_law_digits = some ⟨oc_law_digits, od_law_digits, .func (PySem.W.fnOf "_law_digits" "_law_digits" (defArgs s_law_digits) (defBody s_law_digits) (defScope s_law_digits) .none kV_law_digits dc_law_digits pm_law_digits an_law_digits cd_law_digits ct_law_digits), sl_law_digits⟩)
    (c_law_digits : PySem.W.codeIn K cd_law_digits "_law_digits" = true)
    (k_law_digits : PySem.W.keepIn K (.ref f_law_digits) = true)
    (a_law_layout : PySem.W.nsIn K mainGlobals "_law_layout" = some (some (.ref f_law_layout)))
    (l_law_layout : K.lookup f_law_layout = some ⟨oc_law_layout, od_law_layout, .func (PySem.W.fnOf "_law_layout" "_law_layout" (defArgs s_law_layout) (defBody s_law_layout) (defScope s_law_layout) .none kV_law_layout dc_law_layout pm_law_layout an_law_layout cd_law_layout ct_law_layout), sl_law_layout⟩)
    (c_law_layout : PySem.W.codeIn K cd_law_layout "_law_layout" = true)
    (k_law_layout : PySem.W.keepIn K (.ref f_law_layout) = true)
    (a_law_block : PySem.W.nsIn K mainGlobals "_law_block" = some (some (.ref f_law_block)))
    (l_law_block : K.lookup f_law_block = some ⟨oc_law_block, od_law_block, .func (PySem.W.fnOf "_law_block" "_law_block" (defArgs s_law_block) (defBody s_law_block) (defScope s_law_block) .none kV_law_block dc_law_block pm_law_block an_law_block cd_law_block ct_law_block), sl_law_block⟩)
    (c_law_block : PySem.W.codeIn K cd_law_block "_law_block" = true)
    (k_law_block : PySem.W.keepIn K (.ref f_law_block) = true)
    (a_law_left : PySem.W.nsIn K mainGlobals "_law_left" = some (some (.ref f_law_left)))
    (l_law_left : K.lookup f_law_left = some ⟨oc_law_left, od_law_left, .func (PySem.W.fnOf "_law_left" "_law_left" (defArgs s_law_left) (defBody s_law_left) (defScope s_law_left) .none kV_law_left dc_law_left pm_law_left an_law_left cd_law_left ct_law_left), sl_law_left⟩)
    (c_law_left : PySem.W.codeIn K cd_law_left "_law_left" = true)
    (k_law_left : PySem.W.keepIn K (.ref f_law_left) = true)
    (a_law_choice : PySem.W.nsIn K mainGlobals "_law_choice" = some (some (.ref f_law_choice)))
    (l_law_choice : K.lookup f_law_choice = some ⟨oc_law_choice, od_law_choice, .func (PySem.W.fnOf "_law_choice" "_law_choice" (defArgs s_law_choice) (defBody s_law_choice) (defScope s_law_choice) .none kV_law_choice dc_law_choice pm_law_choice an_law_choice cd_law_choice ct_law_choice), sl_law_choice⟩)
    (c_law_choice : PySem.W.codeIn K cd_law_choice "_law_choice" = true)
    (k_law_choice : PySem.W.keepIn K (.ref f_law_choice) = true)
    (a_law : PySem.W.nsIn K mainGlobals "law" = some (some (.ref f_law)))
    (l_law : K.lookup f_law = some ⟨oc_law, od_law, .func (PySem.W.fnOf "law" "law" (defArgs s_law) (defBody s_law) (defScope s_law) .none kV_law dc_law pm_law an_law cd_law ct_law), sl_law⟩)
    (c_law : PySem.W.codeIn K cd_law "law" = true)
    (k_law : PySem.W.keepIn K (.ref f_law) = true)
    (q_BLOCK_SIZES : PySem.W.nsIn K mainGlobals "BLOCK_SIZES" = some (some (.ref k_BLOCK_SIZES)))
    (y_BLOCK_SIZES : K.lookup k_BLOCK_SIZES = some ⟨.type "tuple", yd_BLOCK_SIZES, .seq #[.int 64 yt_BLOCK_SIZES_0, .int 128 yt_BLOCK_SIZES_1, .int 256 yt_BLOCK_SIZES_2] yn_BLOCK_SIZES, ys_BLOCK_SIZES⟩)
    (q_SUMMARY_HEAD : PySem.W.nsIn K mainGlobals "SUMMARY_HEAD" = some (some (.int 16 t_SUMMARY_HEAD)))
    (n_enumerate : PySem.W.nsIn K mainGlobals "enumerate" = some none)
    (n_int : PySem.W.nsIn K mainGlobals "int" = some none)
    (n_len : PySem.W.nsIn K mainGlobals "len" = some none)
    (n_list : PySem.W.nsIn K mainGlobals "list" = some none)
    (n_range : PySem.W.nsIn K mainGlobals "range" = some none)
    (n_set : PySem.W.nsIn K mainGlobals "set" = some none)
    (n_tuple : PySem.W.nsIn K mainGlobals "tuple" = some none)
    : ∃ fd : FuncData, (∀ (s : Shared) (v : Value), BindsTo s fd ⟨[v], []⟩ [("script", v)]) ∧ ∀ base : Heap, K.In base → base.Ns mainGlobals mg → FnOk l.prog w K mg base CX0 5 fa fd ["script"] (spLawK K) := by
  have e := hfa.symm.trans (PySem.W.mg_of X G a_law)
  cases e
  have F_Device___init : FunD K "__init__" "Device.__init__" (defArgs s_Device___init) (defBody s_Device___init) (defScope s_Device___init) [V.non] [] f_Device___init _ := ⟨⟨_, _, _, _, _, _, _, _, _, _, rfl, l_Device___init, c_Device___init, .inr ⟨by simp, _, _, _, _, rfl, dl_Device___init, rfl, (.cons rfl .nil)⟩, .inl rfl⟩, k_Device___init⟩
  obtain ⟨ds_Device___init_3, v_Device___init_3, b_Device___init_3⟩ := F_Device___init.binds1 (ps := ["self", "layout", "blocks"]) 3 1 (by simp) rfl fun _ _ _ _ _ _ _ us its hl hi => match us, its, hl, hi with | [_, _, _], [_], _, _ => ⟨_, rfl, rfl⟩
  cases v_Device___init_3
  have F_Device_read := fun_mk (st := s_Device_read) l_Device_read c_Device_read k_Device_read
  have b_Device_read := F_Device_read.binds (ps := ["self", "address"]) fun _ _ _ _ _ _ us hl => match us, hl with | [_, _], _ => rfl
  have F_Device_write := fun_mk (st := s_Device_write) l_Device_write c_Device_write k_Device_write
  have b_Device_write := F_Device_write.binds (ps := ["self", "address", "block"]) fun _ _ _ _ _ _ us hl => match us, hl with | [_, _, _], _ => rfl
  have F_Device_barrier := fun_mk (st := s_Device_barrier) l_Device_barrier c_Device_barrier k_Device_barrier
  have b_Device_barrier := F_Device_barrier.binds (ps := ["self"]) fun _ _ _ _ _ _ us hl => match us, hl with | [_], _ => rfl
  have F_Device_cut_after := fun_mk (st := s_Device_cut_after) l_Device_cut_after c_Device_cut_after k_Device_cut_after
  have b_Device_cut_after := F_Device_cut_after.binds (ps := ["self", "count"]) fun _ _ _ _ _ _ us hl => match us, hl with | [_, _], _ => rfl
  have F_Device_was_cut := fun_mk (st := s_Device_was_cut) l_Device_was_cut c_Device_was_cut k_Device_was_cut
  have b_Device_was_cut := F_Device_was_cut.binds (ps := ["self"]) fun _ _ _ _ _ _ us hl => match us, hl with | [_], _ => rfl
  have F_Device_pending := fun_mk (st := s_Device_pending) l_Device_pending c_Device_pending k_Device_pending
  have b_Device_pending := F_Device_pending.binds (ps := ["self"]) fun _ _ _ _ _ _ us hl => match us, hl with | [_], _ => rfl
  have F_Device_sure_blocks := fun_mk (st := s_Device_sure_blocks) l_Device_sure_blocks c_Device_sure_blocks k_Device_sure_blocks
  have b_Device_sure_blocks := F_Device_sure_blocks.binds (ps := ["self"]) fun _ _ _ _ _ _ us hl => match us, hl with | [_], _ => rfl
  have F_Device_left : FunD K "left" "Device.left" (defArgs s_Device_left) (defBody s_Device_left) (defScope s_Device_left) [] [("torn", V.ref kT_Device_left_torn)] f_Device_left _ := ⟨⟨_, _, _, _, _, _, _, _, _, _, rfl, l_Device_left, c_Device_left, .inl ⟨rfl, rfl⟩, .inr ⟨_, rfl, fun q hq => by cases List.mem_singleton.mp hq; exact ⟨_, kd_Device_left_torn, rfl⟩⟩⟩, k_Device_left⟩
  obtain ⟨ds_Device_left_2, v_Device_left_2, b_Device_left_2⟩ := F_Device_left.binds0 (ps := ["self", "kept", "torn"]) 2 (by simp) rfl fun _ _ _ _ _ _ us ks hl hk => match us, ks, hl, hk with | [_, _], [_], _, _ => ⟨_, _, _, _, _, _, rfl, rfl, rfl⟩
  obtain ⟨_, kb_Device_left⟩ := F_Device_left.kbinds0 (ps := ["self", "kept", "torn"]) 2 ["torn"] [] (fun us _ ws => us ++ ws) (by simp) (fun q hq => by cases hq) (fun r1 _ r2 => r1.append r2) fun _ _ _ _ _ _ us mv ws l1 l2 l3 => match us, mv, ws, l1, l2, l3 with | [_, _], [], [_], _, _, _ => rfl
  have F_Device__takes_place := fun_mk (st := s_Device__takes_place) l_Device__takes_place c_Device__takes_place k_Device__takes_place
  have b_Device__takes_place := F_Device__takes_place.binds (ps := ["self"]) fun _ _ _ _ _ _ us hl => match us, hl with | [_], _ => rfl
  have F_put_block := fun_mk (st := s_put_block) l_put_block c_put_block k_put_block
  have b_put_block := F_put_block.binds (ps := ["blocks", "address", "block"]) fun _ _ _ _ _ _ us hl => match us, hl with | [_, _, _], _ => rfl
  have F_Layout___init := fun_mk (st := s_Layout___init) l_Layout___init c_Layout___init k_Layout___init
  have b_Layout___init := F_Layout___init.binds (ps := ["self", "segments", "segment_blocks", "block_size"]) fun _ _ _ _ _ _ us hl => match us, hl with | [_, _, _, _], _ => rfl
  have F_parts_of := fun_mk (st := s_parts_of) l_parts_of c_parts_of k_parts_of
  have b_parts_of := F_parts_of.binds (ps := ["number", "size"]) fun _ _ _ _ _ _ us hl => match us, hl with | [_, _], _ => rfl
  have F_law_row := fun_mk (st := s_law_row) l_law_row c_law_row k_law_row
  have b_law_row := F_law_row.binds (ps := ["script", "k"]) fun _ _ _ _ _ _ us hl => match us, hl with | [_, _], _ => rfl
  have F_law_digits := fun_mk (st := s_law_digits) l_law_digits c_law_digits k_law_digits
  have b_law_digits := F_law_digits.binds (ps := ["row", "sizes"]) fun _ _ _ _ _ _ us hl => match us, hl with | [_, _], _ => rfl
  have F_law_layout := fun_mk (st := s_law_layout) l_law_layout c_law_layout k_law_layout
  have b_law_layout := F_law_layout.binds (ps := ["row"]) fun _ _ _ _ _ _ us hl => match us, hl with | [_], _ => rfl
  have F_law_block := fun_mk (st := s_law_block) l_law_block c_law_block k_law_block
  have b_law_block := F_law_block.binds (ps := ["layout", "row", "sequence"]) fun _ _ _ _ _ _ us hl => match us, hl with | [_, _, _], _ => rfl
  have F_law_left := fun_mk (st := s_law_left) l_law_left c_law_left k_law_left
  have b_law_left := F_law_left.binds (ps := ["sure", "waiting", "kept", "torn"]) fun _ _ _ _ _ _ us hl => match us, hl with | [_, _, _, _], _ => rfl
  have F_law_choice := fun_mk (st := s_law_choice) l_law_choice c_law_choice k_law_choice
  have b_law_choice := F_law_choice.binds (ps := ["script", "at", "most"]) fun _ _ _ _ _ _ us hl => match us, hl with | [_, _, _], _ => rfl
  have F_law := fun_mk (st := s_law) l_law c_law k_law
  have b_law := F_law.binds (ps := ["script"]) fun _ _ _ _ _ _ us hl => match us, hl with | [_], _ => rfl
  let T : Txt K mg := {
    a_Device___init := f_Device___init,
    fd_Device___init := _,
    F_Device___init := F_Device___init,
    b_Device___init := b_Device___init_3,
    a_Device_read := f_Device_read,
    fd_Device_read := _,
    F_Device_read := F_Device_read,
    b_Device_read := b_Device_read,
    me_Device_read := ⟨a_Device_read, i_Device_read, k_Device_read⟩,
    a_Device_write := f_Device_write,
    fd_Device_write := _,
    F_Device_write := F_Device_write,
    b_Device_write := b_Device_write,
    me_Device_write := ⟨a_Device_write, i_Device_write, k_Device_write⟩,
    a_Device_barrier := f_Device_barrier,
    fd_Device_barrier := _,
    F_Device_barrier := F_Device_barrier,
    b_Device_barrier := b_Device_barrier,
    me_Device_barrier := ⟨a_Device_barrier, i_Device_barrier, k_Device_barrier⟩,
    a_Device_cut_after := f_Device_cut_after,
    fd_Device_cut_after := _,
    F_Device_cut_after := F_Device_cut_after,
    b_Device_cut_after := b_Device_cut_after,
    me_Device_cut_after := ⟨a_Device_cut_after, i_Device_cut_after, k_Device_cut_after⟩,
    a_Device_was_cut := f_Device_was_cut,
    fd_Device_was_cut := _,
    F_Device_was_cut := F_Device_was_cut,
    b_Device_was_cut := b_Device_was_cut,
    me_Device_was_cut := ⟨a_Device_was_cut, i_Device_was_cut, k_Device_was_cut⟩,
    a_Device_pending := f_Device_pending,
    fd_Device_pending := _,
    F_Device_pending := F_Device_pending,
    b_Device_pending := b_Device_pending,
    me_Device_pending := ⟨a_Device_pending, i_Device_pending, k_Device_pending⟩,
    a_Device_sure_blocks := f_Device_sure_blocks,
    fd_Device_sure_blocks := _,
    F_Device_sure_blocks := F_Device_sure_blocks,
    b_Device_sure_blocks := b_Device_sure_blocks,
    me_Device_sure_blocks := ⟨a_Device_sure_blocks, i_Device_sure_blocks, k_Device_sure_blocks⟩,
    a_Device_left := f_Device_left,
    fd_Device_left := _,
    F_Device_left := F_Device_left,
    kb_Device_left := kb_Device_left,
    e_Device_left_torn := kT_Device_left_torn,
    z_Device_left_torn := fun _ => .inr ⟨_, _, _, kt_Device_left_torn, rfl, rfl, Nat.le_of_ble_eq_true rfl, .nil⟩,
    ds_Device_left_2 := ds_Device_left_2,
    v_Device_left_2 := v_Device_left_2,
    b_Device_left_2 := b_Device_left_2,
    me_Device_left := ⟨a_Device_left, i_Device_left, k_Device_left⟩,
    a_Device__takes_place := f_Device__takes_place,
    fd_Device__takes_place := _,
    F_Device__takes_place := F_Device__takes_place,
    b_Device__takes_place := b_Device__takes_place,
    me_Device__takes_place := ⟨a_Device__takes_place, i_Device__takes_place, k_Device__takes_place⟩,
    a_put_block := f_put_block,
    fd_put_block := _,
    F_put_block := F_put_block,
    b_put_block := b_put_block,
    m_put_block := PySem.W.mg_of X G a_put_block,
    a_Layout___init := f_Layout___init,
    fd_Layout___init := _,
    F_Layout___init := F_Layout___init,
    b_Layout___init := b_Layout___init,
    a_parts_of := f_parts_of,
    fd_parts_of := _,
    F_parts_of := F_parts_of,
    b_parts_of := b_parts_of,
    m_parts_of := PySem.W.mg_of X G a_parts_of,
    a_law_row := f_law_row,
    fd_law_row := _,
    F_law_row := F_law_row,
    b_law_row := b_law_row,
    m_law_row := PySem.W.mg_of X G a_law_row,
    a_law_digits := f_law_digits,
    fd_law_digits := _,
    F_law_digits := F_law_digits,
    b_law_digits := b_law_digits,
    m_law_digits := PySem.W.mg_of X G a_law_digits,
    a_law_layout := f_law_layout,
    fd_law_layout := _,
    F_law_layout := F_law_layout,
    b_law_layout := b_law_layout,
    m_law_layout := PySem.W.mg_of X G a_law_layout,
    a_law_block := f_law_block,
    fd_law_block := _,
    F_law_block := F_law_block,
    b_law_block := b_law_block,
    m_law_block := PySem.W.mg_of X G a_law_block,
    a_law_left := f_law_left,
    fd_law_left := _,
    F_law_left := F_law_left,
    b_law_left := b_law_left,
    m_law_left := PySem.W.mg_of X G a_law_left,
    a_law_choice := f_law_choice,
    fd_law_choice := _,
    F_law_choice := F_law_choice,
    b_law_choice := b_law_choice,
    m_law_choice := PySem.W.mg_of X G a_law_choice,
    a_law := fa,
    fd_law := _,
    F_law := F_law,
    b_law := b_law,
    m_law := PySem.W.mg_of X G a_law,
    A_Device := C_Device,
    m_Device := PySem.W.mg_of X G mC_Device,
    cl_Device := ⟨pg_Device, hd_Device, po_Device, sa_Device⟩,
    M_Device := ⟨mk_Device, a_Device___init, i_Device___init, kc_Device⟩,
    na_Device_layout := na_Device_layout,
    na_Device__sure := na_Device__sure,
    na_Device__shown := na_Device__shown,
    na_Device__unsure := na_Device__unsure,
    na_Device__commands_left := na_Device__commands_left,
    na_Device__power_is_off := na_Device__power_is_off,
    A_Layout := C_Layout,
    m_Layout := PySem.W.mg_of X G mC_Layout,
    cl_Layout := ⟨pg_Layout, hd_Layout, po_Layout, sa_Layout⟩,
    M_Layout := ⟨mk_Layout, a_Layout___init, i_Layout___init, kc_Layout⟩,
    na_Layout_segments := na_Layout_segments,
    na_Layout_segment_blocks := na_Layout_segment_blocks,
    na_Layout_block_size := na_Layout_block_size,
    na_Layout_payload := na_Layout_payload,
    na_Layout_limit := na_Layout_limit,
    na_Layout_last_id := na_Layout_last_id,
    na_Layout_fan := na_Layout_fan,
    na_Layout_region_blocks := na_Layout_region_blocks,
    na_Layout_device_blocks := na_Layout_device_blocks,
    a_BLOCK_SIZES := k_BLOCK_SIZES,
    c_BLOCK_SIZES := PySem.W.mg_of X G q_BLOCK_SIZES,
    r_BLOCK_SIZES := rfl,
    v_BLOCK_SIZES := fun _ => .inr ⟨_, _, _, y_BLOCK_SIZES, rfl, rfl, Nat.le_of_ble_eq_true rfl, (.cons ⟨_, rfl⟩ (.cons ⟨_, rfl⟩ (.cons ⟨_, rfl⟩ .nil)))⟩,
    t_SUMMARY_HEAD := t_SUMMARY_HEAD,
    c_SUMMARY_HEAD := PySem.W.mg_of X G q_SUMMARY_HEAD,
    r_SUMMARY_HEAD := ⟨_, rfl⟩,
    n_enumerate := PySem.W.mg_none_of X G n_enumerate,
    n_int := PySem.W.mg_none_of X G n_int,
    n_len := PySem.W.mg_none_of X G n_len,
    n_list := PySem.W.mg_none_of X G n_list,
    n_range := PySem.W.mg_none_of X G n_range,
    n_set := PySem.W.mg_none_of X G n_set,
    n_tuple := PySem.W.mg_none_of X G n_tuple }
  exact ⟨_, fun s v => .of_eq rfl, fun base _ _ => ok_law T⟩
theorem walk {l : PySem.W.OpenLaw} {q : Program} {loose : List Str} {XP : (Str → Option Value) → Heap → Prop} {YP : World → Heap → Prop} {d : DefRec} {K : Params → PySem.W.Frag} (hn : l.most = some 63) (hdf : d.params.defaults = [])
    (hY : ∀ (w : World) (h : Heap), YP w h → (K w.params).In h)
    (F : ∀ (w : World) (mg : Str → Option Value) (fa : Addr) (h : Heap), (K w.params).In h → h.Ns mainGlobals mg → mg d.name = some (.ref fa) →
      ∃ fd : FuncData, (∀ (s : Shared) (u : Value), BindsTo s fd ⟨[u], []⟩ [("script", u)]) ∧ ∀ base : Heap, (K w.params).In base → base.Ns mainGlobals mg → FnOk l.prog w (K w.params) mg base CX0 5 fa fd ["script"] (spLawK (K w.params))) :
    PySem.W.WalkO q loose XP YP l.row.toRowW d [] (fun f vs => PySem.call f vs) :=
  L2.walk_of (n := 63) (k := 5) (x := "script") (CX := fun _ => CX0) (sp := fun w => spLawK (K w.params)) hn (by decide) hdf ⟨rfl, by decide, by decide⟩ hY F (fun _ _ a ns hl hO hS => ⟨a, ns, rfl, scr_of hO hS, hl, fun _ => rfl⟩) fun _ _ _ _ _ z => z
end Sg

open PySem PySem.W PyProof.Rows in
set_option maxRecDepth 100000 in
set_option maxHeartbeats 0 in
theorem PySem.Challenge.cw_segmentfs_k04_what_a_power_failure_leave_holds : PySem.Challenge.rw_segmentfs_k04_what_a_power_failure_leave.Holds := by
  w_on; o_law; k_head; (case hw => w_witness2)
  k_fill
  refine Sg.walk (l := PySem.Challenge.rw_segmentfs_k04_what_a_power_failure_leave) rfl rfl (fun w h Y => PySem.W.kIn_of Y) ?F
  case F =>
    intro w mg fa h KX G hmg
    refine' Sg.all_mk KX G hmg ?mC_Device ?pg_Device ?hd_Device ?po_Device ?sa_Device ?mk_Device ?kc_Device ?na_Device_layout ?na_Device__sure ?na_Device__shown ?na_Device__unsure ?na_Device__commands_left ?na_Device__power_is_off ?mC_Layout ?pg_Layout ?hd_Layout ?po_Layout ?sa_Layout ?mk_Layout ?kc_Layout ?na_Layout_segments ?na_Layout_segment_blocks ?na_Layout_block_size ?na_Layout_payload ?na_Layout_limit ?na_Layout_last_id ?na_Layout_fan ?na_Layout_region_blocks ?na_Layout_device_blocks ?a_Device___init ?i_Device___init ?l_Device___init ?dl_Device___init ?c_Device___init ?k_Device___init ?a_Device_read ?i_Device_read ?l_Device_read ?c_Device_read ?k_Device_read ?a_Device_write ?i_Device_write ?l_Device_write ?c_Device_write ?k_Device_write ?a_Device_barrier ?i_Device_barrier ?l_Device_barrier ?c_Device_barrier ?k_Device_barrier ?a_Device_cut_after ?i_Device_cut_after ?l_Device_cut_after ?c_Device_cut_after ?k_Device_cut_after ?a_Device_was_cut ?i_Device_was_cut ?l_Device_was_cut ?c_Device_was_cut ?k_Device_was_cut ?a_Device_pending ?i_Device_pending ?l_Device_pending ?c_Device_pending ?k_Device_pending ?a_Device_sure_blocks ?i_Device_sure_blocks ?l_Device_sure_blocks ?c_Device_sure_blocks ?k_Device_sure_blocks ?a_Device_left ?i_Device_left ?l_Device_left ?kd_Device_left_torn ?kt_Device_left_torn ?c_Device_left ?k_Device_left ?a_Device__takes_place ?i_Device__takes_place ?l_Device__takes_place ?c_Device__takes_place ?k_Device__takes_place ?a_put_block ?l_put_block ?c_put_block ?k_put_block ?a_Layout___init ?i_Layout___init ?l_Layout___init ?c_Layout___init ?k_Layout___init ?a_parts_of ?l_parts_of ?c_parts_of ?k_parts_of ?a_law_row ?l_law_row ?c_law_row ?k_law_row ?a_law_digits ?l_law_digits ?c_law_digits ?k_law_digits ?a_law_layout ?l_law_layout ?c_law_layout ?k_law_layout ?a_law_block ?l_law_block ?c_law_block ?k_law_block ?a_law_left ?l_law_left ?c_law_left ?k_law_left ?a_law_choice ?l_law_choice ?c_law_choice ?k_law_choice ?a_law ?l_law ?c_law ?k_law ?q_BLOCK_SIZES ?y_BLOCK_SIZES ?q_SUMMARY_HEAD ?n_enumerate ?n_int ?n_len ?n_list ?n_range ?n_set ?n_tuple
    (case mC_Device => k_is)
    (case pg_Device => k_is)
    (case hd_Device => k_is)
    (case po_Device => k_is)
    (case sa_Device => k_is)
    (case mk_Device => k_is)
    (case kc_Device => k_is)
    (case na_Device_layout => k_is)
    (case na_Device__sure => k_is)
    (case na_Device__shown => k_is)
    (case na_Device__unsure => k_is)
    (case na_Device__commands_left => k_is)
    (case na_Device__power_is_off => k_is)
    (case mC_Layout => k_is)
    (case pg_Layout => k_is)
    (case hd_Layout => k_is)
    (case po_Layout => k_is)
    (case sa_Layout => k_is)
    (case mk_Layout => k_is)
    (case kc_Layout => k_is)
    (case na_Layout_segments => k_is)
    (case na_Layout_segment_blocks => k_is)
    (case na_Layout_block_size => k_is)
    (case na_Layout_payload => k_is)
    (case na_Layout_limit => k_is)
    (case na_Layout_last_id => k_is)
    (case na_Layout_fan => k_is)
    (case na_Layout_region_blocks => k_is)
    (case na_Layout_device_blocks => k_is)
    (case a_Device___init => k_is)
    (case i_Device___init => k_is)
    (case l_Device___init => k_is)
    (case dl_Device___init => k_is)
    (case c_Device___init => k_is)
    (case k_Device___init => k_is)
    (case a_Device_read => k_is)
    (case i_Device_read => k_is)
    (case l_Device_read => k_is)
    (case c_Device_read => k_is)
    (case k_Device_read => k_is)
    (case a_Device_write => k_is)
    (case i_Device_write => k_is)
    (case l_Device_write => k_is)
    (case c_Device_write => k_is)
    (case k_Device_write => k_is)
    (case a_Device_barrier => k_is)
    (case i_Device_barrier => k_is)
    (case l_Device_barrier => k_is)
    (case c_Device_barrier => k_is)
    (case k_Device_barrier => k_is)
    (case a_Device_cut_after => k_is)
    (case i_Device_cut_after => k_is)
    (case l_Device_cut_after => k_is)
    (case c_Device_cut_after => k_is)
    (case k_Device_cut_after => k_is)
    (case a_Device_was_cut => k_is)
    (case i_Device_was_cut => k_is)
    (case l_Device_was_cut => k_is)
    (case c_Device_was_cut => k_is)
    (case k_Device_was_cut => k_is)
    (case a_Device_pending => k_is)
    (case i_Device_pending => k_is)
    (case l_Device_pending => k_is)
    (case c_Device_pending => k_is)
    (case k_Device_pending => k_is)
    (case a_Device_sure_blocks => k_is)
    (case i_Device_sure_blocks => k_is)
    (case l_Device_sure_blocks => k_is)
    (case c_Device_sure_blocks => k_is)
    (case k_Device_sure_blocks => k_is)
    (case a_Device_left => k_is)
    (case i_Device_left => k_is)
    (case l_Device_left => k_is)
    (case kd_Device_left_torn => k_is)
    (case kt_Device_left_torn => k_is)
    (case c_Device_left => k_is)
    (case k_Device_left => k_is)
    (case a_Device__takes_place => k_is)
    (case i_Device__takes_place => k_is)
    (case l_Device__takes_place => k_is)
    (case c_Device__takes_place => k_is)
    (case k_Device__takes_place => k_is)
    (case a_put_block => k_is)
    (case l_put_block => k_is)
    (case c_put_block => k_is)
    (case k_put_block => k_is)
    (case a_Layout___init => k_is)
    (case i_Layout___init => k_is)
    (case l_Layout___init => k_is)
    (case c_Layout___init => k_is)
    (case k_Layout___init => k_is)
    (case a_parts_of => k_is)
    (case l_parts_of => k_is)
    (case c_parts_of => k_is)
    (case k_parts_of => k_is)
    (case a_law_row => k_is)
    (case l_law_row => k_is)
    (case c_law_row => k_is)
    (case k_law_row => k_is)
    (case a_law_digits => k_is)
    (case l_law_digits => k_is)
    (case c_law_digits => k_is)
    (case k_law_digits => k_is)
    (case a_law_layout => k_is)
    (case l_law_layout => k_is)
    (case c_law_layout => k_is)
    (case k_law_layout => k_is)
    (case a_law_block => k_is)
    (case l_law_block => k_is)
    (case c_law_block => k_is)
    (case k_law_block => k_is)
    (case a_law_left => k_is)
    (case l_law_left => k_is)
    (case c_law_left => k_is)
    (case k_law_left => k_is)
    (case a_law_choice => k_is)
    (case l_law_choice => k_is)
    (case c_law_choice => k_is)
    (case k_law_choice => k_is)
    (case a_law => k_is)
    (case l_law => k_is)
    (case c_law => k_is)
    (case k_law => k_is)
    (case q_BLOCK_SIZES => k_is)
    (case y_BLOCK_SIZES => k_is)
    (case q_SUMMARY_HEAD => k_is)
    (case n_enumerate => k_is)
    (case n_int => k_is)
    (case n_len => k_is)
    (case n_list => k_is)
    (case n_range => k_is)
    (case n_set => k_is)
    (case n_tuple => k_is)

