import PyProof.Rows.All
import Wide.All
import OpenK.AllK
import Wide.FinOn
import HandS.ForMost
import HandS.IsInst
import HandS.Style
import HandS.Wide
import HandS.Codes
import HandS.NoneIn
import HandS.Defaults
import HandS.TupMul
import HandS.Zip
import HandS.SetFor
import HandS.SetKeys
import HandS.Walk
import HandS.Codes
import HandS.ForExc
import HandS.CallSlots
import HandS.ExcIs
import KE.GoesEnum
import PySem.Challenge.RW_segmentfs_k64_layouts_and_addresses
set_option Elab.async false
set_option maxRecDepth 100000
set_option maxHeartbeats 4000000
/-! what every text of mine begins with: heaps that grow, and a rule for each head that a reading has -/
namespace Sg
open PySem L2
theorem sz : sizeLine = 16777216 := by decide
theorem Same.of_new {H H' : Hp} {p : Addr} {o : HO} (e : upd H p o = H') (h : H p = none) : Same H H' := fun b u q => by
  rw [← e, upd_ne (ne_of_none q h)]; exact q
theorem at_new {H H' : Hp} {p : Addr} {o : HO} (e : upd H p o = H') : H' p = some o := by rw [← e]; exact upd_same
theorem Same.tup {K : PySem.W.Frag} {H H' : Hp} {a : Addr} {xs : List V} (e : Same H H') (h : SqT K H a xs) : SqT K H' a xs := by
  rcases h with (h | ⟨o, h⟩) | h
  · exact .inl (.inl (e _ _ h))
  · exact .inl (.inr ⟨o, e _ _ h⟩)
  · exact .inr h
/-- an object that is younger than H0 is changed -/
theorem Same.old {H0 H H' : Hp} {p : Addr} {o : HO} (s : Same H0 H) (h : H0 p = none) (e : upd H p o = H') : Same H0 H' := fun b u q => by
  rw [← e, upd_ne (ne_of_none q h)]; exact s _ _ q
theorem at_keep {H H' : Hp} {l a : Addr} {o o' ol : HO} (e : upd H l o' = H') (h : H a = some o) (h' : H l = some ol) (d : o ≠ ol) : H' a = some o := by
  rw [← e, upd_ne (ne_of h h' d)]; exact h
theorem lk_eq {f : Str} {v : V} {fs : List (Str × V)} : (putF f v fs).lookup f = some v := by rw [lookup_putF, if_pos rfl]
theorem lk_ne {f g : Str} {v x : V} {fs : List (Str × V)} (h : ¬ g = f) (q : fs.lookup g = some v) : (putF f x fs).lookup g = some v := by rw [lookup_putF, if_neg h]; exact q
theorem lk_no {f g : Str} {x : V} {fs : List (Str × V)} (h : ¬ g = f) (q : fs.lookup g = none) : (putF f x fs).lookup g = none := by rw [lookup_putF, if_neg h]; exact q
theorem putF_len {f : Str} {v : V} : ∀ {fs : List (Str × V)} {n : Nat}, fs.length ≤ n → (putF f v fs).length ≤ n + 1
  | [], n, _ => by simp [putF]
  | (g, x) :: r, n, h => by
    unfold putF
    split
    · simp at h ⊢; omega
    · cases n with
      | zero => simp at h
      | succ n =>
        simp at h ⊢
        exact putF_len h
theorem to_ite {A B : Prop} {b : Bool} (h1 : b = true → A) (h2 : b = false → B) : if b = true then A else B := by
  cases b with
  | true => exact iteT (h1 rfl)
  | false => exact iteF (h2 rfl)
theorem iteT' {A B : Prop} (h : A) : if (true : Bool) = true then A else B := iteT h
theorem iteF' {A B : Prop} (h : B) : if (false : Bool) = true then A else B := iteF h
theorem r_iteb {A B : Prop} {b : Bool} (hb : b = true) (h : A) : if b = true then A else B := to_ite (fun _ => h) fun z => by rw [hb] at z; cases z
theorem r_iteB {A B : Prop} {b : Bool} (hb : b = false) (h : B) : if b = true then A else B := to_ite (fun z => by rw [hb] at z; cases z) fun _ => h
theorem r_ite {A B c : Prop} [Decidable c] (h1 : c → A) (h2 : ¬ c → B) : if decide c = true then A else B :=
  to_ite (fun h => h1 (of_decide_eq_true h)) (fun h => h2 (of_decide_eq_false h))
theorem r_iteN {A B c : Prop} [Decidable c] (h1 : ¬ c → A) (h2 : c → B) : if (!decide c) = true then A else B :=
  to_ite (fun h => h1 (by simpa using h)) (fun h => h2 (by simpa using h))
theorem r_iteD {A B c : Prop} [Decidable c] (hc : c) (h : A) : if decide c = true then A else B := r_ite (fun _ => h) fun z => absurd hc z
theorem r_iteDn {A B c : Prop} [Decidable c] (hc : ¬ c) (h : B) : if decide c = true then A else B := r_ite (fun z => absurd z hc) fun _ => h
theorem r_iteND {A B c : Prop} [Decidable c] (hc : ¬ c) (h : A) : if (!decide c) = true then A else B := r_iteN (fun _ => h) fun z => absurd z hc
theorem r_iteNDn {A B c : Prop} [Decidable c] (hc : c) (h : B) : if (!decide c) = true then A else B := r_iteN (fun z => absurd hc z) fun _ => h
/-- the continuations of a reading, by name -/
def kTest (QB : Bool → Hp → Prop) : V → Hp → Prop := fun x H => ∃ k, x = .bl k ∧ QB k H
def kFld (K : PySem.W.Frag) (f : Str) (Q : V → Hp → Prop) : V → Hp → Prop := fun x H => ∃ a C dx fs v, x = .ref a ∧ H a = some (.ins C dx fs) ∧ Cls K C ∧ NoAttr K C f ∧ fs.lookup f = some v ∧ Q v H
def kSfld (K : PySem.W.Frag) (D : Ends) (σ : L2.St) (f : Str) (y : V) : V → Hp → Prop := fun x H => ∃ a C dx fs, x = .ref a ∧ H a = some (.ins C dx fs) ∧ Cls K C ∧ NoAttr K C f ∧ fs.length < 1000 ∧
  D.nx σ (upd H a (.ins C dx (putF f y fs)))
def kMeth (C : Addr) (m : Str) (sp : Sp) (dvs : List V) (E : XK) (σ : L2.St) (t : TA) (Q : V → Hp → Prop) : V → Hp → Prop := fun x H => ∃ a dx fs, x = .ref a ∧ H a = some (.ins C dx fs) ∧ fs.lookup m = none ∧ t σ H fun vs H2 => sp (x :: (vs ++ dvs)) H2 Q E
def kTup (Q : V → Hp → Prop) : List V → Hp → Prop := fun xs H => xs.length ≤ sizeLine ∧ ∀ p, H p = none → Q (.ref p) (upd H p (.tup xs))
def kLst (Q : V → Hp → Prop) : List V → Hp → Prop := fun xs H => xs.length ≤ sizeLine ∧ ∀ p, H p = none → Q (.ref p) (upd H p (.lst xs))
def rLen (K : PySem.W.Frag) : List V → Hp → (V → Hp → Prop) → Prop := fun xs H Q => ∃ p ys, xs = [.ref p] ∧ (SqL K H p ys ∨ SqT K H p ys) ∧ Q (.int ys.length) H
theorem c_len {X : Cx} : CallR X (.builtin "len") (rLen X.K) := call_len_seq
def rInt : List V → Hp → (V → Hp → Prop) → Prop := fun xs H Q => (∃ i, xs = [.int i] ∧ Q (.int i) H) ∨ ∃ k, xs = [.bl k] ∧ Q (.int (if k then 1 else 0)) H
theorem c_int {X : Cx} : CallR X (.type "int") rInt := call_int1
def rListOf (K : PySem.W.Frag) : List V → Hp → (V → Hp → Prop) → Prop := fun xs H Q => ∃ p ys, xs = [.ref p] ∧ (SqL K H p ys ∨ SqT K H p ys) ∧ ∀ l, H l = none → Q (.ref l) (upd H l (.lst ys))
theorem c_list {X : Cx} : CallR X (.type "list") (rListOf X.K) := call_list_of
def rTupOf (K : PySem.W.Frag) : List V → Hp → (V → Hp → Prop) → Prop := fun xs H Q => ∃ p ys, xs = [.ref p] ∧ ((SqL K H p ys ∧ ∀ l, H l = none → Q (.ref l) (upd H l (.tup ys))) ∨ (SqT K H p ys ∧ Q (.ref p) H))
theorem c_tuple {X : Cx} : CallR X (.type "tuple") (rTupOf X.K) := call_tuple_of
/-! the same rules within a comprehension: the written part by its own name -/
section
variable {X : Cx}
theorem c_listK (K : PySem.W.Frag) (h : X.K = K) : CallR X (.type "list") (rListOf K) := by subst h; exact c_list
theorem c_tupleK (K : PySem.W.Frag) (h : X.K = K) : CallR X (.type "tuple") (rTupOf K) := by subst h; exact c_tuple
theorem c_lenK (K : PySem.W.Frag) (h : X.K = K) : CallR X (.builtin "len") (rLen K) := by subst h; exact c_len
theorem ix_listK (K : PySem.W.Frag) (h : X.K = K) : IxR X (rIxL K) := by subst h; exact ix_list
theorem ix_tupK (K : PySem.W.Frag) (h : X.K = K) : IxR X (rIxT K) := by subst h; exact ix_tup
theorem op_in_seqK (K : PySem.W.Frag) (h : X.K = K) : OpR X (compareOp .In) (rIn K false) := by subst h; exact op_in_seq
theorem op_notIn_seqK (K : PySem.W.Frag) (h : X.K = K) : OpR X (compareOp .NotIn) (rIn K true) := by subst h; exact op_notIn_seq
theorem pe_fldK (K : PySem.W.Frag) (h : X.K = K) {e : Expr} {f : Str} {pos : Pos} {ta : TE} (he : PE X e ta) (hb : attributeBase e f X.env (eval e X.env) = eval e X.env) : PE X (.Attribute e f pos) (tFld K ta f) := by subst h; exact pe_fld he hb
end
section
variable {σ : L2.St} {H : Hp} {D : Ends} {t u : TS} {te ta tb tc : TE} {g : TG} {c ct cu : TT} {Q : VK} {QB : Bool → Hp → Prop} {QS : L2.St → Hp → Prop} {QA : List V → Hp → Prop} {v x y : V} {K : PySem.W.Frag} {a p l : Addr} {xs ys : List V} {i j : Int} {b : Bool}
theorem r_seq (h : t { D with nx := u D } σ H) : tSeq t u D σ H := h
theorem r_cut (Mid : L2.St → Hp → Prop) (h1 : t { D with nx := Mid } σ H) (h2 : ∀ σ' H', Mid σ' H' → u D σ' H') : C8.tCut t u D σ H := ⟨Mid, h1, h2⟩
/-- a test with nothing kept behind it -/
theorem r_cutS (h1 : t { D with nx := fun σ' H' => σ = σ' ∧ H = H' } σ H) (h2 : u D σ H) : C8.tCut t u D σ H := ⟨_, h1, fun _ _ ⟨e1, e2⟩ => by subst e1; subst e2; exact h2⟩
/-- .. but a heap that grew -/
theorem r_cutH (h1 : t { D with nx := fun σ' H' => σ = σ' ∧ L2.Same H H' } σ H) (h2 : ∀ H', L2.Same H H' → u D σ H') : C8.tCut t u D σ H := ⟨_, h1, fun _ _ ⟨e1, e2⟩ => by subst e1; exact h2 _ e2⟩
theorem r_asg (h : te σ H fun x H1 => g x σ H1 D.nx) : tAsg te g D σ H := h
theorem r_drop (h : te σ H fun _ H1 => D.nx σ H1) : tDrop te D σ H := h
theorem r_ret (h : te σ H D.rt) : tRet te D σ H := h
theorem r_ifs (h : c σ H fun b H1 => if b = true then t D σ H1 else u D σ H1) : tIfS c t u D σ H := h
theorem r_next (h : D.nx σ H) : tNext D σ H := h
theorem r_gname {n : Nat} (h : QS (σ.set n (some v)) H) : gName n v σ H QS := h
theorem r_gtup {n : Nat} {t : TGs} (hx : SqT K H a xs) (hl : xs.length = n) (h : t xs σ H QS) : gTup K n t (.ref a) σ H QS := ⟨a, xs, rfl, hx, hl, h⟩
theorem r_gunl {n : Nat} {t : TGs} (hx : SqL K H a xs) (hl : xs.length = n) (h : t xs σ H QS) : gUnl K n t (.ref a) σ H QS := ⟨a, xs, rfl, hx, hl, h⟩
theorem r_chain {r r' : R2} (h : ta σ H fun x H1 => tb σ H1 fun y H2 => r x y H2 fun z H3 => ∃ k, z = .bl k ∧ (if k = true then tc σ H3 fun w' H4 => r' y w' H4 Q else Q (.bl false) H3)) : tChain r r' ta tb tc σ H Q := h
theorem r_sfldL {C dx : Addr} {fs : List (Str × V)} {f : Str} (h : H a = some (.ins C dx fs)) (hc : Cls K C) (hn : NoAttr K C f) (hl : fs.length < 1000) (q : D.nx σ (upd H a (.ins C dx (putF f y fs)))) : kSfld K D σ f y (.ref a) H := ⟨a, C, dx, fs, rfl, h, hc, hn, hl, q⟩
theorem r_gmap {α : Type} {f : α → V} {y : α} {r : List α} {t : TG} {u : TGs} (h : t (f y) σ H fun σ' H' => u (List.map f r) σ' H' QS) : gCons t u (List.map f (y :: r)) σ H QS := ⟨_, _, rfl, h⟩
theorem r_gmapn {α : Type} {f : α → V} (h : QS σ H) : gNil (List.map f []) σ H QS := ⟨rfl, h⟩
theorem r_gnil (h : QS σ H) : gNil [] σ H QS := ⟨rfl, h⟩
theorem r_gcons {t : TG} {u : TGs} {r : List V} (h : t v σ H fun σ' H' => u r σ' H' QS) : gCons t u (v :: r) σ H QS := ⟨v, r, rfl, h⟩
theorem r_gsub {t : TSet} (h : ta σ H fun o H1 => tb σ H1 fun i H2 => t o i v H2 fun H3 => QS σ H3) : gSub ta tb t v σ H QS := h
theorem r_setl {k : Int} {n : Nat} {R : Hp → Prop} (h1 : H p = some (.lst xs)) (h2 : ixN xs.length k = some n) (q : R (upd H p (.lst (xs.set n v)))) : rSetL (.ref p) (.int k) v H R := ⟨p, xs, k, n, rfl, rfl, h1, h2, q⟩
theorem r_var {n : Nat} (h : σ[n]? = some (some v)) (q : Q v H) : tVar n σ H Q := ⟨v, h, q⟩
theorem r_c (q : Q v H) : tC v σ H Q := q
theorem r_op {r : R2} (h : ta σ H fun x H1 => tb σ H1 fun y H2 => r x y H2 Q) : tOp r ta tb σ H Q := h
theorem r_un {r : V → Hp → VK → Prop} (h : ta σ H fun x H1 => r x H1 Q) : tUn r ta σ H Q := h
theorem r_rI {C : Int → Int → Prop} {g : Int → Int → V} (hc : C i j) (q : Q (g i j) H) : rI C g (.int i) (.int j) H Q := ⟨i, j, rfl, rfl, hc, q⟩
theorem r_mod (hc : 0 < j) (q : ∀ z : Int, z = i % j → 0 ≤ z → z < j → Q (.int z) H) : rI (fun _ j => 0 < j) (fun i j => .int (i % j)) (.int i) (.int j) H Q :=
  ⟨i, j, rfl, rfl, hc, q _ rfl (Int.emod_nonneg i (by omega)) (Int.emod_lt_of_pos i hc)⟩
theorem r_rI0 {g : Int → Int → V} (q : Q (g i j) H) : rI0 g (.int i) (.int j) H Q := ⟨i, j, rfl, rfl, q⟩
theorem r_rU {g : Int → V} (q : Q (g i) H) : rU g (.int i) H Q := ⟨i, rfl, q⟩
theorem r_eq (hs : scal x y = true) (q : Q (.bl (decide (x = y))) H) : rEq x y H Q := ⟨hs, q⟩
theorem r_ne (hs : scal x y = true) (q : Q (.bl (!decide (x = y))) H) : rNe x y H Q := ⟨hs, q⟩
theorem r_eqi (q : Q (.bl (decide (i = j))) H) : rEq (.int i) (.int j) H Q := ⟨rfl, by
  rw [show decide (V.int i = V.int j) = decide (i = j) from by by_cases e : i = j <;> simp [e]]; exact q⟩
theorem r_nei (q : Q (.bl (!decide (i = j))) H) : rNe (.int i) (.int j) H Q := ⟨rfl, by
  rw [show decide (V.int i = V.int j) = decide (i = j) from by by_cases e : i = j <;> simp [e]]; exact q⟩
theorem r_nonR {A B : Prop} (h : A) : if (!decide (V.ref a = V.non)) = true then A else B := iteT' h
theorem r_nonN {A B : Prop} (h : B) : if (!decide (V.non = V.non)) = true then A else B := iteF' h
theorem r_isR {A B : Prop} (h : B) : if decide (V.ref a = V.non) = true then A else B := iteF' h
theorem r_isNN {A B : Prop} (h : A) : if decide (V.non = V.non) = true then A else B := iteT' h
theorem r_nonI {A B : Prop} (h : A) : if (!decide (V.int i = V.non)) = true then A else B := iteT' h
theorem r_isI {A B : Prop} (h : B) : if decide (V.int i = V.non) = true then A else B := iteF' h
theorem r_nil (q : QA [] H) : tNil σ H QA := q
theorem r_cons {tr : TA} (h : ta σ H fun x H1 => tr σ H1 fun xs H2 => QA (x :: xs) H2) : tCons ta tr σ H QA := h
theorem r_cb {r : List V → Hp → VK → Prop} {t : TA} (h : t σ H fun vs H1 => r vs H1 Q) : tCB r t σ H Q := h
theorem r_call {sp : Sp} {dvs : List V} {E : XK} {t : TA} (h : t σ H fun vs H1 => sp (vs ++ dvs) H1 Q E) : tCall sp dvs E t σ H Q := h
theorem r_make {C : Addr} {sp : Sp} {dvs : List V} {E : XK} {t : TA} (h : t σ H fun vs H1 => ∀ x dx, H1 x = none → H1 dx = none → dx ≠ x →
  sp (.ref x :: (vs ++ dvs)) (upd (upd H1 dx (.own x)) x (.ins C dx [])) (fun v H2 => v = .non ∧ Q (.ref x) H2) E) : tMake C sp dvs E t σ H Q := h
theorem r_meth {C : Addr} {m : Str} {sp : Sp} {dvs : List V} {E : XK} {t : TA} (h : ta σ H (kMeth C m sp dvs E σ t Q)) : tMeth C m sp dvs E ta t σ H Q := h
theorem r_methL {C : Addr} {dx : Addr} {fs : List (Str × V)} {m : Str} {sp : Sp} {dvs : List V} {E : XK} {t : TA} (h : H a = some (.ins C dx fs)) (hl : fs.lookup m = none) (q : t σ H fun vs H2 => sp (.ref a :: (vs ++ dvs)) H2 Q E) : kMeth C m sp dvs E σ t Q (.ref a) H := ⟨a, dx, fs, rfl, h, hl, q⟩
theorem r_fld {f : Str} (h : ta σ H (kFld K f Q)) : tFld K ta f σ H Q := h
theorem r_fldL {C dx : Addr} {fs : List (Str × V)} {f : Str} (h : H a = some (.ins C dx fs)) (hc : Cls K C) (hn : NoAttr K C f) (hl : fs.lookup f = some v) (q : Q v H) : kFld K f Q (.ref a) H := ⟨a, C, dx, fs, v, rfl, h, hc, hn, hl, q⟩
theorem r_sfld {f : Str} (h : tb σ H fun y H1 => ta σ H1 (kSfld K D σ f y)) : sFld K ta tb f D σ H := h
theorem r_test (h : te σ H (kTest QB)) : tTest te σ H QB := h
theorem r_tB (h : te σ H (kTest QB)) : tB te σ H QB := h
theorem r_exb (q : QB b H) : kTest QB (.bl b) H := ⟨b, rfl, q⟩
theorem r_and (h : ct σ H fun c H1 => if c = true then cu σ H1 QB else QB false H1) : tAnd ct cu σ H QB := h
theorem r_or (h : ct σ H fun c H1 => if c = true then QB true H1 else cu σ H1 QB) : tOr ct cu σ H QB := h
theorem r_not (h : ct σ H fun c H1 => QB (!c) H1) : tNot ct σ H QB := h
theorem r_andV (h : ta σ H fun x H1 => ∃ c, x = .bl c ∧ if c = true then tb σ H1 Q else Q (.bl false) H1) : tAndV ta tb σ H Q := h
theorem r_orV (h : ta σ H fun x H1 => ∃ c, x = .bl c ∧ if c = true then Q (.bl true) H1 else tb σ H1 Q) : tOrV ta tb σ H Q := h
theorem r_exbP {A : Bool → Prop} (q : A b) : ∃ c, V.bl b = .bl c ∧ A c := ⟨b, rfl, q⟩
theorem r_notV (h : ta σ H fun x H1 => ∃ c, x = .bl c ∧ Q (.bl (!c)) H1) : tNotV ta σ H Q := h
theorem r_tif (h : c σ H fun b H1 => if b = true then ta σ H1 Q else tb σ H1 Q) : tIf c ta tb σ H Q := h
theorem r_isN (h : ta σ H fun x H1 => Q (.bl (decide (x = .non))) H1) : tIsN ta σ H Q := h
theorem r_notN (h : ta σ H fun x H1 => Q (.bl (!decide (x = .non))) H1) : tNotN ta σ H Q := h
theorem r_tup {t : TA} (h : t σ H (kTup Q)) : tTup t σ H Q := h
theorem r_lst {t : TA} (h : t σ H (kLst Q)) : tLst t σ H Q := h
theorem r_ktup (hl : xs.length ≤ sizeLine) (h : ∀ p, H p = none → Q (.ref p) (upd H p (.tup xs))) : kTup Q xs H := ⟨hl, h⟩
theorem r_klst (hl : xs.length ≤ sizeLine) (h : ∀ p, H p = none → Q (.ref p) (upd H p (.lst xs))) : kLst Q xs H := ⟨hl, h⟩
theorem r_ixl (h : SqL K H p xs) (e : atI xs i = some v) (q : Q v H) : rIxL K (.ref p) (.int i) H Q := ⟨p, xs, i, v, rfl, rfl, h, e, q⟩
theorem r_ixt (h : SqT K H p xs) (e : atI xs i = some v) (q : Q v H) : rIxT K (.ref p) (.int i) H Q := ⟨p, xs, i, v, rfl, rfl, h, e, q⟩
theorem r_int (q : Q (.int i) H) : rInt [V.int i] H Q := .inl ⟨i, rfl, q⟩
theorem r_lenl (h : SqL K H p xs) (q : Q (.int xs.length) H) : rLen K [V.ref p] H Q := ⟨p, xs, rfl, .inl h, q⟩
theorem r_lent (h : SqT K H p xs) (q : Q (.int xs.length) H) : rLen K [V.ref p] H Q := ⟨p, xs, rfl, .inr h, q⟩
theorem r_listl (h : SqL K H p xs) (q : ∀ l, H l = none → Q (.ref l) (upd H l (.lst xs))) : rListOf K [V.ref p] H Q := ⟨p, xs, rfl, .inl h, q⟩
theorem r_listt (h : SqT K H p xs) (q : ∀ l, H l = none → Q (.ref l) (upd H l (.lst xs))) : rListOf K [V.ref p] H Q := ⟨p, xs, rfl, .inr h, q⟩
theorem r_tupl (h : SqL K H p xs) (q : ∀ l, H l = none → Q (.ref l) (upd H l (.tup xs))) : rTupOf K [V.ref p] H Q := ⟨p, xs, rfl, .inl ⟨h, q⟩⟩
theorem r_tupt (h : SqT K H p xs) (q : Q (.ref p) H) : rTupOf K [V.ref p] H Q := ⟨p, xs, rfl, .inr ⟨h, q⟩⟩
theorem r_in {neg : Bool} (h : SqL K H p xs ∨ SqT K H p xs) (fx : flatV x = true) (fs : xs.all flatV = true) (q : Q (.bl (if neg = true then !inV x xs else inV x xs)) H) : rIn K neg x (.ref p) H Q := ⟨p, xs, rfl, h, fx, fs, q⟩
theorem r_bm {T : String} {r : V → List V → Hp → VK → Prop} {t : TA} (h : ta σ H fun x H1 => tyV K T x H1 ∧ t σ H1 fun xs H2 => r x xs H2 Q) : tBM K T r ta t σ H Q := h
theorem r_bm0 {T : String} {r : V → List V → Hp → VK → Prop} (h : ta σ H fun x H1 => tyV K T x H1 ∧ r x [] H1 Q) : tBM0 K T r ta σ H Q := h
theorem r_tyl {A : Prop} (h : SqL K H l xs) (q : A) : tyV K "list" (.ref l) H ∧ A := ⟨.inl ⟨rfl, _, h⟩, q⟩
theorem r_app (h : H l = some (.lst xs)) (hl : xs.length < sizeLine) (q : Q .non (upd H l (.lst (xs ++ [v])))) : rAppend (.ref l) [v] H Q := ⟨l, xs, v, rfl, rfl, h, hl, q⟩
theorem r_isi {c : V} {t u : Value} (hc : ClsV c u) (ht : TyX K H x t) (hk : PySem.W.kitOne K t u = some b) (q : Q (.bl b) H) : rIsi K [x, c] H Q := ⟨x, c, t, u, b, rfl, hc, ht, hk, q⟩
theorem r_isb {a b : Bool} (q : Q (.bl (decide (a = b))) H) : rIsB (.bl a) (.bl b) H Q := ⟨a, b, rfl, rfl, q⟩
theorem r_notb {a b : Bool} (q : Q (.bl (!decide (a = b))) H) : rNotB (.bl a) (.bl b) H Q := ⟨a, b, rfl, rfl, q⟩
theorem r_eqd {d e : PyData} (h1 : Dp K H x d) (h2 : Dp K H y e) (s1 : SeqAt.shaped d = true) (s2 : SeqAt.shaped e = true) (q : Q (.bl (PyData.eqv d e)) H) : rEqD K x y H Q := ⟨d, e, h1, h2, s1, s2, q⟩
theorem r_ned {d e : PyData} (h1 : Dp K H x d) (h2 : Dp K H y e) (s1 : SeqAt.shaped d = true) (s2 : SeqAt.shaped e = true) (q : Q (.bl (!PyData.eqv d e)) H) : rNeD K x y H Q := ⟨d, e, h1, h2, s1, s2, q⟩
theorem r_rep {k : Int} (h : H l = some (.lst xs)) (h1 : -(2 ^ 63) ≤ k) (h2 : k < 2 ^ 63) (hz : xs.length * k.toNat ≤ sizeLine) (q : ∀ p, H p = none → Q (.ref p) (upd H p (.lst (List.replicate k.toNat xs).flatten))) : rRep (.ref l) (.int k) H Q := ⟨l, k, xs, rfl, rfl, h, h1, h2, hz, q⟩
theorem r_cat (h : H l = some (.lst xs)) (h' : H p = some (.lst ys)) (hz : xs.length + ys.length ≤ sizeLine) (q : ∀ r, H r = none → Q (.ref r) (upd H r (.lst (xs ++ ys)))) : rCat (.ref l) (.ref p) H Q := ⟨l, p, xs, ys, rfl, rfl, h, h', hz, q⟩
theorem r_aug {n : Nat} {ti : TIp} (h : σ[n]? = some (some x)) (q : te σ H fun y H1 => ti x y H1 fun z H2 => D.nx (σ.set n (some z)) H2) : tAug n te ti D σ H := ⟨x, h, q⟩
theorem r_ipI {f : Int → Int → Int} (q : Q (.int (f i j)) H) : ipI f (.int i) (.int j) H Q := ⟨i, j, rfl, rfl, q⟩
theorem r_sorted {ns : List Int} (h : SqL K H a (ns.map V.int)) (h64 : ns.length < 64) (q : ∀ (ns' : List Int) (p : Addr), ns'.Perm ns → ns'.Pairwise (· ≤ ·) → H p = none → Q (.ref p) (upd H p (.lst (ns'.map V.int)))) : rSorted K [.ref a] H Q := ⟨a, ns, rfl, h, h64, q⟩
end
/-! slices, texts -/
def kPart (Q : Option Int → Hp → Prop) : V → Hp → Prop := fun x H => ∃ i, x = .int i ∧ Q (some i) H
section
variable {σ : L2.St} {H : Hp} {te : TE} {tl th : TO} {Q : V → Hp → Prop} {QO : Option Int → Hp → Prop} {K : PySem.W.Frag} {a : Addr} {xs : List V} {lo hi : Option Int} {i : Int} {z : Str}
theorem r_sl {r : V → Option Int → Option Int → Hp → VK → Prop} (h : te σ H fun x H1 => tl σ H1 fun l H2 => th σ H2 fun u H3 => r x l u H3 Q) : tSl r te tl th σ H Q := h
theorem r_noP (q : QO none H) : tNoPart σ H QO := q
theorem r_part (h : te σ H (kPart QO)) : tPart te σ H QO := h
theorem r_kPart (q : QO (some i) H) : kPart QO (.int i) H := ⟨i, rfl, q⟩
theorem r_slS (hl : z.length ≤ 1000000) (q : Q (.str (cutS z lo hi)) H) : rSlS (.str z) lo hi H Q := ⟨z, rfl, by rw [sz]; omega, q⟩
theorem r_slL (h : SqL K H a xs) (q : ∀ p, H p = none → Q (.ref p) (upd H p (.lst (cutV xs lo hi)))) : rSlL K (.ref a) lo hi H Q := ⟨a, xs, rfl, h, q⟩
end
/-! loops and comprehensions -/
def kLc (g : TG) (tt : TT) (te : TE) (vs : List Nat) (σ : L2.St) (Q : V → Hp → Prop) : It → Hp → Prop := fun J H1 => ∀ D, H1 D = none → ∃ W : Nat → Nat → Hp → Prop, (∃ m, W 0 m (upd H1 D (.lst []))) ∧ ∀ i m H, W i m H →
  (J.stop i H ∧ Q (.ref D) H) ∨ (J.go i H ∧ ∃ Nx : Hp → Prop, (∀ H', Nx H' → ∃ m', m' < m ∧ W (i + 1) m' H') ∧ ∀ x H', J.yld i H x H' → g x (wipe σ vs) H' fun σ2 H2 => wipe σ2 vs = wipe σ vs ∧ tt σ2 H2 fun b H3 =>
    if b = true then te σ2 H3 fun y H4 => ∃ acc, H4 D = some (.lst acc) ∧ acc.length < sizeLine ∧ Nx (upd H4 D (.lst (acc ++ [y]))) else Nx H3)
def kR1 (R : It → Hp → Prop) : List V → Hp → Prop := fun vs H1 => ∃ j : Int, vs = [.int j] ∧ -(2 ^ 62) ≤ j ∧ j < 2 ^ 62 ∧ R (Itr 0 j.toNat) H1
def kR2 (R : It → Hp → Prop) : List V → Hp → Prop := fun vs H1 => ∃ i j : Int, vs = [.int i, .int j] ∧ (-(2 ^ 62) ≤ i ∧ i < 2 ^ 62 ∧ -(2 ^ 62) ≤ j ∧ j < 2 ^ 62) ∧ R (Itr i (j - i).toNat) H1
def kIl (K : PySem.W.Frag) (R : It → Hp → Prop) : V → Hp → Prop := fun x H1 => ∃ a, x = .ref a ∧ (∃ xs, SqL K H1 a xs) ∧ R (Itl K a) H1
def kIt (K : PySem.W.Frag) (R : It → Hp → Prop) : V → Hp → Prop := fun x H1 => ∃ a, x = .ref a ∧ (∃ xs, SqT K H1 a xs) ∧ R (Itt K a) H1
def kFor (g : TG) (tb : TS) (D : Ends) (σ : L2.St) : It → Hp → Prop := fun J H1 => ∃ W : Nat → Nat → L2.St → Hp → Prop, (∃ m, W 0 m σ H1) ∧ ∀ i m σ H, W i m σ H →
  (J.stop i H ∧ D.nx σ H) ∨ (J.go i H ∧ ∃ N : L2.St → Hp → Prop, (∀ σ' H', N σ' H' → ∃ m', m' < m ∧ W (i + 1) m' σ' H') ∧ ∀ x H', J.yld i H x H' → g x σ H' fun σ2 H2 => tb { D with nx := N, ct := N, bk := D.nx } σ2 H2)
section
variable {σ : L2.St} {H : Hp} {D : Ends} {te : TE} {ta : TA} {g : TG} {tt : TT} {tb : TS} {wi : TI} {vs : List Nat} {Q : V → Hp → Prop} {R : It → Hp → Prop} {K : PySem.W.Frag} {a : Addr} {xs : List V} {i j : Int}
theorem r_lc (h : wi σ H (kLc g tt te vs σ Q)) : tLc wi g tt te vs σ H Q := h
theorem r_for (h : wi σ H (kFor g tb D σ)) : tFor wi g tb D σ H := h
theorem r_irng1 (h : ta σ H (kR1 R)) : iRng1 ta σ H R := h
theorem r_irng2 (h : ta σ H (kR2 R)) : iRng2 ta σ H R := h
theorem r_ilist (h : te σ H (kIl K R)) : iList K te σ H R := h
theorem r_itup (h : te σ H (kIt K R)) : iTup K te σ H R := h
theorem r_kR1 (h1 : -(2 ^ 62) ≤ j) (h2 : j < 2 ^ 62) (h : R (Itr 0 j.toNat) H) : kR1 R [.int j] H := ⟨j, rfl, h1, h2, h⟩
theorem r_kR2 (h1 : -(2 ^ 62) ≤ i ∧ i < 2 ^ 62 ∧ -(2 ^ 62) ≤ j ∧ j < 2 ^ 62) (h : R (Itr i (j - i).toNat) H) : kR2 R [.int i, .int j] H := ⟨i, j, rfl, h1, h⟩
theorem r_kIl (h1 : SqL K H a xs) (h : R (Itl K a) H) : kIl K R (.ref a) H := ⟨a, rfl, ⟨_, h1⟩, h⟩
theorem r_kIt (h1 : SqT K H a xs) (h : R (Itt K a) H) : kIt K R (.ref a) H := ⟨a, rfl, ⟨_, h1⟩, h⟩
theorem r_forR {lo : Int} {n : Nat} (Pv : Nat → L2.St → Hp → Prop) (h0 : Pv 0 σ H)
    (hs : ∀ i σ H, i < n → Pv i σ H → g (.int (lo + i)) σ H fun σ2 H2 => tb { D with nx := Pv (i + 1), ct := Pv (i + 1), bk := D.nx } σ2 H2) (hd : ∀ σ H, Pv n σ H → D.nx σ H) : kFor g tb D σ (Itr lo n) H := for_range Pv h0 hs hd
theorem r_forL (Pv : Nat → L2.St → Hp → Prop) (h0 : Pv 0 σ H) (hl : ∀ i σ H, i ≤ xs.length → Pv i σ H → SqL K H a xs)
    (hs : ∀ i x σ H, xs[i]? = some x → Pv i σ H → g x σ H fun σ2 H2 => tb { D with nx := Pv (i + 1), ct := Pv (i + 1), bk := D.nx } σ2 H2) (hd : ∀ σ H, Pv xs.length σ H → D.nx σ H) : kFor g tb D σ (Itl K a) H := for_list Pv h0 hl hs hd
theorem r_forT (Pv : Nat → L2.St → Hp → Prop) (h0 : Pv 0 σ H) (hl : ∀ i σ H, i ≤ xs.length → Pv i σ H → SqT K H a xs)
    (hs : ∀ i x σ H, xs[i]? = some x → Pv i σ H → g x σ H fun σ2 H2 => tb { D with nx := Pv (i + 1), ct := Pv (i + 1), bk := D.nx } σ2 H2) (hd : ∀ σ H, Pv xs.length σ H → D.nx σ H) : kFor g tb D σ (Itt K a) H := for_tup Pv h0 hl hs hd
/-- [e for x in range], e an int -/
theorem r_lcI {lo : Int} {n slot : Nat} (P : Nat → Int → Prop) (hn : n ≤ 100000) (hv : vs = [slot])
    (hs : ∀ (i : Nat) (H' : Hp), i < n → L2.Same H H' → ∀ R : V → Hp → Prop, (∀ z : Int, P i z → R (.int z) H') → te ((wipe σ vs).set slot (some (.int (lo + i)))) H' R)
    (q : ∀ (H' : Hp) (l : Addr) (zs : List Int), L2.Same H H' → H l = none → H' l = some (.lst (zs.map V.int)) → zs.length = n → (∀ (i : Nat) (z : Int), zs[i]? = some z → P i z) → Q (.ref l) H') :
    kLc (gName slot) tYes te vs σ Q (Itr lo n) H := by
  intro L hL
  have hw : ∀ (τ : L2.St) (x : V), wipe (τ.set slot (some x)) [slot] = wipe τ [slot] := fun τ x => by simp [wipe, List.set_set]
  have hw2 : wipe (wipe σ vs) vs = wipe σ vs := by subst hv; simp [wipe, List.set_set]
  refine lc_range (fun i H' => ∃ zs : List Int, zs.length = i ∧ H' L = some (.lst (zs.map V.int)) ∧ L2.Same H H' ∧ ∀ (k : Nat) (z : Int), zs[k]? = some z → P k z) ⟨[], rfl, upd_same, fun b o e => by rw [upd_ne (ne_of_none e hL)]; exact e, fun k z e => by simp at e⟩ ?_ ?_
  · rintro i H' hi ⟨zs, el, eL, s, hp⟩
    refine ⟨?_, ?_⟩
    · subst hv
      rw [hw]
      exact hw2
    · show te ((wipe σ vs).set slot (some (.int (lo + i)))) H' _
      refine hs i H' hi s _ fun z hz => ⟨_, eL, ?_, zs ++ [z], ?_, ?_, ?_, ?_⟩
      · rw [List.length_map, el]
        exact Nat.lt_of_lt_of_le (Nat.lt_of_lt_of_le hi hn) (by decide)
      · rw [List.length_append, el]; rfl
      · rw [upd_same, List.map_append]; rfl
      · intro b o e
        rw [upd_ne (ne_of_none e hL)]
        exact s _ _ e
      · intro k y e
        rw [List.getElem?_append] at e
        split at e
        · exact hp k y e
        · rename_i hk
          have ek : k = zs.length := by
            have := (List.getElem?_eq_some_iff.mp e).1
            simp at this
            omega
          subst ek
          simp at e
          rw [el, ← e]
          exact hz
  · rintro H' ⟨zs, el, eL, s, hp⟩
    exact q H' L zs s hL eL el hp
end
end Sg
/-! data behind values, as the heap grows -/
namespace Sg
open PySem L2
mutual
theorem Dp.mono {K : PySem.W.Frag} {H H' : Hp} (s : L2.Same H H') : ∀ (d : PyData) (v : V), Dp K H v d → Dp K H' v d
  | .none, _, h => by cases h; exact .non
  | .bool b, _, h => by cases h; exact .bl b
  | .int i, _, h => by cases h; exact .int i
  | .str x, _, h => by cases h; exact .str x
  | .list ds, _, h => by
    cases h with
    | lst hs ha => exact .lst (L2.Same.seq s hs) (DpAll.mono s ds _ ha)
  | .tuple ds, _, h => by
    cases h with
    | tup hs ha => exact .tup (Sg.Same.tup s hs) (DpAll.mono s ds _ ha)
  | .dict _, _, h => by cases h
theorem DpAll.mono {K : PySem.W.Frag} {H H' : Hp} (s : L2.Same H H') : ∀ (ds : List PyData) (vs : List V), DpAll K H vs ds → DpAll K H' vs ds
  | [], _, h => by cases h; exact .nil
  | d :: ds, _, h => by
    cases h with
    | cons h1 h2 => exact .cons (Dp.mono s d _ h1) (DpAll.mono s ds _ h2)
end
theorem DpAll.ints {K : PySem.W.Frag} {H : Hp} : ∀ ns : List Int, DpAll K H (ns.map V.int) (ns.map PyData.int)
  | [] => .nil
  | n :: ns => .cons (.int n) (DpAll.ints ns)
theorem DpAll.at {K : PySem.W.Frag} {H : Hp} : ∀ {vs : List V} {ds : List PyData}, DpAll K H vs ds → ∀ (i : Nat) (v : V), vs[i]? = some v → ∃ d, ds[i]? = some d ∧ Dp K H v d
  | _, _, .nil, i, v, e => by simp at e
  | _, _, .cons h t, 0, v, e => by simp at e; subst e; exact ⟨_, rfl, h⟩
  | _, _, .cons h t, i + 1, v, e => by
    obtain ⟨d, e1, h1⟩ := DpAll.at t i v (by simpa using e)
    exact ⟨d, by simpa using e1, h1⟩
theorem DpAll.length {K : PySem.W.Frag} {H : Hp} : ∀ {vs : List V} {ds : List PyData}, DpAll K H vs ds → vs.length = ds.length
  | _, _, .nil => rfl
  | _, _, .cons _ t => by simp [DpAll.length t]
/-- data that can be compared, at most n deep -/
def Fl (n : Nat) (d : PyData) : Prop := d.canLay0 = true ∧ d.depth ≤ n
theorem Fl.int (i : Int) (n : Nat) : Fl n (.int i) := ⟨by simp [PyData.canLay0], by simp [PyData.depth]⟩
theorem Fl.non (n : Nat) : Fl n .none := ⟨by simp [PyData.canLay0], by simp [PyData.depth]⟩
theorem Fl.bool (b : Bool) (n : Nat) : Fl n (.bool b) := ⟨by simp [PyData.canLay0], by simp [PyData.depth]⟩
theorem Fl.all {n : Nat} : ∀ {ds : List PyData}, (∀ d ∈ ds, Fl n d) → PyData.canLayAll0 ds = true ∧ PyData.depthAll ds ≤ n
  | [], _ => ⟨by simp [PyData.canLayAll0], by simp [PyData.depthAll]⟩
  | d :: ds, h => by
    obtain ⟨h1, h2⟩ := h d List.mem_cons_self
    obtain ⟨h3, h4⟩ := Fl.all (ds := ds) fun x hx => h x (List.mem_cons_of_mem _ hx)
    refine ⟨by simp [PyData.canLayAll0, h1, h3], ?_⟩
    simp only [PyData.depthAll]
    exact Nat.max_le.mpr ⟨h2, h4⟩
theorem Fl.tup {n : Nat} {ds : List PyData} (h : ∀ d ∈ ds, Fl n d) : Fl (n + 1) (.tuple ds) := by
  obtain ⟨h1, h2⟩ := Fl.all h
  exact ⟨by simp [PyData.canLay0, h1], by simp only [PyData.depth]; omega⟩
theorem Fl.lst {n : Nat} {ds : List PyData} (h : ∀ d ∈ ds, Fl n d) : Fl (n + 1) (.list ds) := by
  obtain ⟨h1, h2⟩ := Fl.all h
  exact ⟨by simp [PyData.canLay0, h1], by simp only [PyData.depth]; omega⟩
theorem Fl.mono {n m : Nat} {d : PyData} (h : Fl n d) (hm : n ≤ m) : Fl m d := ⟨h.1, Nat.le_trans h.2 hm⟩
theorem Fl.ints (ns : List Int) : Fl 1 (.tuple (ns.map PyData.int)) := Fl.tup fun d hd => by
  obtain ⟨i, _, rfl⟩ := List.mem_map.mp hd
  exact Fl.int i 0
theorem Fl.intl (ns : List Int) : Fl 1 (.list (ns.map PyData.int)) := Fl.lst fun d hd => by
  obtain ⟨i, _, rfl⟩ := List.mem_map.mp hd
  exact Fl.int i 0
theorem Fl.nil {n : Nat} : ∀ d ∈ ([] : List PyData), Fl n d := fun d h => by cases h
theorem Fl.cons {n : Nat} {d : PyData} {ds : List PyData} (h : Fl n d) (t : ∀ x ∈ ds, Fl n x) : ∀ x ∈ d :: ds, Fl n x := fun x hx => by
  rcases List.mem_cons.mp hx with rfl | hx
  · exact h
  · exact t x hx
theorem Fl.mapi {n : Nat} {ns : List Int} : ∀ d ∈ ns.map PyData.int, Fl n d := fun d hd => by
  obtain ⟨i, _, rfl⟩ := List.mem_map.mp hd
  exact Fl.int i n
theorem Fl.shaped {n : Nat} {d : PyData} (h : Fl n d) (hn : n ≤ 64 := by decide) : SeqAt.shaped d = true := by
  unfold SeqAt.shaped
  rw [h.1, decide_eq_true (Nat.le_trans h.2 hn)]
  rfl
theorem Fl.self {n : Nat} {d : PyData} (h : Fl n d) : PyData.eqv d d = true := SeqAt.eqv_refl d h.1
/-! lists of ints -/
theorem ixN_ok {n : Nat} {k : Int} (h0 : 0 ≤ k) (h1 : k < n) : ixN n k = some k.toNat := by unfold ixN; rw [if_pos h0, if_pos h1]
theorem at_ints {ts : List Int} {k : Int} (h0 : 0 ≤ k) (h1 : k < ts.length) : atI (ts.map V.int) k = some (.int (ts.getD k.toNat 0)) := by
  obtain ⟨n, rfl⟩ := Int.eq_ofNat_of_zero_le h0
  have hn : n < ts.length := by omega
  refine atI_nat ?_
  rw [List.getElem?_map, List.getElem?_eq_getElem hn, List.getD_eq_getElem?_getD, Int.toNat_natCast, List.getElem?_eq_getElem hn]
  rfl
theorem rep_ints (n : Nat) (z : Int) : (List.replicate n [V.int z]).flatten = (List.replicate n z).map V.int := by
  induction n with
  | zero => rfl
  | succ n ih => rw [List.replicate_succ, List.flatten_cons, ih, List.replicate_succ, List.map_cons]; rfl
theorem set_ints (ts : List Int) (n : Nat) (z : Int) : (ts.map V.int).set n (.int z) = (ts.set n z).map V.int := by rw [List.map_set]
theorem eqv_ints {as bs : List Int} : PyData.eqv (.list (as.map PyData.int)) (.list (bs.map PyData.int)) = decide (as = bs) := by
  rw [PyData.eqv]
  induction as generalizing bs with
  | nil => cases bs <;> simp [PyData.eqvAll]
  | cons a as ih =>
    cases bs with
    | nil => simp [PyData.eqvAll]
    | cons b bs =>
      rw [List.map_cons, List.map_cons, PyData.eqvAll, ih, PyData.eqv]
      by_cases e : a = b
      · subst e; simp
      · simp [e]
theorem Dp.ints {K : PySem.W.Frag} {H : Hp} {a : Addr} {ns : List Int} (h : SqL K H a (ns.map V.int)) : Dp K H (.ref a) (.list (ns.map PyData.int)) := .lst h (DpAll.ints ns)
theorem Fl.intlS (ns : List Int) : SeqAt.shaped (.list (ns.map PyData.int)) = true := (Fl.intl ns).shaped
/-! a comprehension over a list, its items anything -/
/-- the heap without the list that grows -/
def hid (D : Addr) (H : Hp) : Hp := fun b => if b = D then none else H b
theorem hid_ne {D b : Addr} {H : Hp} (h : b ≠ D) : hid D H b = H b := by unfold hid; rw [if_neg h]
theorem hid_at {D : Addr} {H : Hp} : hid D H D = none := by unfold hid; rw [if_pos rfl]
theorem hid_same {D : Addr} {H : Hp} : L2.Same (hid D H) H := fun b o e => by
  by_cases hb : b = D
  · rw [hb, hid_at] at e; cases e
  · rw [hid_ne hb] at e; exact e
theorem of_hid {D b : Addr} {H : Hp} {o : HO} (e : hid D H b = some o) : b ≠ D ∧ H b = some o := by
  by_cases hb : b = D
  · rw [hb, hid_at] at e; cases e
  · rw [hid_ne hb] at e; exact ⟨hb, e⟩
theorem same_hid {D : Addr} {H H' : Hp} (s : L2.Same H H') (n : H D = none) : L2.Same H (hid D H') := fun b o e => by
  rw [hid_ne (ne_of_none e n)]; exact s _ _ e
theorem hid_upd {D : Addr} {H : Hp} {o : HO} : hid D (upd H D o) = hid D H := by
  funext b
  by_cases hb : b = D
  · rw [hb, hid_at, hid_at]
  · rw [hid_ne hb, hid_ne hb, upd_ne hb]
theorem hid_none {D : Addr} {H : Hp} (n : H D = none) : hid D H = H := by
  funext b
  by_cases hb : b = D
  · rw [hb, hid_at, n]
  · rw [hid_ne hb]
theorem r_lcL {K : PySem.W.Frag} {a : Addr} {xs : List V} {slot : Nat} {vs : List Nat} {te : TE} {σ : L2.St} {H : Hp} {Q : V → Hp → Prop} (P : Nat → List V → Hp → Prop) (hx : SqL K H a xs) (hn : xs.length ≤ 100000) (hv : vs = [slot])
    (h0 : P 0 [] H)
    (hs : ∀ (i : Nat) (x : V) (acc : List V) (H0 H' : Hp), xs[i]? = some x → L2.Same H H0 → P i acc H0 → L2.Same H0 H' → ∀ R : V → Hp → Prop,
      (∀ (v : V) (H'' : Hp), L2.Same H' H'' → (∀ D, H0 D = none → H' D ≠ none → P (i + 1) (acc ++ [v]) (hid D H'')) → R v H'') → te ((wipe σ vs).set slot (some x)) H' R)
    (q : ∀ (H' : Hp) (l : Addr) (acc : List V), L2.Same H H' → H l = none → H' l = some (.lst acc) → acc.length = xs.length → P xs.length acc (hid l H') → Q (.ref l) H') :
    kLc (gName slot) tYes te vs σ Q (Itl K a) H := by
  intro L hL
  have hw : ∀ (τ : L2.St) (x : V), wipe (τ.set slot (some x)) [slot] = wipe τ [slot] := fun τ x => by simp [wipe, List.set_set]
  have hw2 : wipe (wipe σ vs) vs = wipe σ vs := by subst hv; simp [wipe, List.set_set]
  refine lc_list (xs := xs) (fun i H' => ∃ acc : List V, acc.length = i ∧ H' L = some (.lst acc) ∧ L2.Same H H' ∧ P i acc (hid L H')) ⟨[], rfl, upd_same, fun b o e => by rw [upd_ne (ne_of_none e hL)]; exact e, by rw [hid_upd, hid_none hL]; exact h0⟩ ?_ ?_ ?_
  · rintro i H' hi ⟨acc, _, _, s, _⟩
    exact s.seq hx
  · rintro i x H' hi ⟨acc, el, eL, s, hp⟩
    refine ⟨?_, ?_⟩
    · subst hv
      rw [hw]
      exact hw2
    · show te ((wipe σ vs).set slot (some x)) H' _
      refine hs i x acc (hid L H') H' hi (same_hid s hL) hp hid_same _ fun v H'' s2 hP => ⟨acc, s2 _ _ eL, ?_, acc ++ [v], ?_, upd_same, ?_, ?_⟩
      · have := (List.getElem?_eq_some_iff.mp hi).1
        rw [el, sz]
        omega
      · rw [List.length_append, el]; rfl
      · intro b o e
        rw [upd_ne (ne_of_none e hL)]
        exact s2 _ _ (s _ _ e)
      · rw [hid_upd]
        exact hP L hid_at (by rw [eL]; intro z; cases z)
  · rintro H' ⟨acc, el, eL, s, hp⟩
    exact q H' L acc s hL eL el hp
end Sg
namespace Sg
open PySem L2
def top (i : Nat) : Stmt := PySem.Challenge.pw_segmentfs_k64_layouts_and_addresses.main.body.getD i (.Pass ⟨0, 0, 0, 0⟩)
abbrev s_Layout___init : Stmt := inClass (top 8) 0
abbrev s_address_at : Stmt := top 9
abbrev s_segment_of : Stmt := top 10
abbrev s_place_of : Stmt := top 11
abbrev s_region_start : Stmt := top 12
abbrev s_parts_of : Stmt := top 13
abbrev s_law_number : Stmt := top 15
abbrev s_law_take : Stmt := top 16
abbrev s_law_layout : Stmt := top 17
abbrev s_law_is_number : Stmt := top 18
abbrev s_law_fits : Stmt := top 19
abbrev s_law_told : Stmt := top 20
abbrev s_law_refused : Stmt := top 21
abbrev s_law_asked : Stmt := top 22
abbrev s_law_any_layout : Stmt := top 23
abbrev s_law_same : Stmt := top 24
abbrev s_law_parts : Stmt := top 25
abbrev s_law_places : Stmt := top 26
abbrev s_law : Stmt := top 27
abbrev n_Layout___init : List Str := ["self", "segments", "segment_blocks", "block_size"]
theorem sc_Layout___init : FnScope n_Layout___init ["self", "segments", "segment_blocks", "block_size"] (defScope s_Layout___init) := ⟨rfl, rfl, rfl, by decide +kernel, rfl, by decide +kernel, by decide +kernel⟩
abbrev n_address_at : List Str := ["layout", "segment", "place"]
theorem sc_address_at : FnScope n_address_at ["layout", "segment", "place"] (defScope s_address_at) := ⟨rfl, rfl, rfl, by decide +kernel, rfl, by decide +kernel, by decide +kernel⟩
abbrev n_segment_of : List Str := ["layout", "address", "start"]
theorem sc_segment_of : FnScope n_segment_of ["layout", "address"] (defScope s_segment_of) := ⟨rfl, rfl, rfl, by decide +kernel, rfl, by decide +kernel, by decide +kernel⟩
abbrev n_place_of : List Str := ["layout", "address", "start"]
theorem sc_place_of : FnScope n_place_of ["layout", "address"] (defScope s_place_of) := ⟨rfl, rfl, rfl, by decide +kernel, rfl, by decide +kernel, by decide +kernel⟩
abbrev n_region_start : List Str := ["layout", "region"]
theorem sc_region_start : FnScope n_region_start ["layout", "region"] (defScope s_region_start) := ⟨rfl, rfl, rfl, by decide +kernel, rfl, by decide +kernel, by decide +kernel⟩
abbrev n_parts_of : List Str := ["number", "size"]
theorem sc_parts_of : FnScope n_parts_of ["number", "size"] (defScope s_parts_of) := ⟨rfl, rfl, rfl, by decide +kernel, rfl, by decide +kernel, by decide +kernel⟩
abbrev n_law_number : List Str := ["script", "k", "cell", "first", "second"]
theorem sc_law_number : FnScope n_law_number ["script", "k"] (defScope s_law_number) := ⟨rfl, rfl, rfl, by decide +kernel, rfl, by decide +kernel, by decide +kernel⟩
abbrev n_law_take : List Str := ["box", "size", "digit"]
theorem sc_law_take : FnScope n_law_take ["box", "size"] (defScope s_law_take) := ⟨rfl, rfl, rfl, by decide +kernel, rfl, by decide +kernel, by decide +kernel⟩
abbrev n_law_layout : List Str := ["digit", "sizes", "row"]
theorem sc_law_layout : FnScope n_law_layout ["digit"] (defScope s_law_layout) := ⟨rfl, rfl, rfl, by decide +kernel, rfl, by decide +kernel, by decide +kernel⟩
abbrev n_law_is_number : List Str := ["actual"]
theorem sc_law_is_number : FnScope n_law_is_number ["actual"] (defScope s_law_is_number) := ⟨rfl, rfl, rfl, by decide +kernel, rfl, by decide +kernel, by decide +kernel⟩
abbrev n_law_fits : List Str := ["segments", "blocks", "size", "octets"]
theorem sc_law_fits : FnScope n_law_fits ["segments", "blocks", "size"] (defScope s_law_fits) := ⟨rfl, rfl, rfl, by decide +kernel, rfl, by decide +kernel, by decide +kernel⟩
abbrev n_law_told : List Str := ["layout", "segments", "blocks", "size", "payload", "limit", "last", "octets", "region", "fields", "due", "k"]
theorem sc_law_told : FnScope n_law_told ["layout", "segments", "blocks", "size"] (defScope s_law_told) := ⟨rfl, rfl, rfl, by decide +kernel, rfl, by decide +kernel, by decide +kernel⟩
abbrev n_law_refused : List Str := ["segments", "blocks", "size", "e"]
theorem sc_law_refused : FnScope n_law_refused ["segments", "blocks", "size"] (defScope s_law_refused) := ⟨rfl, rfl, rfl, by decide +kernel, rfl, by decide +kernel, by decide +kernel⟩
abbrev n_law_asked : List Str := ["segments", "blocks", "size"]
theorem sc_law_asked : FnScope n_law_asked ["segments", "blocks", "size"] (defScope s_law_asked) := ⟨rfl, rfl, rfl, by decide +kernel, rfl, by decide +kernel, by decide +kernel⟩
abbrev n_law_any_layout : List Str := ["box"]
theorem sc_law_any_layout : FnScope n_law_any_layout ["box"] (defScope s_law_any_layout) := ⟨rfl, rfl, rfl, by decide +kernel, rfl, by decide +kernel, by decide +kernel⟩
abbrev n_law_same : List Str := ["actual", "due"]
theorem sc_law_same : FnScope n_law_same ["actual", "due"] (defScope s_law_same) := ⟨rfl, rfl, rfl, by decide +kernel, rfl, by decide +kernel, by decide +kernel⟩
abbrev n_law_parts : List Str := ["number", "size", "count"]
theorem sc_law_parts : FnScope n_law_parts ["number", "size"] (defScope s_law_parts) := ⟨rfl, rfl, rfl, by decide +kernel, rfl, by decide +kernel, by decide +kernel⟩
abbrev n_law_places : List Str := ["layout", "box", "width", "segment", "place", "first", "address", "number", "due_segment", "due_place"]
theorem sc_law_places : FnScope n_law_places ["layout", "box"] (defScope s_law_places) := ⟨rfl, rfl, rfl, by decide +kernel, rfl, by decide +kernel, by decide +kernel⟩
abbrev n_law : List Str := ["script", "box", "sizes", "segments", "blocks", "choice", "size", "number"]
theorem sc_law : FnScope n_law ["script"] (defScope s_law) := ⟨rfl, rfl, rfl, by decide +kernel, rfl, by decide +kernel, by decide +kernel⟩
structure Txt (K : PySem.W.Frag) (mg : Str → Option Value) where
  a_Layout___init : Addr
  fd_Layout___init : FuncData
  a_address_at : Addr
  fd_address_at : FuncData
  a_segment_of : Addr
  fd_segment_of : FuncData
  a_place_of : Addr
  fd_place_of : FuncData
  a_region_start : Addr
  fd_region_start : FuncData
  a_parts_of : Addr
  fd_parts_of : FuncData
  a_law_number : Addr
  fd_law_number : FuncData
  a_law_take : Addr
  fd_law_take : FuncData
  a_law_layout : Addr
  fd_law_layout : FuncData
  a_law_is_number : Addr
  fd_law_is_number : FuncData
  a_law_fits : Addr
  fd_law_fits : FuncData
  a_law_told : Addr
  fd_law_told : FuncData
  a_law_refused : Addr
  fd_law_refused : FuncData
  a_law_asked : Addr
  fd_law_asked : FuncData
  a_law_any_layout : Addr
  fd_law_any_layout : FuncData
  a_law_same : Addr
  fd_law_same : FuncData
  a_law_parts : Addr
  fd_law_parts : FuncData
  a_law_places : Addr
  fd_law_places : FuncData
  a_law : Addr
  fd_law : FuncData
  A_Layout : Addr
  a_BLOCK_SIZES : Addr
  t_SUMMARY_HEAD : Tok
  F_Layout___init : Fun K "__init__" "Layout.__init__" s_Layout___init a_Layout___init fd_Layout___init
  b_Layout___init : Binds K fd_Layout___init ["self", "segments", "segment_blocks", "block_size"] []
  F_address_at : Fun K "address_at" "address_at" s_address_at a_address_at fd_address_at
  b_address_at : Binds K fd_address_at ["layout", "segment", "place"] []
  m_address_at : mg "address_at" = some (.ref a_address_at)
  F_segment_of : Fun K "segment_of" "segment_of" s_segment_of a_segment_of fd_segment_of
  b_segment_of : Binds K fd_segment_of ["layout", "address"] []
  m_segment_of : mg "segment_of" = some (.ref a_segment_of)
  F_place_of : Fun K "place_of" "place_of" s_place_of a_place_of fd_place_of
  b_place_of : Binds K fd_place_of ["layout", "address"] []
  m_place_of : mg "place_of" = some (.ref a_place_of)
  F_region_start : Fun K "region_start" "region_start" s_region_start a_region_start fd_region_start
  b_region_start : Binds K fd_region_start ["layout", "region"] []
  m_region_start : mg "region_start" = some (.ref a_region_start)
  F_parts_of : Fun K "parts_of" "parts_of" s_parts_of a_parts_of fd_parts_of
  b_parts_of : Binds K fd_parts_of ["number", "size"] []
  m_parts_of : mg "parts_of" = some (.ref a_parts_of)
  F_law_number : Fun K "_law_number" "_law_number" s_law_number a_law_number fd_law_number
  b_law_number : Binds K fd_law_number ["script", "k"] []
  m_law_number : mg "_law_number" = some (.ref a_law_number)
  F_law_take : Fun K "_law_take" "_law_take" s_law_take a_law_take fd_law_take
  b_law_take : Binds K fd_law_take ["box", "size"] []
  m_law_take : mg "_law_take" = some (.ref a_law_take)
  F_law_layout : Fun K "_law_layout" "_law_layout" s_law_layout a_law_layout fd_law_layout
  b_law_layout : Binds K fd_law_layout ["digit"] []
  m_law_layout : mg "_law_layout" = some (.ref a_law_layout)
  F_law_is_number : Fun K "_law_is_number" "_law_is_number" s_law_is_number a_law_is_number fd_law_is_number
  b_law_is_number : Binds K fd_law_is_number ["actual"] []
  m_law_is_number : mg "_law_is_number" = some (.ref a_law_is_number)
  F_law_fits : Fun K "_law_fits" "_law_fits" s_law_fits a_law_fits fd_law_fits
  b_law_fits : Binds K fd_law_fits ["segments", "blocks", "size"] []
  m_law_fits : mg "_law_fits" = some (.ref a_law_fits)
  F_law_told : Fun K "_law_told" "_law_told" s_law_told a_law_told fd_law_told
  b_law_told : Binds K fd_law_told ["layout", "segments", "blocks", "size"] []
  m_law_told : mg "_law_told" = some (.ref a_law_told)
  F_law_refused : Fun K "_law_refused" "_law_refused" s_law_refused a_law_refused fd_law_refused
  b_law_refused : Binds K fd_law_refused ["segments", "blocks", "size"] []
  m_law_refused : mg "_law_refused" = some (.ref a_law_refused)
  F_law_asked : Fun K "_law_asked" "_law_asked" s_law_asked a_law_asked fd_law_asked
  b_law_asked : Binds K fd_law_asked ["segments", "blocks", "size"] []
  m_law_asked : mg "_law_asked" = some (.ref a_law_asked)
  F_law_any_layout : Fun K "_law_any_layout" "_law_any_layout" s_law_any_layout a_law_any_layout fd_law_any_layout
  b_law_any_layout : Binds K fd_law_any_layout ["box"] []
  m_law_any_layout : mg "_law_any_layout" = some (.ref a_law_any_layout)
  F_law_same : Fun K "_law_same" "_law_same" s_law_same a_law_same fd_law_same
  b_law_same : Binds K fd_law_same ["actual", "due"] []
  m_law_same : mg "_law_same" = some (.ref a_law_same)
  F_law_parts : Fun K "_law_parts" "_law_parts" s_law_parts a_law_parts fd_law_parts
  b_law_parts : Binds K fd_law_parts ["number", "size"] []
  m_law_parts : mg "_law_parts" = some (.ref a_law_parts)
  F_law_places : Fun K "_law_places" "_law_places" s_law_places a_law_places fd_law_places
  b_law_places : Binds K fd_law_places ["layout", "box"] []
  m_law_places : mg "_law_places" = some (.ref a_law_places)
  F_law : Fun K "law" "law" s_law a_law fd_law
  b_law : Binds K fd_law ["script"] []
  m_law : mg "law" = some (.ref a_law)
  m_Layout : mg "Layout" = some (.ref A_Layout)
  cl_Layout : Cls K A_Layout
  M_Layout : Mk K A_Layout a_Layout___init
  na_Layout_segments : NoAttr K A_Layout "segments"
  na_Layout_segment_blocks : NoAttr K A_Layout "segment_blocks"
  na_Layout_block_size : NoAttr K A_Layout "block_size"
  na_Layout_payload : NoAttr K A_Layout "payload"
  na_Layout_limit : NoAttr K A_Layout "limit"
  na_Layout_last_id : NoAttr K A_Layout "last_id"
  na_Layout_fan : NoAttr K A_Layout "fan"
  na_Layout_region_blocks : NoAttr K A_Layout "region_blocks"
  na_Layout_device_blocks : NoAttr K A_Layout "device_blocks"
  A_InvalidFormat : Addr
  m_InvalidFormat : mg "InvalidFormat" = some (.ref A_InvalidFormat)
  A_SegmentError : Addr
  m_SegmentError : mg "SegmentError" = some (.ref A_SegmentError)
  A_OutOfRange : Addr
  m_OutOfRange : mg "OutOfRange" = some (.ref A_OutOfRange)
  A_InvalidImage : Addr
  m_InvalidImage : mg "InvalidImage" = some (.ref A_InvalidImage)
  x_InvalidFormat : PySem.W.excIn K A_InvalidFormat [.type "ValueError", .type "Exception", .type "BaseException", .type "object"] "ValueError.__new__" = true
  k_InvalidFormat : PySem.W.keepIn K (.ref A_InvalidFormat) = true
  b_InvalidFormat : PySem.W.subIn K (.ref A_InvalidFormat) (.type "BaseException") = some true
  t_InvalidFormat : PySem.W.typeIn K (.ref A_InvalidFormat) = some (.type "type")
  e_InvalidFormat : ExcC K A_InvalidFormat
  ex_InvalidFormat_SegmentError : PySem.W.exmOne K (.ref A_InvalidFormat) (.ref A_SegmentError) = some true
  kit_InvalidFormat_ValueError : PySem.W.kitOne K (.ref A_InvalidFormat) (.type "ValueError") = some true
  kit_InvalidFormat_OutOfRange : PySem.W.kitOne K (.ref A_InvalidFormat) (.ref A_OutOfRange) = some false
  kit_InvalidFormat_InvalidImage : PySem.W.kitOne K (.ref A_InvalidFormat) (.ref A_InvalidImage) = some false
  kit_InvalidFormat_InvalidFormat : PySem.W.kitOne K (.ref A_InvalidFormat) (.ref A_InvalidFormat) = some true
  c_BLOCK_SIZES : mg "BLOCK_SIZES" = some (.ref a_BLOCK_SIZES)
  r_BLOCK_SIZES : RelV (.ref a_BLOCK_SIZES) (.ref a_BLOCK_SIZES)
  v_BLOCK_SIZES : ∀ H : Hp, SqT K H a_BLOCK_SIZES [.int 64, .int 128, .int 256]
  c_SUMMARY_HEAD : mg "SUMMARY_HEAD" = some (.int 16 t_SUMMARY_HEAD)
  r_SUMMARY_HEAD : RelV (.int 16) (.int 16 t_SUMMARY_HEAD)
  n_ValueError : mg "ValueError" = none
  n_bool : mg "bool" = none
  n_int : mg "int" = none
  n_isinstance : mg "isinstance" = none
  n_len : mg "len" = none
  n_range : mg "range" = none
end Sg
namespace Sg
open PySem L2
local macro_rules | `(tactic| walk_at "size") => `(tactic| first | ((simp only [List.length_append, List.length_cons, List.length_nil, List.length_map, Sg.sz]) <;> omega) | (rw [Sg.sz]; simp <;> omega))
local macro_rules | `(tactic| walk_at "side") => `(tactic| first | with_reducible rfl | with_reducible assumption | (show (_ : Int) < _; omega) | omega | (simp only [List.length_map]; omega) | assumption | rfl | decide | exact Or.inr ⟨by decide, by decide⟩ | exact Or.inl ⟨by decide, by decide⟩ | exact Or.inr ⟨by omega, by omega⟩ | exact Or.inl ⟨by omega, by omega⟩ | exact ⟨by omega, by omega⟩ | exact ⟨by decide, by decide, by decide⟩ | (simp; done))
local macro_rules | `(tactic| walk_at "hp") => `(tactic| first | assumption | (refine' L2.SqT.of ?h1; (case h1 => walk_at "hp")) | (refine' L2.SqL.of ?h1; (case h1 => walk_at "hp")) | (refine' Sg.Same.tup ?h1 ?h2; (case h1 => assumption); (case h2 => walk_at "hp")) | (refine' L2.Same.seq ?h1 ?h2; (case h1 => assumption); (case h2 => walk_at "hp")) | (refine' (show L2.Same _ _ from ?h1) _ _ ?h2; (case h1 => assumption); (case h2 => walk_at "hp")) | (refine' Sg.at_keep ?he ?h1 ?h2 ?h3; (case he => assumption); (case h1 => walk_at "hp"); (case h2 => walk_at "hp"); (case h3 => (intro z; cases z))))
local macro_rules | `(tactic| walk_at "al") => `(tactic| (intro p hn; generalize hH : upd _ _ _ = H'; have hs := Sg.Same.of_new hH hn; have ho := Sg.at_new hH; clear hH))
local macro_rules | `(tactic| walk_at "sm1") => `(tactic| first | (refine' L2.Same.trans ?ha ?hb; (case hb => assumption)) | (refine' Sg.Same.old ?ha ?hb ?hc; (case hc => assumption); (case hb => walk_at "nn")))
local macro_rules | `(tactic| walk_at "sm") => `(tactic| first | exact L2.Same.refl _ | assumption | (walk_at "sm1"; walk_at "sm"))
local macro_rules | `(tactic| walk_at "nn") => `(tactic| first | assumption | ((refine' L2.Same.free ?ha ?hb; (case hb => assumption)); walk_at "sm"))
local macro_rules | `(tactic| walk_at "dp") => `(tactic| first | assumption | exact L2.Dp.int _ | exact L2.Dp.non | exact L2.Dp.bl _ | exact L2.Dp.str _ | (refine' L2.Dp.tup ?ha ?hb; (case ha => walk_at "hp"); (case hb => walk_at "dpa")) | (refine' L2.Dp.lst ?ha ?hb; (case ha => walk_at "hp"); (case hb => walk_at "dpa")))
local macro_rules | `(tactic| walk_at "dpa") => `(tactic| first | assumption | exact L2.DpAll.nil | exact Sg.DpAll.ints _ | (refine' L2.DpAll.cons ?ha ?hb; (case ha => walk_at "dp"); (case hb => walk_at "dpa")))
local macro_rules | `(tactic| walk_at "fl") => `(tactic| first | assumption | exact Sg.Fl.int _ _ | exact Sg.Fl.non _ | exact Sg.Fl.bool _ _ | (refine' Sg.Fl.tup ?ha; (case ha => walk_at "fla")) | (refine' Sg.Fl.lst ?ha; (case ha => walk_at "fla")))
local macro_rules | `(tactic| walk_at "fla") => `(tactic| first | assumption | exact Sg.Fl.nil | exact Sg.Fl.mapi | (refine' Sg.Fl.cons ?ha ?hb; (case ha => walk_at "fl"); (case hb => walk_at "fla")))
local macro_rules | `(tactic| walk_at "tyx") => `(tactic| first | exact L2.TyX.base (L2.TyOf.int _) | exact L2.TyX.base (L2.TyOf.bl _) | exact L2.TyX.base L2.TyOf.non | exact L2.TyX.base (L2.TyOf.str _) | (refine' L2.TyX.base (L2.TyOf.tup ?ha); (case ha => walk_at "hp")) | (refine' L2.TyX.base (L2.TyOf.lst ?ha); (case ha => walk_at "hp")) | (refine' L2.TyX.base (L2.TyOf.frz ?ha); (case ha => walk_at "hp")))
local macro_rules | `(tactic| walk_at "up") => `(tactic| (generalize hH : upd _ _ _ = H'; have ho := Sg.at_new hH))
local macro_rules | `(tactic| walk_at "lk") => `(tactic| first | with_reducible assumption | with_reducible exact Sg.lk_eq | (refine' Sg.lk_ne ?ha ?hb; (case ha => decide +kernel); (case hb => walk_at "lk")) | (refine' Sg.lk_no ?ha ?hb; (case ha => decide +kernel); (case hb => walk_at "lk")) | rfl)
local macro_rules | `(tactic| walk_at "few") => `(tactic| first | assumption | omega | decide | (refine' Nat.lt_of_le_of_lt (Sg.putF_len ?ha) ?hb; (case ha => walk_at "fewi"); (case hb => decide)))
local macro_rules | `(tactic| walk_at "fewi") => `(tactic| first | assumption | (refine' Sg.putF_len ?ha; (case ha => walk_at "fewi")) | exact Nat.le_refl _)
local macro_rules | `(tactic| walk_at "rd1") => `(tactic| with_reducible (first | refine' Sg.r_seq ?_ | refine' Sg.r_asg ?_ | refine' Sg.r_gname ?_ | (refine' Sg.r_var (by with_unfolding_all rfl) ?_) | refine' Sg.r_c ?_ | refine' Sg.r_op ?_ | refine' Sg.r_un ?_ | refine' Sg.r_cb ?_ | refine' Sg.r_cons ?_ | refine' Sg.r_nil ?_ | (refine' Sg.r_mod ?hc ?_; (case hc => (with_unfolding_all walk_at "side")); (intro z hz z0 z1)) | (refine' Sg.r_rI ?hc ?_; (case hc => (with_unfolding_all walk_at "side"))) | refine' Sg.r_rI0 ?_ | refine' Sg.r_rU ?_ | refine' Sg.r_int ?_ | refine' Sg.r_eqi ?_ | refine' Sg.r_nei ?_ | (refine' Sg.r_ixl ?h ?e ?_; (case h => (with_unfolding_all walk_at "hp")); (case e => (with_unfolding_all rfl))) | (refine' Sg.r_ixt ?h ?e ?_; (case h => (with_unfolding_all walk_at "hp")); (case e => (with_unfolding_all rfl))) | (refine' Sg.r_lenl ?h ?_; (case h => (with_unfolding_all walk_at "hp"))) | (refine' Sg.r_lent ?h ?_; (case h => (with_unfolding_all walk_at "hp"))) | refine' Sg.r_test ?_ | refine' Sg.r_exb ?_ | refine' Sg.r_tB ?_ | refine' Sg.r_exbP ?_ | refine' Sg.r_ifs ?_ | refine' Sg.r_and ?_ | refine' Sg.r_or ?_ | refine' Sg.r_not ?_ | refine' Sg.r_andV ?_ | refine' Sg.r_orV ?_ | refine' Sg.r_notV ?_ | refine' Sg.r_tif ?_ | refine' Sg.r_isN ?_ | refine' Sg.r_notN ?_ | refine' Sg.r_ret ?_ | refine' Sg.r_drop ?_ | refine' Sg.r_next ?_ | refine' Sg.r_call ?_ | refine' Sg.r_make ?_ | refine' Sg.r_meth ?_ | refine' Sg.r_fld ?_ | refine' Sg.r_sfld ?_ | refine' Sg.r_chain ?_ | (refine' Sg.r_fldL ?h ?hc ?hn ?hl ?_; (case h => (with_unfolding_all walk_at "hp")); (case hc => assumption); (case hn => assumption); (case hl => (with_unfolding_all walk_at "lk"))) | (refine' Sg.r_sfldL ?h ?hc ?hn ?hl ?_; (case h => (with_unfolding_all walk_at "hp")); (case hc => assumption); (case hn => assumption); (case hl => (with_unfolding_all walk_at "few")); (with_unfolding_all walk_at "up")) | (refine' Sg.r_gunl ?h ?hl ?_; (case h => (with_unfolding_all walk_at "hp")); (case hl => (with_unfolding_all walk_at "side"))) | (refine' Sg.r_gtup ?h ?hl ?_; (case h => (with_unfolding_all walk_at "hp")); (case hl => (with_unfolding_all walk_at "side"))) | (refine' Sg.r_methL ?h ?hl ?_; (case h => (with_unfolding_all walk_at "hp")); (case hl => (with_unfolding_all walk_at "lk"))) | refine' Sg.r_tup ?_ | refine' Sg.r_lst ?_ | (refine' Sg.r_ktup ?hl ?_; (case hl => (with_unfolding_all first | exact Nat.le_of_ble_eq_true rfl | decide)); (with_unfolding_all walk_at "al")) | (refine' Sg.r_klst ?hl ?_; (case hl => (with_unfolding_all first | exact Nat.le_of_ble_eq_true rfl | decide)); (with_unfolding_all walk_at "al")) | (refine' Sg.r_listl ?h ?_; (case h => (with_unfolding_all walk_at "hp")); (with_unfolding_all walk_at "al")) | (refine' Sg.r_listt ?h ?_; (case h => (with_unfolding_all walk_at "hp")); (with_unfolding_all walk_at "al")) | (refine' Sg.r_tupl ?h ?_; (case h => (with_unfolding_all walk_at "hp")); (with_unfolding_all walk_at "al")) | (refine' Sg.r_tupt ?h ?_; (case h => (with_unfolding_all walk_at "hp"))) | (refine' Sg.r_in (.inr ?h) ?fx ?fs ?_; (case h => (with_unfolding_all walk_at "hp")); (case fx => (with_unfolding_all rfl)); (case fs => (with_unfolding_all rfl))) | (refine' Sg.r_in (.inl ?h) ?fx ?fs ?_; (case h => (with_unfolding_all walk_at "hp")); (case fx => (with_unfolding_all rfl)); (case fs => (with_unfolding_all rfl))) | (refine' Sg.r_sorted ?h ?h64 ?_; (case h => (with_unfolding_all walk_at "hp")); (case h64 => (with_unfolding_all walk_at "side")); (intro ns' p perm rising; revert p; (with_unfolding_all walk_at "al"))) | (refine' Sg.r_app ?h ?hl ?_; (case h => (with_unfolding_all walk_at "hp")); (case hl => (with_unfolding_all walk_at "size")); (with_unfolding_all walk_at "up")) | refine' Sg.r_lc ?_ | refine' Sg.r_for ?_ | refine' Sg.r_irng1 ?_ | refine' Sg.r_irng2 ?_ | refine' Sg.r_ilist ?_ | refine' Sg.r_itup ?_ | (refine' Sg.r_kR1 ?h1 ?h2 ?_; (case h1 => (with_unfolding_all walk_at "side")); (case h2 => (with_unfolding_all walk_at "side"))) | (refine' Sg.r_kR2 ?h1 ?_; (case h1 => (with_unfolding_all refine ⟨?_, ?_, ?_, ?_⟩ <;> walk_at "side"))) | (refine' Sg.r_kIl ?h ?_; (case h => (with_unfolding_all walk_at "hp"))) | (refine' Sg.r_kIt ?h ?_; (case h => (with_unfolding_all walk_at "hp"))) | refine' Sg.r_bm ?_ | refine' Sg.r_bm0 ?_ | (refine' Sg.r_tyl ?h ?_; (case h => (with_unfolding_all walk_at "hp"))) | refine' Sg.r_nonR ?_ | refine' Sg.r_nonN ?_ | refine' Sg.r_isR ?_ | refine' Sg.r_isNN ?_ | refine' Sg.r_nonI ?_ | refine' Sg.r_isI ?_ | refine' L2.iteT ?_ | refine' L2.iteF ?_ | refine' Sg.r_gcons ?_ | refine' Sg.r_gnil ?_ | refine' Sg.r_gsub ?_ | refine' Sg.r_isb ?_ | refine' Sg.r_notb ?_ | (refine' Sg.r_aug (by with_unfolding_all rfl) ?_) | refine' Sg.r_ipI ?_ | (refine' Sg.r_isi (b := true) (L2.ClsV.ty _) ?ht ?hk ?_; (case ht => (with_unfolding_all walk_at "tyx")); (case hk => (with_unfolding_all exact L2.kit_ty (by decide +kernel)))) | (refine' Sg.r_isi (b := false) (L2.ClsV.ty _) ?ht ?hk ?_; (case ht => (with_unfolding_all walk_at "tyx")); (case hk => (with_unfolding_all exact L2.kit_ty (by decide +kernel)))) | refine' Sg.r_gmap ?_ | refine' Sg.r_gmapn ?_ | (refine' Sg.r_iteb ?hb ?_; (case hb => (with_unfolding_all rfl))) | (refine' Sg.r_iteB ?hb ?_; (case hb => (with_unfolding_all rfl)))))
local macro_rules | `(tactic| walk_at "rd") => `(tactic| repeat walk_at "rd1")
local macro_rules | `(tactic| walk_at "rdo") => `(tactic| repeat (first | walk_at "rd1" | (with_reducible refine' Sg.r_iteD ?hc ?_; (case hc => first | assumption | omega)) | (with_reducible refine' Sg.r_iteDn ?hc ?_; (case hc => first | assumption | omega)) | (with_reducible refine' Sg.r_iteND ?hc ?_; (case hc => first | assumption | omega)) | (with_reducible refine' Sg.r_iteNDn ?hc ?_; (case hc => first | assumption | omega))))
local macro_rules | `(tactic| walk_at "rd1") => `(tactic| with_reducible (first | refine' Sg.r_sl ?_ | refine' Sg.r_noP ?_ | refine' Sg.r_part ?_ | refine' Sg.r_kPart ?_ | (refine' Sg.r_slL ?h ?_; (case h => (with_unfolding_all walk_at "hp")); (with_unfolding_all walk_at "al"))))
-- imports: HandS.NoneIn HandS.Defaults HandS.TupMul HandS.Zip HandS.SetFor HandS.SetKeys HandS.Walk HandS.Codes HandS.ForExc HandS.CallSlots HandS.ExcIs KE.GoesEnum
section
variable {P : Program} {w : World} {K : PySem.W.Frag} {mg : Str → Option Value} {base : Heap}
theorem made_same {H H1 : Hp} {x dx : Addr} {o : HO} (nx : H x = none) (nd : H dx = none) (k : ∀ q, q ≠ x → H1 q = upd (upd H dx (.own x)) x o q) : Same H H1 := fun b u e => by
  rw [k b (ne_of_none e nx), upd_ne (ne_of_none e nx), upd_ne (ne_of_none e nd)]
  exact e

/-! ### enumerate of a list -/
def kIe (K : PySem.W.Frag) (R : It → Hp → Prop) : List V → Hp → Prop := fun vs H1 => ∃ a xs, vs = [.ref a] ∧ SqL K H1 a xs ∧ R (Ite K a) H1
theorem r_ienum {K : PySem.W.Frag} {ta : TA} {σ : L2.St} {H : Hp} {R : It → Hp → Prop} (h : ta σ H (kIe K R)) : iEnum K ta σ H R := h
theorem r_kIe {K : PySem.W.Frag} {a : Addr} {xs : List V} {H : Hp} {R : It → Hp → Prop} (h1 : SqL K H a xs) (h : R (Ite K a) H) : kIe K R [.ref a] H := ⟨a, xs, rfl, h1, h⟩
theorem r_forE {K : PySem.W.Frag} {a : Addr} {xs : List V} {σ : L2.St} {H : Hp} {D : Ends} {g : TG} {tb : TS} (Pv : Nat → L2.St → Hp → Prop) (h0 : Pv 0 σ H) (hl : ∀ i σ H, i ≤ xs.length → Pv i σ H → SqL K H a xs)
    (hs : ∀ (i : Nat) (x : V) (σ : L2.St) (H H' : Hp) (T : Addr), xs[i]? = some x → Pv i σ H → H T = none → upd H T (.tup [.int (i : Nat), x]) = H' → g (.ref T) σ H' fun σ2 H2 => tb { D with nx := Pv (i + 1), ct := Pv (i + 1), bk := D.nx } σ2 H2)
    (hd : ∀ σ H, Pv xs.length σ H → D.nx σ H) : kFor g tb D σ (Ite K a) H :=
  for_it walk_enum Pv h0 hl (fun i x σ H H' hlt p y => by
    obtain ⟨T, z, w, e1, e2, e3, e4, e5⟩ := y
    cases e4
    rw [e1]
    exact hs i w σ H H' T e5 p e2 e3.symm) hd
def SqI (K : PySem.W.Frag) (H : Hp) (l : Addr) (ns : List Int) : Prop := SqL K H l (ns.map V.int) ∨ SqT K H l (ns.map V.int)
theorem SqI.mono {K : PySem.W.Frag} {H H' : Hp} {l : Addr} {ns : List Int} (s : Same H H') (h : SqI K H l ns) : SqI K H' l ns := h.imp (fun h => s.seq h) (fun h => Same.tup s h)
theorem inV_ints (k : Int) : ∀ ns : List Int, inV (.int k) (ns.map V.int) = decide (k ∈ ns)
  | [] => rfl
  | n :: ns => by
    have ih := inV_ints k ns
    unfold inV at ih ⊢
    rw [List.map_cons, List.any_cons, ih]
    by_cases e : k = n
    · subst e
      simp [eqV]
    · have e' : ¬ n = k := fun z => e z.symm
      simp [eqV, e, e']
theorem flat_ints : ∀ ns : List Int, (ns.map V.int).all flatV = true
  | [] => rfl
  | n :: ns => by rw [List.map_cons, List.all_cons, flat_ints ns]; rfl

theorem r_neI {K : PySem.W.Frag} {H : Hp} {a b : Addr} {ns : List Int} {Q : V → Hp → Prop} (ha : SqL K H a (ns.map V.int)) (hb : SqL K H b (ns.map V.int)) (q : Q (.bl false) H) : rNeD K (.ref a) (.ref b) H Q := by
  refine r_ned (Dp.ints ha) (Dp.ints hb) (Fl.intlS ns) (Fl.intlS ns) ?_
  rw [(Fl.intl ns).self]
  exact q
theorem r_eqI {K : PySem.W.Frag} {H : Hp} {a b : Addr} {ns : List Int} {Q : V → Hp → Prop} (ha : SqL K H a (ns.map V.int)) (hb : SqL K H b (ns.map V.int)) (q : Q (.bl true) H) : rEqD K (.ref a) (.ref b) H Q := by
  refine r_eqd (Dp.ints ha) (Dp.ints hb) (Fl.intlS ns) (Fl.intlS ns) ?_
  rw [(Fl.intl ns).self]
  exact q

/-! ### exceptions: calls of classes and methods within a try, by the caller's slots; named readings -/
def tMakeSD (C : Addr) (sp : Sp) (dvs : List V) (E : L2.St → XK) (t : TA) : TE := fun σ H Q => t σ H fun vs H1 => ∀ x dx, H1 x = none → H1 dx = none → dx ≠ x → sp (.ref x :: (vs ++ dvs)) (upd (upd H1 dx (.own x)) x (.ins C dx [])) (fun v H2 => v = .non ∧ Q (.ref x) H2) (E σ)
theorem pe_makeSD {X : Cx} {CX : CXT} {k : Nat} {f C : Addr} {fd : FuncData} {ps : List Str} {sp : Sp} {dvs : List V} {ds : List Value} {E : L2.St → XK} {x : Str} {p pos : Pos} {e : Expr} {es : List Expr} {t : TA}
    (M : Mk X.K C f) (F : FnOk X.prog X.w X.K X.mg X.base CX k f fd ps sp) (hr : Room (k + 1) X.A) (hg : Gl X x) (hm : X.mg x = some (.ref C)) (hb : Binds X.K fd ps ds) (hd : Vals dvs ds) (hx : ∀ σ, PassesAt CX X σ (E σ)) (ha : PA X (e :: es) t)
    (hdb : (x == ("__debug__" : Str)) = false := by decide) (he : starEach (e :: es) X.env = (false, eval e X.env) :: starEach es X.env := by rfl) (hpl : (backTo pos (starEach es X.env)).any (·.1) = false := by rfl) :
    PE X (.Call (.Name x p) (e :: es) [] pos) (tMakeSD C sp dvs E t) := by
  refine ⟨fun pins s0 σ H Q I0 h => wpAny_Call_Name_kw (ld_glob I0 hg hm (PySem.W.callWith_K (h₀ := X.base) I0.ok.mod.kin M.kp (thn (ha.run pos pins s0 σ H _ I0 h) fun us s ⟨vs, H1, I, r, q⟩ => ⟨I.kIn, ?_⟩) he hpl) hdb)⟩
  have q0 := q (s.heap.objs.size + 1) s.heap.objs.size (I.hok.fresh (Nat.le_succ _)) (I.hok.fresh (Nat.le_refl _)) (Nat.ne_of_lt (Nat.lt_succ_self _))
  have J := Inv.made (C := C) I
  have rr : Vals (V.ref (s.heap.objs.size + 1) :: (vs ++ dvs)) (Value.ref (s.heap.objs.size + 1) :: (us ++ ds)) := .cons rfl (r.append hd)
  have ll : (Value.ref (s.heap.objs.size + 1) :: us ++ ds).length = ps.length := rr.length.symm.trans (F.len _ _ _ _ q0)
  refine wpAny_call (make_map (f := f) I.kIn M.makes M.init (beq_iff_eq.mp M.fn) (codeAny_mono (F.run _ X.stack _ _ ⟨Value.ref (s.heap.objs.size + 1) :: us, []⟩ (Value.ref (s.heap.objs.size + 1) :: (us ++ ds)) _ _ (E σ) (hr.make C us [])
    (J.env0.make C us []) (hb _ (Value.ref (s.heap.objs.size + 1) :: us) J.kIn ll) rr q0) fun res s' hq => ?_))
  rcases res with er | fl
  · exact hx σ pins _ _ er s' J hq
  · cases fl with
    | ret u =>
      obtain ⟨v, H', J', rv, ev, q3⟩ := J.after hq
      subst ev
      exact ⟨rv, ⟨V.ref (s.heap.objs.size + 1), H', J', rfl, q3⟩⟩
    | next => exact hq.elim
    | brk => exact hq.elim
    | cont => exact hq.elim
theorem r_makeSD {C : Addr} {sp : Sp} {dvs : List V} {E : L2.St → XK} {t : TA} {σ : L2.St} {H : Hp} {Q : V → Hp → Prop} (h : t σ H fun vs H1 => ∀ x dx, H1 x = none → H1 dx = none → dx ≠ x → sp (.ref x :: (vs ++ dvs)) (upd (upd H1 dx (.own x)) x (.ins C dx [])) (fun v H2 => v = .non ∧ Q (.ref x) H2) (E σ)) : tMakeSD C sp dvs E t σ H Q := h
theorem r_callSD {sp : Sp} {dvs : List V} {E : L2.St → XK} {t : TA} {σ : L2.St} {H : Hp} {Q : V → Hp → Prop} (h : t σ H fun vs H1 => sp (vs ++ dvs) H1 Q (E σ)) : tCallSD sp dvs E t σ H Q := h
def tMethSD (C : Addr) (m : Str) (sp : Sp) (dvs : List V) (E : L2.St → XK) (ta : TE) (t : TA) : TE := fun σ H Q => ta σ H fun x H1 => ∃ a dx fs, x = .ref a ∧ H1 a = some (.ins C dx fs) ∧ fs.lookup m = none ∧ t σ H1 fun vs H2 => sp (x :: (vs ++ dvs)) H2 Q (E σ)
theorem pe_methSD {X : Cx} {CX : CXT} {k : Nat} {f C : Addr} {fd : FuncData} {ps : List Str} {sp : Sp} {dvs : List V} {ds : List Value} {E : L2.St → XK} {o e : Expr} {m : Str} {apos pos : Pos} {es : List Expr} {ta : TE} {t : TA} {pl : Sem Bool}
    (he : PE X o ta) (c : Cls X.K C) (hm : Meth X.K C m f) (F : FnOk X.prog X.w X.K X.mg X.base CX k f fd ps sp) (hr : Room k X.A) (hb : Binds X.K fd ps ds) (hd : Vals dvs ds) (hx : ∀ σ, PassesAt CX X σ (E σ)) (ha : PA X (e :: es) t)
    (hst : starEach (e :: es) X.env = (false, eval e X.env) :: starEach es X.env := by rfl) (hpl : (backTo pos (starEach es X.env)).any (·.1) = false := by rfl)
    (ht : eval (.Call (.Attribute o m apos) (e :: es) [] pos) X.env = (do
      let ov ← eval o X.env
      standAt apos.atName
      let (f, first) ← holding [ov] (getMethod ov m pl)
      callWith pos f first (backTo pos (starEach (e :: es) X.env)) (backToKw pos (keywordEach [] X.env))) := by rfl) :
    PE X (.Call (.Attribute o m apos) (e :: es) [] pos) (tMethSD C m sp dvs E ta t) := by
  refine ⟨fun pins s σ H Q I h => PySem.W.methodCall_KW (pl := pl) (thn (he.run pins s σ H _ I h) fun u s1 ⟨x, H1, I1, rx, a, dx, fs, ex, ea, l, q⟩ => ?_) ht⟩
  subst ex
  obtain rfl : u = Value.ref a := rx
  exact getmeth_ok I1 ea c hm l (PySem.W.callWith_K (first := [.ref a]) (h₀ := X.base) I1.ok.mod.kin hm.kp (thn (ha.run pos pins s1 σ H1 _ I1 q) fun us s2 ⟨vs, H2, I2, r, q2⟩ => ⟨I2.kIn, run_fnSD (us := .ref a :: us) (vs := .ref a :: vs) F hr hb hd (hx σ) I2 (.cons rfl r) q2⟩) hst hpl)
def kMethSD (C : Addr) (m : Str) (sp : Sp) (dvs : List V) (E : L2.St → XK) (σ : L2.St) (t : TA) (Q : V → Hp → Prop) : V → Hp → Prop := fun x H1 => ∃ a dx fs, x = .ref a ∧ H1 a = some (.ins C dx fs) ∧ fs.lookup m = none ∧ t σ H1 fun vs H2 => sp (x :: (vs ++ dvs)) H2 Q (E σ)
theorem r_methSD {C : Addr} {m : Str} {sp : Sp} {dvs : List V} {E : L2.St → XK} {ta : TE} {t : TA} {σ : L2.St} {H : Hp} {Q : V → Hp → Prop} (h : ta σ H (kMethSD C m sp dvs E σ t Q)) : tMethSD C m sp dvs E ta t σ H Q := h
theorem r_kmethSD {C a dx : Addr} {fs : List (Str × V)} {m : Str} {sp : Sp} {dvs : List V} {E : L2.St → XK} {t : TA} {σ : L2.St} {H : Hp} {Q : V → Hp → Prop} (h : H a = some (.ins C dx fs)) (hl : fs.lookup m = none) (q : t σ H fun vs H2 => sp (.ref a :: (vs ++ dvs)) H2 Q (E σ)) : kMethSD C m sp dvs E σ t Q (.ref a) H := ⟨a, dx, fs, rfl, h, hl, q⟩
/-- raise X('..') -/
def tRz (C : Addr) (E : XK) : TS := fun _ _ H => E (.ref C) none H
theorem ps_rz {X : Cx} {C : Addr} {E : XK} {bmB : List Value} {B newId initId : String} {x m : Str} {j : Nat} {p p2 pos pos2 : Pos} (hc : X.calm = true) (tk : Takes X (fun cls d _ H => E cls d H)) (F : ExcBaseFacts B newId initId bmB) (q : PySem.W.excIn X.K C bmB newId = true)
    (gC : X.mg x = some (.ref C)) (kC : PySem.W.keepIn X.K (.ref C) = true) (r : Raises X (.ref C)) (hg : Gl X x) (hdb : (x == ("__debug__" : Str)) = false := by decide) :
    PS X (.Raise (some (.Call (.Name x p) [.Constant (.str m) j p2] [] pos)) none pos2) (tRz C E) := ps_raise hc tk (pmk_own F q gC kC r hg hdb)
theorem r_rz {C : Addr} {E : XK} {D : Ends} {σ : L2.St} {H : Hp} (h : E (.ref C) none H) : tRz C E D σ H := h
/-- try: .. except S as n: .. -/
def tTryA (K : PySem.W.Frag) (c : Value) (i : Nat) (tb : WX → TS) (ts : Addr → Value → Option Addr → TS) (Wout : WX) : TS := fun D σ H => tb (wAs K c i ts Wout D) D σ H
theorem ps_tryA {X : Cx} {x n : Str} {c : Value} {i : Nat} {body suite : List Stmt} {b₀ : Stmt} {np pos pos' : Pos} {tb : WX → TS} {ts : Addr → Value → Option Addr → TS} {Wout : WX} (hs : X.stack = X.env :: X.outer) (hf : X.env.frame = some X.env.locals) (hN : X.N.Nodup) (hi : X.N[i]? = some n)
    (hln : X.env.kindOf n = some .local) (hc : Names X x c) (tk : Takes X Wout)
    (hb : ∀ (W : WX) (pn : List (Addr × Obj)) (xe : Value → Shared → Prop), Takes (X.tr pn xe) W → PassesOwn (model X.prog X.w) X.A X.env xe → PSs (X.tr pn xe) body (tb W))
    (hsu : ∀ (a : Addr) (oe : Obj) (cls : Value) (d : Option Addr) (pn : List (Addr × Obj)), Zc cls d oe → (∃ vs, oe.data = .fields vs) → PSs (X.suite a ((a, oe) :: pn)) (b₀ :: suite) (ts a cls d)) :
    PS X (.Try body [.ExceptHandler (some (.Name x np)) (some n) (b₀ :: suite) pos'] [] [] pos) (tTryA X.K c i tb ts Wout) := ps_try_as hs hf hN hi hln hc tk hb hsu
theorem r_tryA {K : PySem.W.Frag} {c : Value} {i : Nat} {tb : WX → TS} {ts : Addr → Value → Option Addr → TS} {Wout : WX} {D : Ends} {σ : L2.St} {H : Hp} (h : tb (wAs K c i ts Wout D) D σ H) : tTryA K c i tb ts Wout D σ H := h
/-- what the suite is asked of an own exception without fields -/
theorem wAs_own {K : PySem.W.Frag} {c : Value} {i : Nat} {ts : Addr → Value → Option Addr → TS} {Wout : WX} {D : Ends} {C : Addr} {σ : L2.St} {H : Hp} (e : PySem.W.exmOne K (.ref C) c = some true)
    (h : ∀ a, H a = none → ts a (.ref C) none { nx := fun σ' H' => D.nx (σ'.set i none) H', rt := D.rt, bk := fun σ' H' => D.bk (σ'.set i none) H', ct := fun σ' H' => D.ct (σ'.set i none) H' } (σ.set i (some (.ref a))) H) : wAs K c i ts Wout D (.ref C) none σ H :=
  ⟨true, e, fun _ => h, fun z => nomatch z⟩
/-- isinstance(e, c) within the suite, its class told by the reading -/
def rIsX (K : PySem.W.Frag) (a : Addr) (cls : Value) (d : Option Addr) : List V → Hp → VK → Prop := fun xs H Q => ∃ (D : Addr) (c : V) (cv : Value) (b : Bool), cls = .ref D ∧ d = none ∧ ExcC K D ∧ xs = [.ref a, c] ∧ (∀ u, RelV c u → u = cv) ∧ PySem.W.kitOne K (.ref D) cv = some b ∧ Q (.bl b) H
theorem call_isX {X : Cx} {a : Addr} {cls : Value} {d : Option Addr} {oe : Obj} {pn : List (Addr × Obj)} (hz : Zc cls d oe) (hf : ∃ vs, oe.data = .fields vs) : CallR (X.suite a ((a, oe) :: pn)) (.builtin "isinstance") (rIsX X.K a cls d) := by
  intro pins s σ H xs us Q I r h
  obtain ⟨D, c, cv, b, rfl, rfl, hE, e1, e2, e3, q⟩ := h
  exact call_isE hE hz hf pins s σ H xs us Q I r ⟨c, cv, b, e1, e2, e3, q⟩
theorem r_isXc {K : PySem.W.Frag} {a D C : Addr} {b : Bool} {H : Hp} {Q : V → Hp → Prop} (hE : ExcC K D) (hk : PySem.W.kitOne K (.ref D) (.ref C) = some b) (q : Q (.bl b) H) : rIsX K a (.ref D) none [.ref a, .ref C] H Q := ⟨D, _, _, b, rfl, rfl, hE, rfl, fun _ r => r, hk, q⟩
theorem r_isXt {K : PySem.W.Frag} {a D : Addr} {t : String} {b : Bool} {H : Hp} {Q : V → Hp → Prop} (hE : ExcC K D) (hk : PySem.W.kitOne K (.ref D) (.type t) = some b) (q : Q (.bl b) H) : rIsX K a (.ref D) none [.ref a, .ty t] H Q := ⟨D, _, _, b, rfl, rfl, hE, rfl, fun _ r => r, hk, q⟩
/-- isinstance against an own class, and a built-in one -/
theorem kit_own {K : PySem.W.Frag} {t : Value} {C : Addr} {b : Bool} (hd : PySem.W.hasDictIn K C = true) (ht : PySem.W.typeIn K (.ref C) = some (.type "type")) (hs : PySem.W.subIn K t (.ref C) = some b) (hn : b = true ∨ (t == .ref C) = false) : PySem.W.kitOne K t (.ref C) = some b := by
  obtain ⟨cd, hc, _⟩ := PySem.W.any_some hd
  unfold PySem.W.kitOne PySem.W.kitCls
  cases e : (t == Value.ref C) with
  | true =>
    rcases hn with rfl | h
    · rfl
    · rw [e] at h; cases h
  | false =>
    rw [if_neg Bool.false_ne_true]
    dsimp only
    rw [hc, ht]
    exact hs
theorem kit_blt {K : PySem.W.Frag} {C : Addr} {T : String} {b : Bool} (hk : PySem.W.kitMeta T = true) (hs : PySem.W.subIn K (.ref C) (.type T) = some b) : PySem.W.kitOne K (.ref C) (.type T) = some b := by
  unfold PySem.W.kitOne PySem.W.kitCls
  rw [if_neg (by intro z; cases z)]
  dsimp only
  rw [if_pos hk]
  exact hs

def sp_parts_of : Sp := fun vs H Q _ => ∃ n s : Int, vs = [.int n, .int s] ∧ 0 < s ∧ s < 1000000000000000000 ∧ Q (.int ((n + s - 1) / s)) H
theorem ok_parts_of (T : Txt K mg) : FnOk P w K mg base CX0 1 T.a_parts_of T.fd_parts_of ["number", "size"] sp_parts_of := by
  refine T.F_parts_of.ok sc_parts_of (fun vs H Q E h => ?_) (fun cdv A outer s H vs Q E hr h => ?_)
  · obtain ⟨n, s, rfl, _⟩ := h
    rfl
  · refine ⟨_, (pss_one (ps_ret (pe_op op_fdivW (pe_op op_sub (pe_op op_add (pv 0) (pv 1)) pe_int) (pv 1)))), ?_⟩
    try dsimp only [cxOf, Cx.nox, Cx.wish]
    obtain ⟨n, s, rfl, h1, h2, q⟩ := h
    walk_at "rd"
    refine ⟨_, _, rfl, rfl, wide_div (b := 64) h1 (by omega) (by decide) (by decide), ?_⟩
    exact q
/-! ### layouts -/
/-- the numbers of a layout -/
structure Lay where
  seg : Int
  blk : Int
  size : Int
  pay : Int
  lim : Int
  last : Int
  fan : Int
  reg : Int
  dev : Int
def layOf (s b z : Int) : Lay := ⟨s, b, z, b - 1, (s - 2) * (b - 1), (s - 2) * (b - 1) + (b - 1), z / 2, (2 * (4 * ((s - 2) * (b - 1) + (b - 1)) + 6 + s) + z - 1) / z, 2 * ((2 * (4 * ((s - 2) * (b - 1) + (b - 1)) + 6 + s) + z - 1) / z) + s * b⟩
/-- three sizes that a layout can have -/
structure Fits (s b z : Int) : Prop where
  s0 : 4 ≤ s
  s1 : s ≤ 16
  b0 : 16 ≤ b
  b1 : b ≤ 32
  zz : z = 64 ∨ z = 128 ∨ z = 256
  fit : 16 + 2 * (b - 1) + ((s - 2) * (b - 1) + (b - 1) + 8 - 1) / 8 ≤ z
/-- the fields of a layout -/
structure LayFs (L : Lay) (fs : List (Str × V)) : Prop where
  seg : fs.lookup ("segments" : Str) = some (V.int L.seg)
  blk : fs.lookup ("segment_blocks" : Str) = some (V.int L.blk)
  size : fs.lookup ("block_size" : Str) = some (V.int L.size)
  pay : fs.lookup ("payload" : Str) = some (V.int L.pay)
  lim : fs.lookup ("limit" : Str) = some (V.int L.lim)
  last : fs.lookup ("last_id" : Str) = some (V.int L.last)
  fan : fs.lookup ("fan" : Str) = some (V.int L.fan)
  reg : fs.lookup ("region_blocks" : Str) = some (V.int L.reg)
  dev : fs.lookup ("device_blocks" : Str) = some (V.int L.dev)
def LayAt (C : Addr) (L : Lay) (H : Hp) (p : Addr) : Prop := ∃ dx fs, H p = some (.ins C dx fs) ∧ LayFs L fs
theorem LayAt.mono {C : Addr} {L : Lay} {H H' : Hp} {p : Addr} (s : Same H H') (h : LayAt C L H p) : LayAt C L H' p := by
  obtain ⟨dx, fs, h1, h2⟩ := h
  exact ⟨dx, fs, s _ _ h1, h2⟩

theorem keep1 {H H1 H' : Hp} {p : Addr} {o : HO} (h : ∀ q, q ≠ p → H1 q = H q) (e : upd H1 p o = H') : ∀ q, q ≠ p → H' q = H q := fun q hq => by
  rw [← e, upd_ne hq]
  exact h q hq
theorem in_sizesX (z : Int) : (!inV (V.int z) [V.int 64, V.int 128, V.int 256]) = !decide (z = 64 ∨ z = 128 ∨ z = 256) := by
  rw [show [V.int 64, V.int 128, V.int 256] = ([64, 128, 256] : List Int).map V.int from rfl, inV_ints]
  simp
/-- a layout is made, or refused -/
def sp_layoutX (C AF : Addr) : Sp := fun vs H Q E => ∃ (p dx : Addr) (s b z : Int), vs = [.ref p, .int s, .int b, .int z] ∧ H p = some (.ins C dx []) ∧
  (Fits s b z → ∀ H' fs, (∀ q, q ≠ p → H' q = H q) → H' p = some (.ins C dx fs) → LayFs (layOf s b z) fs → Q .non H') ∧ (¬ Fits s b z → ∀ H', (∀ q, q ≠ p → H' q = H q) → E (.ref AF) none H')
theorem ok_Layout___init (T : Txt K mg) : FnOk P w K mg base (L2.CX P w) 2 T.a_Layout___init T.fd_Layout___init ["self", "segments", "segment_blocks", "block_size"] (sp_layoutX T.A_Layout T.A_InvalidFormat) := by
  refine T.F_Layout___init.okX sc_Layout___init (fun vs H Q E h => ?_) (fun cdv A outer s H vs Q E hr h => ?_)
  · obtain ⟨p, dx, s, b, z, rfl, _⟩ := h
    rfl
  · refine ⟨_, (pss_cons (ps_if (pt_not (pt_chain op_le op_le pe_int (pv 1) pe_int))
       (pss_one (ps_rz rfl (takes_of rfl rfl rfl rfl) PySem.F.excBase_ValueError T.x_InvalidFormat T.m_InvalidFormat T.k_InvalidFormat (raises_own T.b_InvalidFormat T.t_InvalidFormat) (by rfl)))
       pss_nil)
       (pss_cons (ps_if (pt_not (pt_chain op_le op_le pe_int (pv 2) pe_int))
       (pss_one (ps_rz rfl (takes_of rfl rfl rfl rfl) PySem.F.excBase_ValueError T.x_InvalidFormat T.m_InvalidFormat T.k_InvalidFormat (raises_own T.b_InvalidFormat T.t_InvalidFormat) (by rfl)))
       pss_nil)
       (pss_cons (ps_if (pt_cmpR op_notIn_seq (pv 3) (pe_glob rfl T.c_BLOCK_SIZES T.r_BLOCK_SIZES) (by with_unfolding_all rfl))
       (pss_one (ps_rz rfl (takes_of rfl rfl rfl rfl) PySem.F.excBase_ValueError T.x_InvalidFormat T.m_InvalidFormat T.k_InvalidFormat (raises_own T.b_InvalidFormat T.t_InvalidFormat) (by rfl)))
       pss_nil)
       (pss_cons (ps_fld (pv 0) (pv 1) rfl)
       (pss_cons (ps_fld (pv 0) (pv 2) rfl)
       (pss_cons (ps_fld (pv 0) (pv 3) rfl)
       (pss_cons (ps_fld (pv 0) (pe_op op_sub (pv 2) pe_int) rfl)
       (pss_cons (ps_fld (pv 0) (pe_op op_mul (pe_op op_sub (pv 1) pe_int) (pe_fld (pv 0) rfl)) rfl)
       (pss_cons (ps_fld (pv 0) (pe_op op_add (pe_fld (pv 0) rfl) (pe_fld (pv 0) rfl)) rfl)
       (pss_cons (ps_fld (pv 0) (pe_op op_fdiv (pv 3) pe_int) rfl)
       (pss_cons (ps_fld (pv 0) (pe_call (ok_parts_of T) (hr.mono (by decide)) rfl T.m_parts_of T.F_parts_of.kp T.b_parts_of .nil pass0 (pa_cons (pe_op op_mul pe_int (pe_op op_add (pe_op op_add (pe_op op_mul pe_int (pe_fld (pv 0) rfl)) pe_int) (pv 1))) (pa_cons (pv 3) pa_nil))) rfl)
       (pss_cons (ps_fld (pv 0) (pe_op op_add (pe_op op_mul pe_int (pe_fld (pv 0) rfl)) (pe_op op_mul (pv 1) (pv 2))) rfl)
       (pss_one (ps_if (pt_cmpR op_gt (pe_op op_add (pe_op op_add (pe_glob rfl T.c_SUMMARY_HEAD T.r_SUMMARY_HEAD) (pe_op op_mul pe_int (pe_fld (pv 0) rfl))) (pe_call (ok_parts_of T) (hr.mono (by decide)) rfl T.m_parts_of T.F_parts_of.kp T.b_parts_of .nil pass0 (pa_cons (pe_fld (pv 0) rfl) (pa_cons pe_int pa_nil)))) (pv 3) (nomark _))
       (pss_one (ps_rz rfl (takes_of rfl rfl rfl rfl) PySem.F.excBase_ValueError T.x_InvalidFormat T.m_InvalidFormat T.k_InvalidFormat (raises_own T.b_InvalidFormat T.t_InvalidFormat) (by rfl)))
       pss_nil)))))))))))))), ?_⟩
    try dsimp only [cxOf, Cx.nox, Cx.wish]
    obtain ⟨p, dx, s, b, z, rfl, hp, q1, q2⟩ := h
    have cl := T.cl_Layout
    have na1 := T.na_Layout_segments
    have na2 := T.na_Layout_segment_blocks
    have na3 := T.na_Layout_block_size
    have na4 := T.na_Layout_payload
    have na5 := T.na_Layout_limit
    have na6 := T.na_Layout_last_id
    have na7 := T.na_Layout_fan
    have na8 := T.na_Layout_region_blocks
    have na9 := T.na_Layout_device_blocks
    by_cases hs : ¬ (4 ≤ s ∧ s ≤ 16)
    · have bad := q2 (fun F => hs ⟨F.s0, F.s1⟩) H (fun _ _ => rfl)
      by_cases h4 : 4 ≤ s
      · have h16 : ¬ s ≤ 16 := fun h => hs ⟨h4, h⟩
        walk_at "rdo"
        exact r_rz bad
      · walk_at "rdo"
        exact r_rz bad
    obtain ⟨s0, s1⟩ := Classical.not_not.mp hs
    by_cases hb : ¬ (16 ≤ b ∧ b ≤ 32)
    · have bad := q2 (fun F => hb ⟨F.b0, F.b1⟩) H (fun _ _ => rfl)
      by_cases h4 : 16 ≤ b
      · have h16 : ¬ b ≤ 32 := fun h => hb ⟨h4, h⟩
        walk_at "rdo"
        exact r_rz bad
      · walk_at "rdo"
        exact r_rz bad
    obtain ⟨b0, b1⟩ := Classical.not_not.mp hb
    walk_at "rdo"
    refine r_in (.inr (T.v_BLOCK_SIZES _)) rfl rfl ?_
    walk_at "rd"
    by_cases hz : ¬ (z = 64 ∨ z = 128 ∨ z = 256)
    · refine r_iteb (by show (!inV _ _) = true; rw [in_sizesX, decide_eq_false hz]; rfl) ?_
      exact r_rz (q2 (fun F => hz F.zz) _ (fun _ _ => rfl))
    have hz := Classical.not_not.mp hz
    refine r_iteB (by show (!inV _ _) = false; rw [in_sizesX, decide_eq_true hz]; rfl) ?_
    walk_at "rdo"
    refine ⟨_, _, rfl, by omega, by omega, ?_⟩
    walk_at "rdo"
    refine ⟨_, _, rfl, by omega, by omega, ?_⟩
    walk_at "rd"
    refine r_ite (fun hf => ?_) (fun hf => ?_)
    · refine r_rz (q2 (fun F => ?_) _ ?kk)
      case kk =>
        repeat (refine keep1 ?_ (by assumption))
        exact fun _ _ => rfl
      have := F.fit
      omega
    · walk_at "rd"
      refine q1 ⟨s0, s1, b0, b1, hz, by omega⟩ _ _ ?kk (by walk_at "hp") ⟨by walk_at "lk", by walk_at "lk", by walk_at "lk", by walk_at "lk", by walk_at "lk", by walk_at "lk", by walk_at "lk", by walk_at "lk", by walk_at "lk"⟩
      case kk =>
        repeat (refine keep1 ?_ (by assumption))
        exact fun _ _ => rfl

def sp_addr (C : Addr) : Sp := fun vs H Q _ => ∃ (p : Addr) (L : Lay) (g c : Int), vs = [.ref p, .int g, .int c] ∧ LayAt C L H p ∧ 0 ≤ g ∧ g ≤ 1000 ∧ Q (.int (2 * L.reg + g * L.blk + c)) H
theorem ok_address_at (T : Txt K mg) : FnOk P w K mg base CX0 1 T.a_address_at T.fd_address_at ["layout", "segment", "place"] (sp_addr T.A_Layout) := by
  refine T.F_address_at.ok sc_address_at (fun vs H Q E h => ?_) (fun cdv A outer s H vs Q E hr h => ?_)
  · obtain ⟨p, L, g, c, rfl, _⟩ := h
    rfl
  · refine ⟨_, (pss_one (ps_ret (pe_op op_add (pe_op op_add (pe_op op_mul pe_int (pe_fld (pv 0) rfl)) (pe_op op_mul (pv 1) (pe_fld (pv 0) rfl))) (pv 2)))), ?_⟩
    try dsimp only [cxOf, Cx.nox, Cx.wish]
    obtain ⟨p, L, g, c, rfl, ⟨dx, fs, hp, F⟩, g0, g1, q⟩ := h
    have cl := T.cl_Layout
    have na2 := T.na_Layout_segment_blocks
    have na8 := T.na_Layout_region_blocks
    have l1 := F.reg
    have l2 := F.blk
    walk_at "rd"
    exact q
def inSeg (L : Lay) (a : Int) : Prop := 2 * L.reg ≤ a ∧ a < L.dev
def sp_segof (C : Addr) : Sp := fun vs H Q _ => ∃ (p : Addr) (L : Lay) (a : Int), vs = [.ref p, .int a] ∧ LayAt C L H p ∧ 0 < L.blk ∧ L.blk ≤ 1000 ∧ (inSeg L a → Q (.int ((a - 2 * L.reg) / L.blk)) H) ∧ (¬ inSeg L a → Q .non H)
theorem ok_segment_of (T : Txt K mg) : FnOk P w K mg base CX0 1 T.a_segment_of T.fd_segment_of ["layout", "address"] (sp_segof T.A_Layout) := by
  refine T.F_segment_of.ok sc_segment_of (fun vs H Q E h => ?_) (fun cdv A outer s H vs Q E hr h => ?_)
  · obtain ⟨p, L, a, rfl, _⟩ := h
    rfl
  · refine ⟨_, (pss_cons (ps_set (i := 2) sc_segment_of.nd rfl (Or.inl rfl) (pe_op op_mul pe_int (pe_fld (pv 0) rfl)))
       (pss_cons (ps_if (pt_not (pt_chain op_le op_lt (pv 2) (pv 1) (pe_fld (pv 0) rfl)))
       (pss_one (ps_ret pe_non))
       pss_nil)
       (pss_one (ps_ret (pe_op op_fdiv (pe_op op_sub (pv 1) (pv 2)) (pe_fld (pv 0) rfl)))))), ?_⟩
    try dsimp only [cxOf, Cx.nox, Cx.wish]
    obtain ⟨p, L, a, rfl, ⟨dx, fs, hp, F⟩, b0, b1, q1, q2⟩ := h
    have cl := T.cl_Layout
    have na2 := T.na_Layout_segment_blocks
    have na8 := T.na_Layout_region_blocks
    have na9 := T.na_Layout_device_blocks
    have l1 := F.reg
    have l2 := F.blk
    have l3 := F.dev
    by_cases h1 : 2 * L.reg ≤ a
    · by_cases h2 : a < L.dev
      · walk_at "rdo"
        exact q1 ⟨h1, h2⟩
      · walk_at "rdo"
        exact q2 (fun z => h2 z.2)
    · walk_at "rdo"
      exact q2 (fun z => h1 z.1)
def sp_plof (C : Addr) : Sp := fun vs H Q _ => ∃ (p : Addr) (L : Lay) (a : Int), vs = [.ref p, .int a] ∧ LayAt C L H p ∧ 0 < L.blk ∧ L.blk ≤ 1000 ∧ (inSeg L a → Q (.int ((a - 2 * L.reg) % L.blk)) H) ∧ (¬ inSeg L a → Q .non H)
theorem ok_place_of (T : Txt K mg) : FnOk P w K mg base CX0 1 T.a_place_of T.fd_place_of ["layout", "address"] (sp_plof T.A_Layout) := by
  refine T.F_place_of.ok sc_place_of (fun vs H Q E h => ?_) (fun cdv A outer s H vs Q E hr h => ?_)
  · obtain ⟨p, L, a, rfl, _⟩ := h
    rfl
  · refine ⟨_, (pss_cons (ps_set (i := 2) sc_place_of.nd rfl (Or.inl rfl) (pe_op op_mul pe_int (pe_fld (pv 0) rfl)))
       (pss_cons (ps_if (pt_not (pt_chain op_le op_lt (pv 2) (pv 1) (pe_fld (pv 0) rfl)))
       (pss_one (ps_ret pe_non))
       pss_nil)
       (pss_one (ps_ret (pe_op op_mod (pe_op op_sub (pv 1) (pv 2)) (pe_fld (pv 0) rfl)))))), ?_⟩
    try dsimp only [cxOf, Cx.nox, Cx.wish]
    obtain ⟨p, L, a, rfl, ⟨dx, fs, hp, F⟩, b0, b1, q1, q2⟩ := h
    have cl := T.cl_Layout
    have na2 := T.na_Layout_segment_blocks
    have na8 := T.na_Layout_region_blocks
    have na9 := T.na_Layout_device_blocks
    have l1 := F.reg
    have l2 := F.blk
    have l3 := F.dev
    by_cases h1 : 2 * L.reg ≤ a
    · by_cases h2 : a < L.dev
      · walk_at "rdo"
        rename_i z hz _ _
        rw [hz]
        exact q1 ⟨h1, h2⟩
      · walk_at "rdo"
        exact q2 (fun z => h2 z.2)
    · walk_at "rdo"
      exact q2 (fun z => h1 z.1)
def sp_rstart (C : Addr) : Sp := fun vs H Q _ => ∃ (p : Addr) (L : Lay) (r : Int), vs = [.ref p, .int r] ∧ LayAt C L H p ∧ 0 ≤ r ∧ r ≤ 1000 ∧ Q (.int (r * L.reg)) H
theorem ok_region_start (T : Txt K mg) : FnOk P w K mg base CX0 1 T.a_region_start T.fd_region_start ["layout", "region"] (sp_rstart T.A_Layout) := by
  refine T.F_region_start.ok sc_region_start (fun vs H Q E h => ?_) (fun cdv A outer s H vs Q E hr h => ?_)
  · obtain ⟨p, L, a, rfl, _⟩ := h
    rfl
  · refine ⟨_, (pss_one (ps_ret (pe_op op_mul (pv 1) (pe_fld (pv 0) rfl)))), ?_⟩
    try dsimp only [cxOf, Cx.nox, Cx.wish]
    obtain ⟨p, L, a, rfl, ⟨dx, fs, hp, F⟩, b0, b1, q⟩ := h
    have cl := T.cl_Layout
    have na8 := T.na_Layout_region_blocks
    have l1 := F.reg
    walk_at "rd"
    exact q
def sp_number (K : PySem.W.Frag) : Sp := fun vs H Q _ => ∃ (a : Addr) (ns : List Int) (k : Int), vs = [.ref a, .int k] ∧ SqL K H a (ns.map V.int) ∧ ns.length ≤ 63 ∧ 0 ≤ k ∧ k ≤ 1000 ∧ ∀ z : Int, 0 ≤ z → Q (.int z) H
theorem ok_law_number (T : Txt K mg) : FnOk P w K mg base CX0 1 T.a_law_number T.fd_law_number ["script", "k"] (sp_number K) := by
  refine T.F_law_number.ok sc_law_number (fun vs H Q E h => ?_) (fun cdv A outer s H vs Q E hr h => ?_)
  · obtain ⟨a, ns, k, rfl, _⟩ := h
    rfl
  · refine ⟨_, (pss_cons (ps_set (i := 2) sc_law_number.nd rfl (Or.inl rfl) pe_int)
       (C8.pss_cut (ps_if (pt_cmpR op_gt (pe_callB (c_len) (by rfl) T.n_len (by decide +kernel) (pa_cons (pv 0) pa_nil)) pe_int (nomark _))
       (pss_one (ps_set (i := 2) sc_law_number.nd rfl (Or.inl rfl) (pe_ix ix_list (pv 0) (pe_op op_mod (pe_callTy c_int (by rfl) T.n_int (by decide +kernel) (pa_cons (pv 1) pa_nil)) (pe_callB (c_len) (by rfl) T.n_len (by decide +kernel) (pa_cons (pv 0) pa_nil))) (fun _ _ => rfl))))
       pss_nil)
       (C8.pss_cut (ps_if (pt_cmpR op_lt (pv 2) pe_int (nomark _))
       (pss_one (ps_set (i := 2) sc_law_number.nd rfl (Or.inl rfl) (pe_op op_sub pe_int (pe_op op_mul pe_int (pv 2)))))
       pss_nil)
       (C8.pss_cut (ps_if (PW.pt (pw_and (pt_cmpR op_ge (pv 2) (pe_op op_pow pe_int pe_int) (nomark _)) (pw_and1 (pt_cmpR op_lt (pv 1) (pe_callB (c_len) (by rfl) T.n_len (by decide +kernel) (pa_cons (pv 0) pa_nil)) (nomark _)))))
       (pss_one (ps_ret (pv 2)))
       pss_nil)
       (pss_cons (ps_set (i := 3) sc_law_number.nd rfl (Or.inl rfl) (pe_op op_mod (pe_callTy c_int (by rfl) T.n_int (by decide +kernel) (pa_cons (pe_op op_add (pe_op op_mul (pe_op op_add (pv 2) pe_int) pe_int) (pe_op op_mul (pe_op op_add (pv 1) pe_int) pe_int)) pa_nil)) pe_int))
       (pss_cons (ps_set (i := 4) sc_law_number.nd rfl (Or.inl rfl) (pe_op op_mod (pe_callTy c_int (by rfl) T.n_int (by decide +kernel) (pa_cons (pe_op op_add (pe_op op_add (pe_op op_mul (pe_op op_add (pv 3) pe_int) pe_int) (pe_op op_mul (pe_op op_add (pv 2) pe_int) pe_int)) (pv 1)) pa_nil)) pe_int))
       (pss_one (ps_ret (pe_op op_mod (pe_callTy c_int (by rfl) T.n_int (by decide +kernel) (pa_cons (pe_op op_add (pe_op op_add (pe_op op_mul (pv 3) pe_int) (pe_op op_mul (pv 4) pe_int)) (pv 2)) pa_nil)) pe_int))))))))), ?_⟩
    try dsimp only [cxOf, Cx.nox, Cx.wish]
    obtain ⟨a, ns, k, rfl, hS, h63, k0, k1, q⟩ := h
    walk_at "rd"
    refine r_cut (fun σ' H' => ∃ z : Int, σ' = [some (.ref a), some (.int k), some (.int z), none, none] ∧ H = H') ?_ ?_
    · walk_at "rd"
      refine r_ite (fun hlen => ?_) (fun _ => ?_)
      · rw [List.length_map] at hlen
        walk_at "rd"
        rename_i z hz z0 z1
        rw [List.length_map] at z1
        refine r_ixl hS (at_ints z0 (by omega)) ?_
        walk_at "rd"
        exact ⟨_, rfl, rfl⟩
      · exact ⟨_, rfl, rfl⟩
    · rintro _ _ ⟨z, rfl, rfl⟩
      walk_at "rd"
      refine r_cut (fun σ' H' => ∃ z : Int, 0 ≤ z ∧ σ' = [some (.ref a), some (.int k), some (.int z), none, none] ∧ H = H') ?_ ?_
      · walk_at "rd"
        refine r_ite (fun _ => ?_) (fun _ => ?_)
        · walk_at "rd"
          exact ⟨_, by omega, rfl, rfl⟩
        · exact ⟨_, by omega, rfl, rfl⟩
      · rintro _ _ ⟨y, y0, rfl, rfl⟩
        walk_at "rd"
        refine r_cutS ?_ ?_
        · walk_at "rd"
          refine r_ite (fun _ => ?_) (fun _ => ?_)
          · walk_at "rd"
            refine r_ite (fun _ => ?_) (fun _ => ?_)
            · walk_at "rd"
              exact q _ y0
            · exact ⟨rfl, rfl⟩
          · walk_at "rd"
            exact ⟨rfl, rfl⟩
        · walk_at "rd"
          exact q _ (by omega)
def sp_take : Sp := fun vs H Q _ => ∃ (l : Addr) (n s : Int), vs = [.ref l, .int s] ∧ H l = some (.lst [.int n]) ∧ 0 < s ∧ s < 1073741824 ∧ ∀ (H' : Hp) (d n' : Int), upd H l (.lst [.int n']) = H' → 0 ≤ d → d < s → Q (.int d) H'
theorem ok_law_take (T : Txt K mg) : FnOk P w K mg base CX0 1 T.a_law_take T.fd_law_take ["box", "size"] sp_take := by
  refine T.F_law_take.ok sc_law_take (fun vs H Q E h => ?_) (fun cdv A outer s H vs Q E hr h => ?_)
  · obtain ⟨l, n, s, rfl, _⟩ := h
    rfl
  · refine ⟨_, (pss_cons (ps_set (i := 2) sc_law_take.nd rfl (Or.inl rfl) (pe_op op_mod (pe_callTy c_int (by rfl) T.n_int (by decide +kernel) (pa_cons (pe_ix ix_list (pv 0) pe_int (fun _ _ => rfl)) pa_nil)) (pv 1)))
       (pss_cons (ps_asg (pe_op op_fdiv (pe_ix ix_list (pv 0) pe_int (fun _ _ => rfl)) (pv 1)) (pg_sub (pv 0) pe_int set_list))
       (pss_one (ps_ret (pv 2))))), ?_⟩
    try dsimp only [cxOf, Cx.nox, Cx.wish]
    obtain ⟨l, n, s, rfl, hl, s0, s1, q⟩ := h
    walk_at "rd"
    rename_i z hz z0 z1
    refine r_setl hl (ixN_ok (by decide) (by show (0 : Int) < 1; decide)) ?_
    generalize hH : upd _ _ _ = H'
    walk_at "rd"
    exact q _ _ _ hH z0 z1
def sp_isnum : Sp := fun vs H Q _ => ∃ i : Int, vs = [.int i] ∧ Q (.bl true) H
theorem ok_law_is_number (T : Txt K mg) : FnOk P w K mg base CX0 1 T.a_law_is_number T.fd_law_is_number ["actual"] sp_isnum := by
  refine T.F_law_is_number.ok sc_law_is_number (fun vs H Q E h => ?_) (fun cdv A outer s H vs Q E hr h => ?_)
  · obtain ⟨i, rfl, _⟩ := h
    rfl
  · refine ⟨_, (pss_one (ps_ret (pe_and (pe_callB (call_isi) (by rfl) T.n_isinstance (by decide +kernel) (pa_cons (pv 0) (pa_cons (pe_bltn (v := .ty "int") (by rfl) T.n_int (by decide +kernel) rfl) pa_nil))) (pe_one (pe_not (pe_callB (call_isi) (by rfl) T.n_isinstance (by decide +kernel) (pa_cons (pv 0) (pa_cons (pe_bltn (v := .ty "bool") (by rfl) T.n_bool (by decide +kernel) rfl) pa_nil)))))))), ?_⟩
    try dsimp only [cxOf, Cx.nox, Cx.wish]
    obtain ⟨i, rfl, q⟩ := h
    walk_at "rd"
    exact q
def sp_same : Sp := fun vs H Q _ => ∃ v : V, vs = [v, v] ∧ (v = .non ∨ ∃ i : Int, v = .int i) ∧ Q (.bl true) H
theorem ok_law_same (T : Txt K mg) : FnOk P w K mg base CX0 2 T.a_law_same T.fd_law_same ["actual", "due"] sp_same := by
  refine T.F_law_same.ok sc_law_same (fun vs H Q E h => ?_) (fun cdv A outer s H vs Q E hr h => ?_)
  · obtain ⟨v, rfl, _⟩ := h
    rfl
  · refine ⟨_, (pss_cons (ps_if (pt_cmp (pc_isN (pv 1)) rfl)
       (pss_one (ps_ret (pe_cmp (pc_isN (pv 0)) rfl)))
       pss_nil)
       (pss_one (ps_ret (pe_and (pe_call (ok_law_is_number T) (hr.mono (by decide)) rfl T.m_law_is_number T.F_law_is_number.kp T.b_law_is_number .nil pass0 (pa_cons (pv 0) pa_nil)) (pe_one (pe_cmpR op_eq (pv 0) (pv 1) (nomark _))))))), ?_⟩
    try dsimp only [cxOf, Cx.nox, Cx.wish]
    obtain ⟨v, rfl, rfl | ⟨i, rfl⟩, q⟩ := h
    · walk_at "rd"
      exact q
    · walk_at "rd"
      refine ⟨_, rfl, ?_⟩
      walk_at "rd"
      rw [decide_eq_true rfl]
      exact q
theorem made_lay {C : Addr} {L : Lay} {H H1 : Hp} {x dx : Addr} {o : HO} {fs : List (Str × V)} (nx : H x = none) (nd : H dx = none) (k : ∀ q, q ≠ x → H1 q = upd (upd H dx (.own x)) x o q) (h : H1 x = some (.ins C dx fs)) (F : LayFs L fs) : Same H H1 ∧ LayAt C L H1 x := ⟨made_same nx nd k, _, _, h, F⟩
def sp_mk (C : Addr) : Sp := fun vs H Q _ => ∃ d : Int, vs = [.int d] ∧ ∀ (s b z : Int) (H' : Hp) (p : Addr), Fits s b z → Same H H' → H p = none → LayAt C (layOf s b z) H' p → Q (.ref p) H'
theorem small_fits : Fits 4 16 64 := ⟨by decide, by decide, by decide, by decide, .inl rfl, by decide⟩
theorem ok_law_layout (T : Txt K mg) : FnOk P w K mg base CX0 4 T.a_law_layout T.fd_law_layout ["digit"] (sp_mk T.A_Layout) := by
  refine T.F_law_layout.ok sc_law_layout (fun vs H Q E h => ?_) (fun cdv A outer s H vs Q E hr h => ?_)
  · obtain ⟨d, rfl, _⟩ := h
    rfl
  · refine ⟨_, (pss_cons (ps_set (i := 1) sc_law_layout.nd rfl (Or.inl rfl) (pe_lst (pa_cons (pe_tup (pa_cons pe_int (pa_cons pe_int (pa_cons pe_int pa_nil)))) (pa_cons (pe_tup (pa_cons pe_int (pa_cons pe_int (pa_cons pe_int pa_nil)))) (pa_cons (pe_tup (pa_cons pe_int (pa_cons pe_int (pa_cons pe_int pa_nil)))) (pa_cons (pe_tup (pa_cons pe_int (pa_cons pe_int (pa_cons pe_int pa_nil)))) (pa_cons (pe_tup (pa_cons pe_int (pa_cons pe_int (pa_cons pe_int pa_nil)))) (pa_cons (pe_tup (pa_cons pe_int (pa_cons pe_int (pa_cons pe_int pa_nil)))) (pa_cons (pe_tup (pa_cons pe_int (pa_cons pe_int (pa_cons pe_int pa_nil)))) (pa_cons (pe_tup (pa_cons pe_int (pa_cons pe_int (pa_cons pe_int pa_nil)))) pa_nil))))))))))
       (pss_cons (ps_set (i := 2) sc_law_layout.nd rfl (Or.inl rfl) (pe_ix ix_list (pv 1) (pe_op op_mod (pe_callTy c_int (by rfl) T.n_int (by decide +kernel) (pa_cons (pv 0) pa_nil)) pe_int) (fun _ _ => rfl)))
       (pss_one (ps_ret (pe_make T.M_Layout (ok_Layout___init T) (hr.mono (by decide)) rfl T.m_Layout T.b_Layout___init .nil passL (pa_cons (pe_ix ix_tup (pv 2) pe_int (fun _ _ => rfl)) (pa_cons (pe_ix ix_tup (pv 2) pe_int (fun _ _ => rfl)) (pa_cons (pe_ix ix_tup (pv 2) pe_int (fun _ _ => rfl)) pa_nil)))))))), ?_⟩
    try dsimp only [cxOf, Cx.nox, Cx.wish]
    obtain ⟨d, rfl, q⟩ := h
    walk_at "rd"
    rename_i t0 m0 H0 s0 h0 t1 m1 H1 s1 h1 t2 m2 H2 s2 h2 t3 m3 H3 s3 h3 t4 m4 H4 s4 h4 t5 m5 H5 s5 h5 t6 m6 H6 s6 h6 t7 m7 H7 s7 h7 l nl H8 s8 h8 y hy y0 y1
    have g0 : SqT K H8 t0 [.int 4, .int 16, .int 64] := by walk_at "hp"
    have g1 : SqT K H8 t1 [.int 5, .int 16, .int 64] := by walk_at "hp"
    have g2 : SqT K H8 t2 [.int 4, .int 17, .int 64] := by walk_at "hp"
    have g3 : SqT K H8 t3 [.int 4, .int 16, .int 128] := by walk_at "hp"
    have g4 : SqT K H8 t4 [.int 6, .int 20, .int 128] := by walk_at "hp"
    have g5 : SqT K H8 t5 [.int 4, .int 32, .int 128] := by walk_at "hp"
    have g6 : SqT K H8 t6 [.int 8, .int 16, .int 64] := by walk_at "hp"
    have g7 : SqT K H8 t7 [.int 5, .int 31, .int 256] := by walk_at "hp"
    have S : Same H H8 := by walk_at "sm"
    clear h0 h1 h2 h3 h4 h5 h6 h7 s0 s1 s2 s3 s4 s5 s6 s7 s8 m0 m1 m2 m3 m4 m5 m6 m7 nl
    obtain ⟨t, s, b, z, ht, e, hF⟩ : ∃ (t : Addr) (s b z : Int), SqT K H8 t [.int s, .int b, .int z] ∧ atI [V.ref t0, .ref t1, .ref t2, .ref t3, .ref t4, .ref t5, .ref t6, .ref t7] y = some (.ref t) ∧ Fits s b z := by
      rcases (by omega : y = 0 ∨ y = 1 ∨ y = 2 ∨ y = 3 ∨ y = 4 ∨ y = 5 ∨ y = 6 ∨ y = 7) with rfl | rfl | rfl | rfl | rfl | rfl | rfl | rfl
      · exact ⟨_, _, _, _, g0, by with_unfolding_all rfl, by constructor <;> decide⟩
      · exact ⟨_, _, _, _, g1, by with_unfolding_all rfl, by constructor <;> decide⟩
      · exact ⟨_, _, _, _, g2, by with_unfolding_all rfl, by constructor <;> decide⟩
      · exact ⟨_, _, _, _, g3, by with_unfolding_all rfl, by constructor <;> decide⟩
      · exact ⟨_, _, _, _, g4, by with_unfolding_all rfl, by constructor <;> decide⟩
      · exact ⟨_, _, _, _, g5, by with_unfolding_all rfl, by constructor <;> decide⟩
      · exact ⟨_, _, _, _, g6, by with_unfolding_all rfl, by constructor <;> decide⟩
      · exact ⟨_, _, _, _, g7, by with_unfolding_all rfl, by constructor <;> decide⟩
    clear g0 g1 g2 g3 g4 g5 g6 g7
    refine r_ixl (.of h8) e ?_
    walk_at "rd"
    intro x dx nx nd ne
    refine ⟨x, dx, s, b, z, rfl, upd_same, fun _ H9 fs k h9 hL => ⟨rfl, ?_⟩, fun nF => absurd hF nF⟩
    obtain ⟨s9, L9⟩ := made_lay nx nd k h9 hL
    exact q _ _ _ _ _ hF (S.trans s9) (S.free nx) L9
def sp_fits : Sp := fun vs H Q _ => ∃ s b z : Int, vs = [.int s, .int b, .int z] ∧ (Fits s b z → Q (.bl true) H) ∧ (¬ Fits s b z → Q (.bl false) H)
theorem ids_eq (s b : Int) : (s - 2) * (b - 1) + (b - 1) = (s - 1) * (b - 1) := by
  have e : s - 1 = (s - 2) + 1 := by omega
  rw [e, Int.add_mul, Int.one_mul]
theorem ids_bounds {s b : Int} (s0 : 4 ≤ s) (s1 : s ≤ 16) (b0 : 16 ≤ b) (b1 : b ≤ 32) : 45 ≤ (s - 1) * (b - 1) ∧ (s - 1) * (b - 1) ≤ 465 := by
  have h1 : 3 * (b - 1) ≤ (s - 1) * (b - 1) := Int.mul_le_mul_of_nonneg_right (by omega) (by omega)
  have h2 : (s - 1) * (b - 1) ≤ 15 * (b - 1) := Int.mul_le_mul_of_nonneg_right (by omega) (by omega)
  omega
/-! ### while, by a word with a measure -/
theorem r_while {c : TT} {tb : TS} {D : Ends} {σ : L2.St} {H : Hp} (Pv : Nat → L2.St → Hp → Prop) (m : Nat) (h0 : Pv m σ H)
    (hs : ∀ m σ H, Pv m σ H → c σ H fun b H1 => if b = true then ∃ N : L2.St → Hp → Prop, (∀ σ' H', N σ' H' → ∃ m', m' < m ∧ Pv m' σ' H') ∧ tb { D with nx := N, ct := N, bk := D.nx } σ H1 else D.nx σ H1) : tWhile c tb D σ H :=
  ⟨Pv, ⟨m, h0⟩, hs⟩

theorem ok_law_fits (T : Txt K mg) : FnOk P w K mg base CX0 1 T.a_law_fits T.fd_law_fits ["segments", "blocks", "size"] sp_fits := by
  refine T.F_law_fits.ok sc_law_fits (fun vs H Q E h => ?_) (fun cdv A outer s H vs Q E hr h => ?_)
  · obtain ⟨s, b, z, rfl, _⟩ := h
    rfl
  · refine ⟨_, (C8.pss_cut (ps_if (PW.pt (pw_or (pt_cmpR op_lt (pv 0) pe_int (nomark _)) (pw_or (pt_cmpR op_gt (pv 0) pe_int (nomark _)) (pw_or (pt_cmpR op_lt (pv 1) pe_int (nomark _)) (pw_or1 (pt_cmpR op_gt (pv 1) pe_int (nomark _)))))))
       (pss_one (ps_ret pe_bl))
       pss_nil)
       (C8.pss_cut (ps_if (PW.pt (pw_and (pt_cmpR op_ne (pv 2) pe_int (nomark _)) (pw_and (pt_cmpR op_ne (pv 2) pe_int (nomark _)) (pw_and1 (pt_cmpR op_ne (pv 2) pe_int (nomark _))))))
       (pss_one (ps_ret pe_bl))
       pss_nil)
       (pss_cons (ps_set (i := 3) sc_law_fits.nd rfl (Or.inl rfl) pe_int)
       (pss_cons (ps_while PassesOwn.never (pt_cmpR op_lt (pe_op op_mul (pv 3) pe_int) (pe_op op_mul (pe_op op_sub (pv 0) pe_int) (pe_op op_sub (pv 1) pe_int)) (nomark _))
       (pss_one (ps_set (i := 3) sc_law_fits.nd rfl (Or.inl rfl) (pe_op op_add (pv 3) pe_int))))
       (pss_one (ps_ret (pe_cmpR op_le (pe_op op_add (pe_op op_add pe_int (pe_op op_mul pe_int (pe_op op_sub (pv 1) pe_int))) (pv 3)) (pv 2) (nomark _)))))))), ?_⟩
    try dsimp only [cxOf, Cx.nox, Cx.wish]
    obtain ⟨s, b, z, rfl, q1, q2⟩ := h
    walk_at "rd"
    refine r_cut (fun σ' H' => 4 ≤ s ∧ s ≤ 16 ∧ 16 ≤ b ∧ b ≤ 32 ∧ σ' = [some (.int s), some (.int b), some (.int z), none] ∧ H = H') ?_ ?_
    · walk_at "rd"
      refine r_ite (fun c => ?_) (fun c1 => ?_)
      · walk_at "rd"
        exact q2 (fun F => by have := F.s0; omega)
      walk_at "rd"
      refine r_ite (fun c => ?_) (fun c2 => ?_)
      · walk_at "rd"
        exact q2 (fun F => by have := F.s1; omega)
      walk_at "rd"
      refine r_ite (fun c => ?_) (fun c3 => ?_)
      · walk_at "rd"
        exact q2 (fun F => by have := F.b0; omega)
      walk_at "rd"
      refine r_ite (fun c => ?_) (fun c4 => ?_)
      · walk_at "rd"
        exact q2 (fun F => by have := F.b1; omega)
      walk_at "rd"
      exact ⟨by omega, by omega, by omega, by omega, rfl, rfl⟩
    rintro _ _ ⟨s0, s1, b0, b1, rfl, rfl⟩
    refine r_cut (fun σ' H' => (z = 64 ∨ z = 128 ∨ z = 256) ∧ σ' = [some (.int s), some (.int b), some (.int z), none] ∧ H = H') ?_ ?_
    · walk_at "rd"
      by_cases c1 : z = 64
      · walk_at "rdo"
        exact ⟨.inl c1, rfl, rfl⟩
      by_cases c2 : z = 128
      · walk_at "rdo"
        exact ⟨.inr (.inl c2), rfl, rfl⟩
      by_cases c3 : z = 256
      · walk_at "rdo"
        exact ⟨.inr (.inr c3), rfl, rfl⟩
      walk_at "rdo"
      exact q2 (fun F => by have := F.zz; omega)
    rintro _ _ ⟨hz, rfl, rfl⟩
    walk_at "rd"
    obtain ⟨n0, n1⟩ := ids_bounds s0 s1 b0 b1
    have en := ids_eq s b
    refine r_while (fun m σ' H' => ∃ o : Int, 0 ≤ o ∧ (m : Int) = 1000 - o ∧ 8 * o < (s - 1) * (b - 1) + 8 ∧ σ' = [some (.int s), some (.int b), some (.int z), some (.int o)] ∧ H = H') 1000 ⟨0, by omega, by omega, by omega, rfl, rfl⟩ ?_
    rintro m σ' H' ⟨o, o0, om, o1, rfl, rfl⟩
    walk_at "rd"
    refine r_ite (fun c => ?_) (fun c => ?_)
    · refine ⟨fun σ' H' => ∃ o' : Int, o' = o + 1 ∧ σ' = [some (.int s), some (.int b), some (.int z), some (.int o')] ∧ H = H', ?_, ?_⟩
      · rintro σ' H' ⟨o', rfl, rfl, rfl⟩
        exact ⟨(999 - o).toNat, by omega, o + 1, by omega, by omega, by omega, rfl, rfl⟩
      · walk_at "rd"
        exact ⟨_, rfl, rfl, rfl⟩
    · walk_at "rd"
      have eo : o = ((s - 1) * (b - 1) + 8 - 1) / 8 := by omega
      by_cases cf : 16 + 2 * (b - 1) + o ≤ z
      · rw [decide_eq_true cf]
        exact q1 ⟨s0, s1, b0, b1, hz, by rw [en, ← eo]; exact cf⟩
      · rw [decide_eq_false cf]
        exact q2 (fun F => cf (by have := F.fit; rw [en, ← eo] at this; exact this))
theorem at_pair {ts us : List Int} (e : ts = us) {k : Nat} (hk : k < ts.length) : ∃ c : Int, atI (ts.map V.int) (0 + (k : Int)) = some (.int c) ∧ atI (us.map V.int) (0 + (k : Int)) = some (.int c) := by
  subst e
  exact ⟨_, at_ints (by omega) (by omega), at_ints (by omega) (by omega)⟩
def sp_told (C : Addr) : Sp := fun vs H Q _ => ∃ (p : Addr) (s b z : Int), vs = [.ref p, .int s, .int b, .int z] ∧ LayAt C (layOf s b z) H p ∧ Fits s b z ∧ ∀ H', Same H H' → Q (.bl true) H'
theorem ok_law_told (T : Txt K mg) : FnOk P w K mg base CX0 2 T.a_law_told T.fd_law_told ["layout", "segments", "blocks", "size"] (sp_told T.A_Layout) := by
  refine T.F_law_told.ok sc_law_told (fun vs H Q E h => ?_) (fun cdv A outer s H vs Q E hr h => ?_)
  · obtain ⟨p, s, b, z, rfl, _⟩ := h
    rfl
  · refine ⟨_, (pss_cons (ps_set (i := 4) sc_law_told.nd rfl (Or.inl rfl) (pe_op op_sub (pv 2) pe_int))
       (pss_cons (ps_set (i := 5) sc_law_told.nd rfl (Or.inl rfl) (pe_op op_mul (pe_op op_sub (pv 1) pe_int) (pv 4)))
       (pss_cons (ps_set (i := 6) sc_law_told.nd rfl (Or.inl rfl) (pe_op op_add (pv 5) (pv 4)))
       (pss_cons (ps_set (i := 7) sc_law_told.nd rfl (Or.inl rfl) (pe_op op_mul pe_int (pe_op op_add (pe_op op_add (pe_op op_add (pv 6) (pe_op op_mul pe_int (pe_op op_add (pv 6) pe_int))) pe_int) (pv 1))))
       (pss_cons (ps_set (i := 8) sc_law_told.nd rfl (Or.inl rfl) pe_int)
       (pss_cons (ps_while PassesOwn.never (pt_cmpR op_lt (pe_op op_mul (pv 8) (pv 3)) (pv 7) (nomark _))
       (pss_one (ps_set (i := 8) sc_law_told.nd rfl (Or.inl rfl) (pe_op op_add (pv 8) pe_int))))
       (pss_cons (ps_set (i := 9) sc_law_told.nd rfl (Or.inl rfl) (pe_lst (pa_cons (pe_fld (pv 0) rfl) (pa_cons (pe_fld (pv 0) rfl) (pa_cons (pe_fld (pv 0) rfl) (pa_cons (pe_fld (pv 0) rfl) (pa_cons (pe_fld (pv 0) rfl) pa_nil)))))))
       (pss_cons (ps_set (i := 9) sc_law_told.nd rfl (Or.inl rfl) (pe_op op_cat (pv 9) (pe_lst (pa_cons (pe_fld (pv 0) rfl) (pa_cons (pe_fld (pv 0) rfl) (pa_cons (pe_fld (pv 0) rfl) (pa_cons (pe_fld (pv 0) rfl) pa_nil)))))))
       (pss_cons (ps_set (i := 10) sc_law_told.nd rfl (Or.inl rfl) (pe_lst (pa_cons (pv 1) (pa_cons (pv 2) (pa_cons (pv 3) (pa_cons (pv 4) (pa_cons (pv 5) (pa_cons (pv 6) (pa_cons (pe_op op_fdiv (pv 3) pe_int) (pa_cons (pv 8) (pa_cons (pe_op op_add (pe_op op_mul pe_int (pv 8)) (pe_op op_mul (pv 1) (pv 2))) pa_nil)))))))))))
       (pss_cons (ps_for PassesOwn.never rfl (pi_range1 rfl T.n_range (pa_cons pe_int pa_nil)) (pg_name (i := 11) sc_law_told.nd rfl (Or.inl rfl))
       (pss_one (ps_if (PW.pt (pw_or (pt_not (pt_val (pe_call (ok_law_is_number T) (hr.mono (by decide)) rfl T.m_law_is_number T.F_law_is_number.kp T.b_law_is_number .nil pass0 (pa_cons (pe_ix ix_list (pv 9) (pv 11) (fun _ _ => rfl)) pa_nil)))) (pw_or1 (pt_cmpR op_ne (pe_ix ix_list (pv 9) (pv 11) (fun _ _ => rfl)) (pe_ix ix_list (pv 10) (pv 11) (fun _ _ => rfl)) (nomark _)))))
       (pss_one (ps_ret pe_bl))
       pss_nil)))
       (pss_one (ps_ret pe_bl)))))))))))), ?_⟩
    try dsimp only [cxOf, Cx.nox, Cx.wish]
    obtain ⟨p, s, b, z, rfl, ⟨dx, fs, hp, F1, F2, F3, F4, F5, F6, F7, F8, F9⟩, hF, q⟩ := h
    obtain ⟨s0, s1, b0, b1, hz, _⟩ := id hF
    have z0 : 64 ≤ z ∧ z ≤ 256 := by omega
    obtain ⟨n0, n1⟩ := ids_bounds s0 s1 b0 b1
    have en := ids_eq s b
    have cl := T.cl_Layout
    have na1 := T.na_Layout_segments
    have na2 := T.na_Layout_segment_blocks
    have na3 := T.na_Layout_block_size
    have na4 := T.na_Layout_payload
    have na5 := T.na_Layout_limit
    have na6 := T.na_Layout_last_id
    have na7 := T.na_Layout_fan
    have na8 := T.na_Layout_region_blocks
    have na9 := T.na_Layout_device_blocks
    walk_at "rd"
    generalize hl : (s - 2) * (b - 1) + (b - 1) = l at en
    refine r_while (fun m σ' H' => ∃ o : Int, 0 ≤ o ∧ (m : Int) = 100000 - o ∧ (o = 0 ∨ (o - 1) * z < 2 * (l + 3 * (l + 1) + 3 + s)) ∧ σ' = [some (.ref p), some (.int s), some (.int b), some (.int z), some (.int (b - 1)), some (.int ((s - 2) * (b - 1))), some (.int l), some (.int (2 * (l + 3 * (l + 1) + 3 + s))), some (.int o), none, none, none] ∧ H = H') 100000 ⟨0, by omega, by omega, .inl rfl, ?_, rfl⟩ ?_
    · rw [← hl]
      rfl
    rintro m σ' H' ⟨o, o0, om, o1, rfl, rfl⟩
    walk_at "rd"
    have oz : o ≤ 5000 := by
      rcases o1 with o1 | o1
      · omega
      · rcases hz with rfl | rfl | rfl <;> omega
    refine r_ite (fun c => ?_) (fun c => ?_)
    · refine ⟨fun σ' H' => ∃ o' : Int, o' = o + 1 ∧ σ' = [some (.ref p), some (.int s), some (.int b), some (.int z), some (.int (b - 1)), some (.int ((s - 2) * (b - 1))), some (.int l), some (.int (2 * (l + 3 * (l + 1) + 3 + s))), some (.int o'), none, none, none] ∧ H = H', ?_, ?_⟩
      · rintro σ' H' ⟨o', rfl, rfl, rfl⟩
        exact ⟨(99999 - o).toNat, by omega, o + 1, by omega, by omega, .inr (by rw [show o + 1 - 1 = o from by omega]; exact c), rfl, rfl⟩
      · walk_at "rd"
        exact ⟨_, rfl, rfl, rfl⟩
    have er : (layOf s b z).reg = o := by
      show (2 * (4 * ((s - 2) * (b - 1) + (b - 1)) + 6 + s) + z - 1) / z = o
      rw [hl]
      rcases hz with rfl | rfl | rfl <;> omega
    walk_at "rd"
    rename_i a0 m0 H0 s0' h0 a1 m1 H1 s1' h1
    refine r_cat (s1' _ _ h0) h1 (Nat.le_of_ble_eq_true rfl) ?_
    walk_at "al"
    rename_i a2 m2 H2 s2' h2
    walk_at "rd"
    rename_i a3 m3 H3 s3' h3
    have sA : Same H H3 := s0'.trans (s1'.trans (s2'.trans s3'))
    have e : [s, b, z, b - 1, (s - 2) * (b - 1), (layOf s b z).last, z / 2, (layOf s b z).reg, (layOf s b z).dev] = [s, b, z, b - 1, (s - 2) * (b - 1), l, z / 2, o, 2 * o + s * b] := by
      have e1 : (layOf s b z).last = l := hl
      have e2 : (layOf s b z).dev = 2 * o + s * b := by
        show 2 * (layOf s b z).reg + s * b = _
        rw [er]
      rw [e1, e2, er]
    have g2 : H3 a2 = some (.lst (([s, b, z, b - 1, (s - 2) * (b - 1), (layOf s b z).last, z / 2, (layOf s b z).reg, (layOf s b z).dev] : List Int).map V.int)) := s3' _ _ h2
    have g3 : H3 a3 = some (.lst (([s, b, z, b - 1, (s - 2) * (b - 1), l, z / 2, o, 2 * o + s * b] : List Int).map V.int)) := h3
    generalize [s, b, z, b - 1, (s - 2) * (b - 1), l, z / 2, o, 2 * o + s * b] = us at e g3
    generalize hts : [s, b, z, b - 1, (s - 2) * (b - 1), (layOf s b z).last, z / 2, (layOf s b z).reg, (layOf s b z).dev] = ts at e g2
    have tl : ts.length = 9 := by rw [← hts]; rfl
    clear h0 h1 h2 h3 s0' s1' s2' s3' m0 m1 m2 m3 hts
    refine r_forR (fun k σ' H' => ∃ v11 : Option V, σ' = [some (.ref p), some (.int s), some (.int b), some (.int z), some (.int (b - 1)), some (.int ((s - 2) * (b - 1))), some (.int l), some (.int (2 * (l + 3 * (l + 1) + 3 + s))), some (.int o), some (.ref a2), some (.ref a3), v11] ∧ H3 = H') ⟨_, rfl, rfl⟩ ?_ ?_
    · rintro k σ' H' hk ⟨v11, rfl, rfl⟩
      have hk9 : k < 9 := by simpa using hk
      obtain ⟨c, c1, c2⟩ := at_pair e (k := k) (by omega)
      walk_at "rd"
      refine r_ixl (.of g2) c1 ?_
      walk_at "rd"
      refine ⟨c, rfl, ?_⟩
      walk_at "rd"
      refine r_ixl (.of g2) c1 ?_
      walk_at "rd"
      refine r_ixl (.of g3) c2 ?_
      walk_at "rd"
      refine r_iteNDn rfl ?_
      walk_at "rd"
      exact ⟨_, rfl, rfl⟩
    · rintro σ' H' ⟨v11, rfl, rfl⟩
      walk_at "rd"
      exact q _ sA
def sp_refused : Sp := fun vs H Q _ => ∃ (s b z : Int), vs = [.int s, .int b, .int z] ∧ ¬ Fits s b z ∧ ∀ H', Same H H' → Q (.bl true) H'
theorem ok_law_refused (T : Txt K mg) : FnOk P w K mg base CX0 4 T.a_law_refused T.fd_law_refused ["segments", "blocks", "size"] sp_refused := by
  refine T.F_law_refused.ok sc_law_refused (fun vs H Q E h => ?_) (fun cdv A outer s H vs Q E hr h => ?_)
  · obtain ⟨s, b, z, rfl, _⟩ := h
    rfl
  · refine ⟨_, (pss_cons (ps_tryA (i := 3) rfl rfl sc_law_refused.nd rfl rfl ⟨rfl, by decide, .inl T.m_SegmentError⟩ takes0 (fun W pn xe tk _ => (pss_one (ps_expr (pe_makeSD T.M_Layout (ok_Layout___init T) (hr.mono (by decide)) rfl T.m_Layout T.b_Layout___init .nil (fun σ => passAt tk σ) (pa_cons (pv 0) (pa_cons (pv 1) (pa_cons (pv 2) pa_nil)))))))
       (fun a oe cls d pn hz hf => (C8.pss_cut (ps_if (PW.pt (pw_or (pt_not (pt_val (pe_callB (call_isX hz hf) (by rfl) T.n_isinstance (by decide +kernel) (pa_cons (pv 3) (pa_cons (pe_bltn (v := .ty "ValueError") (by rfl) T.n_ValueError (by decide +kernel) rfl) pa_nil))))) (pw_or (pt_val (pe_callB (call_isX hz hf) (by rfl) T.n_isinstance (by decide +kernel) (pa_cons (pv 3) (pa_cons (pe_glob rfl T.m_OutOfRange (show RelV (V.ref T.A_OutOfRange) (Value.ref T.A_OutOfRange) from rfl)) pa_nil)))) (pw_or1 (pt_val (pe_callB (call_isX hz hf) (by rfl) T.n_isinstance (by decide +kernel) (pa_cons (pv 3) (pa_cons (pe_glob rfl T.m_InvalidImage (show RelV (V.ref T.A_InvalidImage) (Value.ref T.A_InvalidImage) from rfl)) pa_nil))))))))
       (pss_one (ps_ret pe_bl))
       pss_nil)
       (pss_one (ps_ret (pe_callB (call_isX hz hf) (by rfl) T.n_isinstance (by decide +kernel) (pa_cons (pv 3) (pa_cons (pe_glob rfl T.m_InvalidFormat (show RelV (V.ref T.A_InvalidFormat) (Value.ref T.A_InvalidFormat) from rfl)) pa_nil))))))))
       (pss_one (ps_ret pe_bl))), ?_⟩
    try dsimp only [cxOf, Cx.nox, Cx.wish]
    obtain ⟨s, b, z, rfl, nF, q⟩ := h
    walk_at "rd"
    refine r_tryA ?_
    walk_at "rd"
    refine r_makeSD ?_
    walk_at "rd"
    intro x dx nx nd ne
    refine ⟨x, dx, s, b, z, rfl, upd_same, fun hF => absurd hF nF, fun _ H1 k => ?_⟩
    have s1 : Same H H1 := made_same nx nd k
    refine wAs_own T.ex_InvalidFormat_SegmentError fun a na => ?_
    walk_at "rd"
    refine r_cutS ?_ ?_
    · walk_at "rd"
      refine r_isXt T.e_InvalidFormat T.kit_InvalidFormat_ValueError ?_
      walk_at "rd"
      refine r_isXc T.e_InvalidFormat T.kit_InvalidFormat_OutOfRange ?_
      walk_at "rd"
      refine r_isXc T.e_InvalidFormat T.kit_InvalidFormat_InvalidImage ?_
      walk_at "rd"
      exact ⟨rfl, rfl⟩
    walk_at "rd"
    refine r_isXc T.e_InvalidFormat T.kit_InvalidFormat_InvalidFormat ?_
    walk_at "rd"
    exact q _ s1
def sp_asked : Sp := fun vs H Q _ => ∃ (s b z : Int), vs = [.int s, .int b, .int z] ∧ ∀ H', Same H H' → Q (.bl true) H'
theorem ok_law_asked (T : Txt K mg) : FnOk P w K mg base CX0 5 T.a_law_asked T.fd_law_asked ["segments", "blocks", "size"] sp_asked := by
  refine T.F_law_asked.ok sc_law_asked (fun vs H Q E h => ?_) (fun cdv A outer s H vs Q E hr h => ?_)
  · obtain ⟨s, b, z, rfl, _⟩ := h
    rfl
  · refine ⟨_, (pss_cons (ps_if (pt_not (pt_val (pe_call (ok_law_fits T) (hr.mono (by decide)) rfl T.m_law_fits T.F_law_fits.kp T.b_law_fits .nil pass0 (pa_cons (pv 0) (pa_cons (pv 1) (pa_cons (pv 2) pa_nil))))))
       (pss_one (ps_ret (pe_call (ok_law_refused T) (hr.mono (by decide)) rfl T.m_law_refused T.F_law_refused.kp T.b_law_refused .nil pass0 (pa_cons (pv 0) (pa_cons (pv 1) (pa_cons (pv 2) pa_nil))))))
       pss_nil)
       (pss_one (ps_ret (pe_call (ok_law_told T) (hr.mono (by decide)) rfl T.m_law_told T.F_law_told.kp T.b_law_told .nil pass0 (pa_cons (pe_make T.M_Layout (ok_Layout___init T) (hr.mono (by decide)) rfl T.m_Layout T.b_Layout___init .nil passL (pa_cons (pv 0) (pa_cons (pv 1) (pa_cons (pv 2) pa_nil)))) (pa_cons (pv 0) (pa_cons (pv 1) (pa_cons (pv 2) pa_nil)))))))), ?_⟩
    try dsimp only [cxOf, Cx.nox, Cx.wish]
    obtain ⟨s, b, z, rfl, q⟩ := h
    walk_at "rd"
    refine ⟨s, b, z, rfl, fun hF => ?_, fun nF => ?_⟩
    · walk_at "rd"
      intro x dx nx nd ne
      refine ⟨x, dx, s, b, z, rfl, upd_same, fun _ H1 fs k h1 hL => ⟨rfl, ?_⟩, fun nF => absurd hF nF⟩
      obtain ⟨s1, L1⟩ := made_lay nx nd k h1 hL
      walk_at "rd"
      exact ⟨x, s, b, z, rfl, L1, hF, fun H2 s2 => q _ (s1.trans s2)⟩
    · walk_at "rd"
      exact ⟨s, b, z, rfl, nF, q⟩
def sp_any (C : Addr) : Sp := fun vs H Q _ => ∃ (l : Addr) (n : Int), vs = [.ref l] ∧ H l = some (.lst [.int n]) ∧ ∀ (H' : Hp) (p : Addr) (s b z n' : Int), Fits s b z → Same (upd H l (.lst [.int n'])) H' → (upd H l (.lst [.int n'])) p = none → LayAt C (layOf s b z) H' p → Q (.ref p) H'
theorem upd_twice {H H1 : Hp} {l : Addr} {o o' : HO} (e : upd H l o = H1) : upd H1 l o' = upd H l o' := by
  rw [← e]
  funext b
  by_cases hb : b = l
  · rw [hb, upd_same, upd_same]
  · rw [upd_ne hb, upd_ne hb, upd_ne hb]
theorem ok_law_any_layout (T : Txt K mg) : FnOk P w K mg base CX0 5 T.a_law_any_layout T.fd_law_any_layout ["box"] (sp_any T.A_Layout) := by
  refine T.F_law_any_layout.ok sc_law_any_layout (fun vs H Q E h => ?_) (fun cdv A outer s H vs Q E hr h => ?_)
  · obtain ⟨l, n, rfl, _⟩ := h
    rfl
  · refine ⟨_, (pss_cons (ps_if (pt_cmpR op_eq (pe_call (ok_law_take T) (hr.mono (by decide)) rfl T.m_law_take T.F_law_take.kp T.b_law_take .nil pass0 (pa_cons (pv 0) (pa_cons pe_int pa_nil))) pe_int (nomark _))
       (pss_one (ps_ret (pe_call (ok_law_layout T) (hr.mono (by decide)) rfl T.m_law_layout T.F_law_layout.kp T.b_law_layout .nil pass0 (pa_cons (pe_call (ok_law_take T) (hr.mono (by decide)) rfl T.m_law_take T.F_law_take.kp T.b_law_take .nil pass0 (pa_cons (pv 0) (pa_cons pe_int pa_nil))) pa_nil))))
       pss_nil)
       (pss_one (ps_ret (pe_make T.M_Layout (ok_Layout___init T) (hr.mono (by decide)) rfl T.m_Layout T.b_Layout___init .nil passL (pa_cons (pe_op op_add pe_int (pe_call (ok_law_take T) (hr.mono (by decide)) rfl T.m_law_take T.F_law_take.kp T.b_law_take .nil pass0 (pa_cons (pv 0) (pa_cons pe_int pa_nil)))) (pa_cons (pe_op op_add pe_int (pe_call (ok_law_take T) (hr.mono (by decide)) rfl T.m_law_take T.F_law_take.kp T.b_law_take .nil pass0 (pa_cons (pv 0) (pa_cons pe_int pa_nil)))) (pa_cons pe_int pa_nil))))))), ?_⟩
    try dsimp only [cxOf, Cx.nox, Cx.wish]
    obtain ⟨l, n, rfl, hl, q⟩ := h
    walk_at "rd"
    refine ⟨l, n, 2, rfl, hl, by decide, by decide, fun H1 d n1 e1 d0 d1 => ?_⟩
    have h1 := at_new e1
    walk_at "rd"
    refine r_ite (fun _ => ?_) (fun _ => ?_)
    · walk_at "rd"
      refine ⟨l, n1, 8, rfl, h1, by decide, by decide, fun H2 d2 n2 e2 d20 d21 => ?_⟩
      have eH : upd H l (.lst [.int n2]) = H2 := by rw [← e2, ← upd_twice e1]
      walk_at "rd"
      refine ⟨d2, rfl, fun s b z H3 p hF s3 n3 hL => ?_⟩
      exact q H3 p s b z n2 hF (by rw [eH]; exact s3) (by rw [eH]; exact n3) hL
    · walk_at "rd"
      refine ⟨l, n1, 13, rfl, h1, by decide, by decide, fun H2 d2 n2 e2 d20 d21 => ?_⟩
      have h2 := at_new e2
      walk_at "rd"
      refine ⟨l, n2, 17, rfl, h2, by decide, by decide, fun H3 d3 n3 e3 d30 d31 => ?_⟩
      have eH : upd H l (.lst [.int n3]) = H3 := by rw [← e3, upd_twice e2, ← upd_twice e1]
      walk_at "rd"
      intro x dx nx nd ne
      obtain ⟨i0, i1⟩ := ids_bounds (s := 4 + d2) (b := 16 + d3) (by omega) (by omega) (by omega) (by omega)
      have hF : Fits (4 + d2) (16 + d3) 256 := ⟨by omega, by omega, by omega, by omega, .inr (.inr rfl), by rw [ids_eq]; omega⟩
      refine ⟨x, dx, _, _, _, rfl, upd_same, fun _ H4 fs k h4 hL => ⟨rfl, ?_⟩, fun nF => absurd hF nF⟩
      obtain ⟨s4, L4⟩ := made_lay nx nd k h4 hL
      exact q H4 x _ _ _ n3 hF (by rw [eH]; exact s4) (by rw [eH]; exact nx) L4
def sp_lparts : Sp := fun vs H Q _ => ∃ n s : Int, vs = [.int n, .int s] ∧ 0 ≤ n ∧ 0 < s ∧ s < 1000000000000000000 ∧ Q (.int ((n + s - 1) / s)) H
theorem ceil_eq {n s : Int} (h : 0 < s) : (n + s - 1) / s = if n / s * s < n then n / s + 1 else n / s := by
  have h1 := Int.emod_add_mul_ediv n s
  have h2 := Int.emod_nonneg n (by omega : s ≠ 0)
  have h3 := Int.emod_lt_of_pos n h
  rw [Int.mul_comm] at h1
  split
  · rename_i c
    have e : n + s - 1 = (n % s - 1) + (n / s + 1) * s := by rw [Int.add_mul, Int.one_mul]; omega
    rw [e, Int.add_mul_ediv_right _ _ (by omega), Int.ediv_eq_zero_of_lt (by omega) (by omega), Int.zero_add]
  · rename_i c
    have e : n + s - 1 = (s - 1) + (n / s) * s := by omega
    rw [e, Int.add_mul_ediv_right _ _ (by omega), Int.ediv_eq_zero_of_lt (by omega) (by omega), Int.zero_add]
theorem ok_law_parts (T : Txt K mg) : FnOk P w K mg base CX0 1 T.a_law_parts T.fd_law_parts ["number", "size"] sp_lparts := by
  refine T.F_law_parts.ok sc_law_parts (fun vs H Q E h => ?_) (fun cdv A outer s H vs Q E hr h => ?_)
  · obtain ⟨n, s, rfl, _⟩ := h
    rfl
  · refine ⟨_, (pss_cons (ps_set (i := 2) sc_law_parts.nd rfl (Or.inl rfl) (pe_op op_fdivW (pv 0) (pv 1)))
       (C8.pss_cut (ps_if (pt_cmpR op_lt (pe_op op_mul (pv 2) (pv 1)) (pv 0) (nomark _))
       (pss_one (ps_set (i := 2) sc_law_parts.nd rfl (Or.inl rfl) (pe_op op_add (pv 2) pe_int)))
       pss_nil)
       (pss_one (ps_ret (pv 2))))), ?_⟩
    try dsimp only [cxOf, Cx.nox, Cx.wish]
    obtain ⟨n, s, rfl, n0, s0, s1, q⟩ := h
    rw [ceil_eq s0] at q
    walk_at "rd"
    refine ⟨_, _, rfl, rfl, wide_div (b := 64) s0 (by omega) (by decide) (by decide), ?_⟩
    walk_at "rd"
    refine r_cut (fun σ' H' => σ' = [some (.int n), some (.int s), some (.int (if n / s * s < n then n / s + 1 else n / s))] ∧ H = H') ?_ ?_
    · walk_at "rd"
      refine r_ite (fun c => ?_) (fun c => ?_)
      · rw [if_pos c]
        walk_at "rd"
        exact ⟨rfl, rfl⟩
      · rw [if_neg c]
        walk_at "rd"
        exact ⟨rfl, rfl⟩
    rintro _ _ ⟨rfl, rfl⟩
    walk_at "rd"
    exact q
structure LayB (L : Lay) : Prop where
  l0 : 45 ≤ L.last
  l1 : L.last ≤ 465
  d0 : 64 ≤ L.dev
  d1 : L.dev ≤ 1000
  z0 : 64 ≤ L.size
  z1 : L.size ≤ 256
  f0 : 32 ≤ L.fan
  f1 : L.fan ≤ 128
theorem Fits.bounds {s b z : Int} (h : Fits s b z) : LayB (layOf s b z) := by
  obtain ⟨s0, s1, b0, b1, hz, _⟩ := h
  have e : (s - 2) * (b - 1) + (b - 1) = (s - 1) * (b - 1) := by
    have e : s - 1 = (s - 2) + 1 := by omega
    rw [e, Int.add_mul, Int.one_mul]
  have h1 : 3 * (b - 1) ≤ (s - 1) * (b - 1) := Int.mul_le_mul_of_nonneg_right (by omega) (by omega)
  have h2 : (s - 1) * (b - 1) ≤ 15 * (b - 1) := Int.mul_le_mul_of_nonneg_right (by omega) (by omega)
  have h3 : 4 * b ≤ s * b := Int.mul_le_mul_of_nonneg_right (by omega) (by omega)
  have h4 : s * b ≤ 16 * b := Int.mul_le_mul_of_nonneg_right (by omega) (by omega)
  have e1 : (layOf s b z).last = (s - 1) * (b - 1) := e
  have e2 : (layOf s b z).dev = 2 * ((2 * (4 * ((s - 1) * (b - 1)) + 6 + s) + z - 1) / z) + s * b := by
    show 2 * ((2 * (4 * ((s - 2) * (b - 1) + (b - 1)) + 6 + s) + z - 1) / z) + s * b = _
    rw [e]
  have e3 : (layOf s b z).size = z := rfl
  have e4 : (layOf s b z).fan = z / 2 := rfl
  generalize (s - 1) * (b - 1) = l at h1 h2 e1 e2
  generalize s * b = d at h3 h4 e2
  constructor
  · omega
  · omega
  · rcases hz with rfl | rfl | rfl <;> omega
  · rcases hz with rfl | rfl | rfl <;> omega
  · rcases hz with rfl | rfl | rfl <;> omega
  · rcases hz with rfl | rfl | rfl <;> omega
  · rcases hz with rfl | rfl | rfl <;> omega
  · rcases hz with rfl | rfl | rfl <;> omega

theorem LayAt.keepL {C : Addr} {L : Lay} {H H' : Hp} {p l : Addr} {xs : List V} {o : HO} (h : LayAt C L H p) (hl : H l = some (.lst xs)) (e : upd H l o = H') : LayAt C L H' p := by
  obtain ⟨dx, fs, h1, h2⟩ := h
  exact ⟨dx, fs, at_keep e h1 hl (by intro z; cases z), h2⟩
theorem seg_div {a s w p : Int} (h : 0 < w) (p0 : 0 ≤ p) (p1 : p < w) : (a + s * w + p - a) / w = s ∧ (a + s * w + p - a) % w = p := by
  have e : a + s * w + p - a = p + s * w := by omega
  rw [e]
  exact ⟨by rw [Int.add_mul_ediv_right _ _ (by omega), Int.ediv_eq_zero_of_lt p0 p1, Int.zero_add], by rw [Int.add_mul_emod_self_right, Int.emod_eq_of_lt p0 p1]⟩
def sp_places (C : Addr) : Sp := fun vs H Q _ => ∃ (p l : Addr) (s b z n : Int), vs = [.ref p, .ref l] ∧ LayAt C (layOf s b z) H p ∧ Fits s b z ∧ H l = some (.lst [.int n]) ∧ ∀ (H' : Hp) (n' : Int), upd H l (.lst [.int n']) = H' → Q (.bl true) H'
theorem ok_law_places (T : Txt K mg) : FnOk P w K mg base CX0 3 T.a_law_places T.fd_law_places ["layout", "box"] (sp_places T.A_Layout) := by
  refine T.F_law_places.ok sc_law_places (fun vs H Q E h => ?_) (fun cdv A outer s H vs Q E hr h => ?_)
  · obtain ⟨p, l, s, b, z, n, rfl, _⟩ := h
    rfl
  · refine ⟨_, (pss_cons (ps_set (i := 2) sc_law_places.nd rfl (Or.inl rfl) (pe_fld (pv 0) rfl))
       (pss_cons (ps_set (i := 3) sc_law_places.nd rfl (Or.inl rfl) (pe_call (ok_law_take T) (hr.mono (by decide)) rfl T.m_law_take T.F_law_take.kp T.b_law_take .nil pass0 (pa_cons (pv 1) (pa_cons (pe_fld (pv 0) rfl) pa_nil))))
       (pss_cons (ps_set (i := 4) sc_law_places.nd rfl (Or.inl rfl) (pe_call (ok_law_take T) (hr.mono (by decide)) rfl T.m_law_take T.F_law_take.kp T.b_law_take .nil pass0 (pa_cons (pv 1) (pa_cons (pv 2) pa_nil))))
       (pss_cons (ps_set (i := 5) sc_law_places.nd rfl (Or.inl rfl) (pe_op op_mul pe_int (pe_fld (pv 0) rfl)))
       (pss_cons (ps_set (i := 6) sc_law_places.nd rfl (Or.inl rfl) (pe_call (ok_address_at T) (hr.mono (by decide)) rfl T.m_address_at T.F_address_at.kp T.b_address_at .nil pass0 (pa_cons (pv 0) (pa_cons (pv 3) (pa_cons (pv 4) pa_nil)))))
       (pss_cons (ps_if (pt_not (pt_val (pe_call (ok_law_same T) (hr.mono (by decide)) rfl T.m_law_same T.F_law_same.kp T.b_law_same .nil pass0 (pa_cons (pv 6) (pa_cons (pe_op op_add (pe_op op_add (pv 5) (pe_op op_mul (pv 3) (pv 2))) (pv 4)) pa_nil)))))
       (pss_one (ps_ret pe_bl))
       pss_nil)
       (C8.pss_cut (ps_if (PW.pt (pw_or (pt_not (pt_val (pe_call (ok_law_same T) (hr.mono (by decide)) rfl T.m_law_same T.F_law_same.kp T.b_law_same .nil pass0 (pa_cons (pe_call (ok_segment_of T) (hr.mono (by decide)) rfl T.m_segment_of T.F_segment_of.kp T.b_segment_of .nil pass0 (pa_cons (pv 0) (pa_cons (pv 6) pa_nil))) (pa_cons (pv 3) pa_nil))))) (pw_or1 (pt_not (pt_val (pe_call (ok_law_same T) (hr.mono (by decide)) rfl T.m_law_same T.F_law_same.kp T.b_law_same .nil pass0 (pa_cons (pe_call (ok_place_of T) (hr.mono (by decide)) rfl T.m_place_of T.F_place_of.kp T.b_place_of .nil pass0 (pa_cons (pv 0) (pa_cons (pv 6) pa_nil))) (pa_cons (pv 4) pa_nil))))))))
       (pss_one (ps_ret pe_bl))
       pss_nil)
       (pss_cons (ps_set (i := 7) sc_law_places.nd rfl (Or.inl rfl) (pe_call (ok_law_take T) (hr.mono (by decide)) rfl T.m_law_take T.F_law_take.kp T.b_law_take .nil pass0 (pa_cons (pv 1) (pa_cons (pe_op op_add (pe_fld (pv 0) rfl) pe_int) pa_nil))))
       (pss_cons (ps_set (i := 8) sc_law_places.nd rfl (Or.inl rfl) pe_non)
       (pss_cons (ps_set (i := 9) sc_law_places.nd rfl (Or.inl rfl) pe_non)
       (C8.pss_cut (ps_if (PW.pt (pw_and (pt_cmpR op_ge (pv 7) (pv 5) (nomark _)) (pw_and1 (pt_cmpR op_lt (pv 7) (pe_op op_add (pv 5) (pe_op op_mul (pe_fld (pv 0) rfl) (pv 2))) (nomark _)))))
       (pss_cons (ps_set (i := 8) sc_law_places.nd rfl (Or.inl rfl) (pe_op op_fdiv (pe_op op_sub (pv 7) (pv 5)) (pv 2)))
       (pss_one (ps_set (i := 9) sc_law_places.nd rfl (Or.inl rfl) (pe_op op_sub (pe_op op_sub (pv 7) (pv 5)) (pe_op op_mul (pv 8) (pv 2))))))
       pss_nil)
       (C8.pss_cut (ps_if (PW.pt (pw_or (pt_not (pt_val (pe_call (ok_law_same T) (hr.mono (by decide)) rfl T.m_law_same T.F_law_same.kp T.b_law_same .nil pass0 (pa_cons (pe_call (ok_segment_of T) (hr.mono (by decide)) rfl T.m_segment_of T.F_segment_of.kp T.b_segment_of .nil pass0 (pa_cons (pv 0) (pa_cons (pv 7) pa_nil))) (pa_cons (pv 8) pa_nil))))) (pw_or1 (pt_not (pt_val (pe_call (ok_law_same T) (hr.mono (by decide)) rfl T.m_law_same T.F_law_same.kp T.b_law_same .nil pass0 (pa_cons (pe_call (ok_place_of T) (hr.mono (by decide)) rfl T.m_place_of T.F_place_of.kp T.b_place_of .nil pass0 (pa_cons (pv 0) (pa_cons (pv 7) pa_nil))) (pa_cons (pv 9) pa_nil))))))))
       (pss_one (ps_ret pe_bl))
       pss_nil)
       (pss_one (ps_ret (pe_and (pe_call (ok_law_same T) (hr.mono (by decide)) rfl T.m_law_same T.F_law_same.kp T.b_law_same .nil pass0 (pa_cons (pe_call (ok_region_start T) (hr.mono (by decide)) rfl T.m_region_start T.F_region_start.kp T.b_region_start .nil pass0 (pa_cons (pv 0) (pa_cons pe_int pa_nil))) (pa_cons pe_int pa_nil))) (pe_one (pe_call (ok_law_same T) (hr.mono (by decide)) rfl T.m_law_same T.F_law_same.kp T.b_law_same .nil pass0 (pa_cons (pe_call (ok_region_start T) (hr.mono (by decide)) rfl T.m_region_start T.F_region_start.kp T.b_region_start .nil pass0 (pa_cons (pv 0) (pa_cons pe_int pa_nil))) (pa_cons (pe_fld (pv 0) rfl) pa_nil))))))))))))))))))), ?_⟩
    try dsimp only [cxOf, Cx.nox, Cx.wish]
    obtain ⟨p, l, s, b, z, n, rfl, hL, hF, hl, q⟩ := h
    have hB := hF.bounds
    obtain ⟨s0, s1, b0, b1, hz, _⟩ := id hF
    have eD : (layOf s b z).dev = 2 * (layOf s b z).reg + s * b := rfl
    have eS : (layOf s b z).seg = s := rfl
    have eB : (layOf s b z).blk = b := rfl
    generalize layOf s b z = L at hL hB eD eS eB
    subst eS eB
    have d0 := hB.d0
    have d1 := hB.d1
    have cl := T.cl_Layout
    have na1 := T.na_Layout_segments
    have na2 := T.na_Layout_segment_blocks
    have na8 := T.na_Layout_region_blocks
    have na9 := T.na_Layout_device_blocks
    obtain ⟨dx, fs, hp, F⟩ := id hL
    have f1 := F.seg
    have f2 := F.blk
    have f3 := F.reg
    have f4 := F.dev
    walk_at "rd"
    refine ⟨l, n, _, rfl, hl, by omega, by omega, fun H1 g n1 e1 g0 g1 => ?_⟩
    have hl1 := at_new e1
    have hp1 := at_keep e1 hp hl (by intro z; cases z)
    walk_at "rd"
    refine ⟨l, n1, _, rfl, hl1, by omega, by omega, fun H2 c n2 e2 c0 c1 => ?_⟩
    have hl2 := at_new e2
    have hp2 := at_keep e2 hp1 hl1 (by intro z; cases z)
    have hL2 : LayAt T.A_Layout L H2 p := ⟨dx, fs, hp2, F⟩
    have e12 : upd H l (.lst [.int n2]) = H2 := by rw [← e2, ← upd_twice e1]
    clear hp hp1 hl hl1 e1 e2 hL
    have g2 : (g + 1) * L.blk ≤ L.seg * L.blk := Int.mul_le_mul_of_nonneg_right (by omega) (by omega)
    have g3 : 0 ≤ g * L.blk := Int.mul_nonneg g0 (by omega)
    rw [Int.add_mul, Int.one_mul] at g2
    obtain ⟨v1, v2⟩ := seg_div (a := 2 * L.reg) (s := g) (w := L.blk) (p := c) (by omega) c0 c1
    have hin : inSeg L (2 * L.reg + g * L.blk + c) := ⟨by omega, by rw [eD]; omega⟩
    walk_at "rd"
    refine ⟨p, L, g, c, rfl, hL2, by omega, by omega, ?_⟩
    walk_at "rd"
    refine ⟨_, rfl, .inr ⟨_, rfl⟩, ?_⟩
    walk_at "rd"
    refine r_cutS ?_ ?_
    · walk_at "rd"
      refine ⟨p, L, _, rfl, hL2, by omega, by omega, fun _ => ?_, fun z => absurd hin z⟩
      rw [v1]
      walk_at "rd"
      refine ⟨_, rfl, .inr ⟨_, rfl⟩, ?_⟩
      walk_at "rd"
      refine ⟨p, L, _, rfl, hL2, by omega, by omega, fun _ => ?_, fun z => absurd hin z⟩
      rw [v2]
      walk_at "rd"
      refine ⟨_, rfl, .inr ⟨_, rfl⟩, ?_⟩
      walk_at "rd"
      exact ⟨rfl, rfl⟩
    walk_at "rd"
    refine ⟨l, n2, _, rfl, hl2, by omega, by omega, fun H3 m n3 e3 m0 m1 => ?_⟩
    have hp3 := at_keep e3 hp2 hl2 (by intro z; cases z)
    have hL3 : LayAt T.A_Layout L H3 p := ⟨dx, fs, hp3, F⟩
    have e13 : upd H l (.lst [.int n3]) = H3 := by rw [← e3, ← upd_twice e12]
    clear hp2 hl2 e3 e12 hL2
    walk_at "rd"
    refine r_cut (fun σ' H' => ∃ u v : V, σ' = [some (.ref p), some (.ref l), some (.int L.blk), some (.int g), some (.int c), some (.int (2 * L.reg)), some (.int (2 * L.reg + g * L.blk + c)), some (.int m), some u, some v] ∧ H3 = H' ∧
      ((inSeg L m ∧ u = .int ((m - 2 * L.reg) / L.blk) ∧ v = .int ((m - 2 * L.reg) % L.blk)) ∨ (¬ inSeg L m ∧ u = .non ∧ v = .non))) ?_ ?_
    · walk_at "rd"
      refine r_ite (fun k1 => ?_) (fun k1 => ?_)
      · walk_at "rd"
        refine r_ite (fun k2 => ?_) (fun k2 => ?_)
        · walk_at "rd"
          refine ⟨_, _, rfl, rfl, .inl ⟨⟨by omega, by rw [eD]; omega⟩, rfl, ?_⟩⟩
          rw [Int.emod_def, Int.mul_comm L.blk]
        · walk_at "rd"
          exact ⟨_, _, rfl, rfl, .inr ⟨fun z => k2 (by have := z.2; rw [eD] at this; omega), rfl, rfl⟩⟩
      · walk_at "rd"
        exact ⟨_, _, rfl, rfl, .inr ⟨fun z => k1 (by have := z.1; omega), rfl, rfl⟩⟩
    rintro _ _ ⟨u, v, rfl, rfl, huv⟩
    have hu : u = .non ∨ ∃ i : Int, u = .int i := by
      rcases huv with ⟨_, h, _⟩ | ⟨_, h, _⟩
      · exact .inr ⟨_, h⟩
      · exact .inl h
    have hv : v = .non ∨ ∃ i : Int, v = .int i := by
      rcases huv with ⟨_, _, h⟩ | ⟨_, _, h⟩
      · exact .inr ⟨_, h⟩
      · exact .inl h
    refine r_cutS ?_ ?_
    · walk_at "rd"
      refine ⟨p, L, m, rfl, hL3, by omega, by omega, fun hi => ?_, fun hi => ?_⟩
      · obtain ⟨_, rfl, rfl⟩ := huv.resolve_right (fun z => z.1 hi)
        walk_at "rd"
        refine ⟨_, rfl, .inr ⟨_, rfl⟩, ?_⟩
        walk_at "rd"
        refine ⟨p, L, m, rfl, hL3, by omega, by omega, fun _ => ?_, fun z => absurd hi z⟩
        walk_at "rd"
        refine ⟨_, rfl, .inr ⟨_, rfl⟩, ?_⟩
        walk_at "rd"
        exact ⟨rfl, rfl⟩
      · obtain ⟨_, rfl, rfl⟩ := huv.resolve_left (fun z => hi z.1)
        walk_at "rd"
        refine ⟨_, rfl, .inl rfl, ?_⟩
        walk_at "rd"
        refine ⟨p, L, m, rfl, hL3, by omega, by omega, fun z => absurd z hi, fun _ => ?_⟩
        walk_at "rd"
        refine ⟨_, rfl, .inl rfl, ?_⟩
        walk_at "rd"
        exact ⟨rfl, rfl⟩
    walk_at "rd"
    refine ⟨p, L, 0, rfl, hL3, by decide, by decide, ?_⟩
    walk_at "rd"
    refine ⟨_, ?_, .inr ⟨0, rfl⟩, ?_⟩
    · rw [Int.zero_mul]
      rfl
    walk_at "rd"
    refine ⟨p, L, 1, rfl, hL3, by decide, by decide, ?_⟩
    walk_at "rd"
    refine ⟨_, ?_, .inr ⟨L.reg, rfl⟩, ?_⟩
    · rw [Int.one_mul]
      rfl
    exact q _ _ e13
theorem getD_mem {l : List Int} {i : Nat} (h : i < l.length) : l.getD i 0 ∈ l := by
  rw [List.getD_eq_getElem?_getD, List.getElem?_eq_getElem h]
  exact List.getElem_mem h
def spLaw (K : PySem.W.Frag) : Sp := fun vs H Q _ => ∃ (a : Addr) (ns : List Int), vs = [.ref a] ∧ SqL K H a (ns.map V.int) ∧ ns.length ≤ 63 ∧ ∀ H', Q (.bl true) H'
theorem ok_law (T : Txt K mg) : FnOk P w K mg base CX0 6 T.a_law T.fd_law ["script"] (spLaw K) := by
  refine T.F_law.ok sc_law (fun vs H Q E h => ?_) (fun cdv A outer s H vs Q E hr h => ?_)
  · obtain ⟨a, ns, rfl, _⟩ := h
    rfl
  · refine ⟨_, (pss_cons (ps_set (i := 1) sc_law.nd rfl (Or.inl rfl) (pe_lst (pa_cons (pe_call (ok_law_number T) (hr.mono (by decide)) rfl T.m_law_number T.F_law_number.kp T.b_law_number .nil pass0 (pa_cons (pv 0) (pa_cons pe_int pa_nil))) pa_nil)))
       (pss_cons (ps_set (i := 2) sc_law.nd rfl (Or.inl rfl) (pe_lst (pa_cons pe_int (pa_cons pe_int (pa_cons pe_int (pa_cons pe_int (pa_cons pe_int (pa_cons pe_int (pa_cons pe_int (pa_cons pe_int (pa_cons pe_int (pa_cons pe_int (pa_cons pe_int (pa_cons pe_int (pa_cons pe_int pa_nil)))))))))))))))
       (pss_cons (ps_set (i := 3) sc_law.nd rfl (Or.inl rfl) (pe_call (ok_law_take T) (hr.mono (by decide)) rfl T.m_law_take T.F_law_take.kp T.b_law_take .nil pass0 (pa_cons (pv 1) (pa_cons pe_int pa_nil))))
       (pss_cons (ps_set (i := 4) sc_law.nd rfl (Or.inl rfl) (pe_call (ok_law_take T) (hr.mono (by decide)) rfl T.m_law_take T.F_law_take.kp T.b_law_take .nil pass0 (pa_cons (pv 1) (pa_cons pe_int pa_nil))))
       (pss_cons (ps_set (i := 5) sc_law.nd rfl (Or.inl rfl) (pe_call (ok_law_take T) (hr.mono (by decide)) rfl T.m_law_take T.F_law_take.kp T.b_law_take .nil pass0 (pa_cons (pv 1) (pa_cons pe_int pa_nil))))
       (pss_cons (ps_set (i := 6) sc_law.nd rfl (Or.inl rfl) (pe_call (ok_law_take T) (hr.mono (by decide)) rfl T.m_law_take T.F_law_take.kp T.b_law_take .nil pass0 (pa_cons (pv 1) (pa_cons pe_int pa_nil))))
       (C8.pss_cut (ps_if (pt_cmpR op_lt (pv 5) pe_int (nomark _))
       (pss_one (ps_set (i := 6) sc_law.nd rfl (Or.inl rfl) (pe_ix ix_list (pv 2) (pv 5) (fun _ _ => rfl))))
       pss_nil)
       (pss_cons (ps_if (pt_not (pt_val (pe_call (ok_law_asked T) (hr.mono (by decide)) rfl T.m_law_asked T.F_law_asked.kp T.b_law_asked .nil pass0 (pa_cons (pv 3) (pa_cons (pv 4) (pa_cons (pv 6) pa_nil))))))
       (pss_one (ps_ret pe_bl))
       pss_nil)
       (pss_cons (ps_set (i := 1) sc_law.nd rfl (Or.inl rfl) (pe_lst (pa_cons (pe_call (ok_law_number T) (hr.mono (by decide)) rfl T.m_law_number T.F_law_number.kp T.b_law_number .nil pass0 (pa_cons (pv 0) (pa_cons pe_int pa_nil))) pa_nil)))
       (pss_cons (ps_set (i := 3) sc_law.nd rfl (Or.inl rfl) (pe_op op_add pe_int (pe_call (ok_law_take T) (hr.mono (by decide)) rfl T.m_law_take T.F_law_take.kp T.b_law_take .nil pass0 (pa_cons (pv 1) (pa_cons pe_int pa_nil)))))
       (pss_cons (ps_set (i := 4) sc_law.nd rfl (Or.inl rfl) (pe_op op_add pe_int (pe_call (ok_law_take T) (hr.mono (by decide)) rfl T.m_law_take T.F_law_take.kp T.b_law_take .nil pass0 (pa_cons (pv 1) (pa_cons pe_int pa_nil)))))
       (pss_cons (ps_for PassesOwn.never rfl (pi_list (pe_lst (pa_cons pe_int (pa_cons pe_int (pa_cons pe_int pa_nil))))) (pg_name (i := 6) sc_law.nd rfl (Or.inl rfl))
       (pss_one (ps_if (pt_not (pt_val (pe_call (ok_law_asked T) (hr.mono (by decide)) rfl T.m_law_asked T.F_law_asked.kp T.b_law_asked .nil pass0 (pa_cons (pv 3) (pa_cons (pv 4) (pa_cons (pv 6) pa_nil))))))
       (pss_one (ps_ret pe_bl))
       pss_nil)))
       (pss_cons (ps_if (pt_not (pt_val (pe_call (ok_law_places T) (hr.mono (by decide)) rfl T.m_law_places T.F_law_places.kp T.b_law_places .nil pass0 (pa_cons (pe_call (ok_law_any_layout T) (hr.mono (by decide)) rfl T.m_law_any_layout T.F_law_any_layout.kp T.b_law_any_layout .nil pass0 (pa_cons (pv 1) pa_nil)) (pa_cons (pv 1) pa_nil)))))
       (pss_one (ps_ret pe_bl))
       pss_nil)
       (pss_cons (ps_set (i := 7) sc_law.nd rfl (Or.inl rfl) (pe_op op_mod (pe_callTy c_int (by rfl) T.n_int (by decide +kernel) (pa_cons (pe_call (ok_law_number T) (hr.mono (by decide)) rfl T.m_law_number T.F_law_number.kp T.b_law_number .nil pass0 (pa_cons (pv 0) (pa_cons pe_int pa_nil))) pa_nil)) (pe_op op_pow pe_int pe_int)))
       (pss_cons (ps_set (i := 6) sc_law.nd rfl (Or.inl rfl) (pe_op op_add pe_int (pe_op op_mod (pe_callTy c_int (by rfl) T.n_int (by decide +kernel) (pa_cons (pe_call (ok_law_number T) (hr.mono (by decide)) rfl T.m_law_number T.F_law_number.kp T.b_law_number .nil pass0 (pa_cons (pv 0) (pa_cons pe_int pa_nil))) pa_nil)) (pe_ix ix_list (pe_lst (pa_cons pe_int (pa_cons pe_int (pa_cons pe_int (pa_cons (pe_op op_pow pe_int pe_int) pa_nil))))) (pe_call (ok_law_take T) (hr.mono (by decide)) rfl T.m_law_take T.F_law_take.kp T.b_law_take .nil pass0 (pa_cons (pv 1) (pa_cons pe_int pa_nil))) (fun _ _ => rfl)))))
       (pss_one (ps_ret (pe_and (pe_call (ok_law_same T) (hr.mono (by decide)) rfl T.m_law_same T.F_law_same.kp T.b_law_same .nil pass0 (pa_cons (pe_call (ok_parts_of T) (hr.mono (by decide)) rfl T.m_parts_of T.F_parts_of.kp T.b_parts_of .nil pass0 (pa_cons (pv 7) (pa_cons (pv 6) pa_nil))) (pa_cons (pe_call (ok_law_parts T) (hr.mono (by decide)) rfl T.m_law_parts T.F_law_parts.kp T.b_law_parts .nil pass0 (pa_cons (pv 7) (pa_cons (pv 6) pa_nil))) pa_nil))) (pe_one (pe_call (ok_law_same T) (hr.mono (by decide)) rfl T.m_law_same T.F_law_same.kp T.b_law_same .nil pass0 (pa_cons (pe_call (ok_parts_of T) (hr.mono (by decide)) rfl T.m_parts_of T.F_parts_of.kp T.b_parts_of .nil pass0 (pa_cons pe_int (pa_cons (pv 6) pa_nil))) (pa_cons pe_int pa_nil)))))))))))))))))))))), ?_⟩
    try dsimp only [cxOf, Cx.nox, Cx.wish]
    obtain ⟨a, ns, rfl, hS, h63, q⟩ := h
    walk_at "rd"
    refine ⟨a, ns, _, rfl, hS, h63, by decide, by decide, fun z0 hz0 => ?_⟩
    walk_at "rd"
    rename_i l nl H1 s1 h1 sl nsl H2 s2 h2
    have hl2 := s2 _ _ h1
    refine ⟨l, z0, 21, rfl, hl2, by decide, by decide, fun H3 d1 n1 e1 d10 d11 => ?_⟩
    have hl3 := at_new e1
    walk_at "rd"
    refine ⟨l, n1, 41, rfl, hl3, by decide, by decide, fun H4 d2 n2 e2 d20 d21 => ?_⟩
    have hl4 := at_new e2
    walk_at "rd"
    refine ⟨l, n2, 15, rfl, hl4, by decide, by decide, fun H5 d3 n3 e3 d30 d31 => ?_⟩
    have hl5 := at_new e3
    walk_at "rd"
    refine ⟨l, n3, 4301, rfl, hl5, by decide, by decide, fun H6 d4 n4 e4 d40 d41 => ?_⟩
    have hl6 := at_new e4
    have S2 : Same H H2 := s1.trans s2
    have S6 : Same H H6 := Sg.Same.old (Sg.Same.old (Sg.Same.old (Sg.Same.old S2 nl e1) nl e2) nl e3) nl e4
    have ne : sl ≠ l := fun z => ne_of_none h1 nsl z.symm
    have hs6 : H6 sl = some (.lst (([64, 128, 256, 63, 65, 127, 129, 255, 257, 512, 32, 192, 1024] : List Int).map V.int)) := by
      rw [← e4, upd_ne ne, ← e3, upd_ne ne, ← e2, upd_ne ne, ← e1, upd_ne ne]
      exact h2
    clear h1 h2 s1 s2 hl2 hl3 hl4 hl5 e1 e2 e3 e4 nsl S2
    walk_at "rd"
    refine r_cut (fun σ' H' => ∃ z : Int, σ' = [some (.ref a), some (.ref l), some (.ref sl), some (.int d1), some (.int d2), some (.int d3), some (.int z), none] ∧ H6 = H') ?_ ?_
    · walk_at "rd"
      refine r_ite (fun c => ?_) (fun c => ?_)
      · walk_at "rd"
        refine r_ixl (.of hs6) (at_ints d30 (by show d3 < 13; omega)) ?_
        walk_at "rd"
        exact ⟨_, rfl, rfl⟩
      · exact ⟨_, rfl, rfl⟩
    rintro _ _ ⟨z, rfl, rfl⟩
    walk_at "rd"
    refine ⟨_, _, _, rfl, fun H7 s7 => ?_⟩
    have S7 := S6.trans s7
    clear hs6 hl6 S6 s7
    walk_at "rd"
    refine ⟨a, ns, _, rfl, S7.seq hS, h63, by decide, by decide, fun z1 hz1 => ?_⟩
    walk_at "rd"
    rename_i l8 n8 H8 s8 h8
    have S8 := S7.trans s8
    have nl8 : H l8 = none := S7.free n8
    refine ⟨l8, z1, 13, rfl, h8, by decide, by decide, fun H9 e1' m1 e9 e10 e11 => ?_⟩
    have h9 := at_new e9
    walk_at "rd"
    refine ⟨l8, m1, 17, rfl, h9, by decide, by decide, fun H10 e2' m2 ea eb ec => ?_⟩
    have h10 := at_new ea
    have S10 : Same H H10 := Sg.Same.old (Sg.Same.old S8 nl8 e9) nl8 ea
    clear S8 S7 s8 n8 h8 h9 e9 ea
    walk_at "rd"
    rename_i l11 n11 H11 s11 h11
    refine r_forL (xs := ([64, 128, 256] : List Int).map V.int) (fun i σ' H' => ∃ v6 : Option V, σ' = [some (.ref a), some (.ref l8), some (.ref sl), some (.int (4 + e1')), some (.int (16 + e2')), some (.int d3), v6, none] ∧ Same H11 H') ⟨_, rfl, Same.refl _⟩ (fun _ _ _ _ ⟨_, _, s⟩ => .of (s _ _ h11)) ?_ ?_
    · rintro i x σ' H' hi ⟨v6, rfl, s⟩
      rw [List.getElem?_map] at hi
      obtain ⟨y, hy, rfl⟩ := Option.map_eq_some_iff.mp hi
      walk_at "rd"
      refine ⟨_, _, _, rfl, fun H'' s'' => ?_⟩
      walk_at "rd"
      exact ⟨_, rfl, s.trans s''⟩
    rintro σ' H12 ⟨v6, rfl, s12⟩
    have h12 := s12 _ _ (s11 _ _ h10)
    have S12 := S10.trans (s11.trans s12)
    clear s11 s12 h10 h11 S10 n11
    walk_at "rd"
    refine ⟨l8, _, rfl, h12, fun H13 p s b z n' hF s13 np hL => ?_⟩
    have S13 : Same H H13 := (Sg.Same.old S12 nl8 rfl).trans s13
    have h13 := s13 _ _ upd_same
    clear S12 h12 s13 np
    walk_at "rd"
    refine ⟨p, l8, s, b, z, n', rfl, hL, hF, h13, fun H14 n'' e14 => ?_⟩
    have S14 : Same H H14 := Sg.Same.old S13 nl8 e14
    have h14 := at_new e14
    clear S13 h13 e14 hL
    walk_at "rd"
    refine ⟨a, ns, _, rfl, S14.seq hS, h63, by decide, by decide, fun z2 hz2 => ?_⟩
    walk_at "rd"
    rename_i nn hnn nn0 nn1
    refine ⟨a, ns, _, rfl, S14.seq hS, h63, by decide, by decide, fun z3 hz3 => ?_⟩
    walk_at "rd"
    rename_i l15 n15 H15 s15 h15
    refine ⟨l8, n'', 4, rfl, s15 _ _ h14, by decide, by decide, fun H16 d m16 e16 d0 d4 => ?_⟩
    have ne15 : l15 ≠ l8 := fun e => ne_of_none h14 n15 e.symm
    have h16 : H16 l15 = some (.lst (([2, 7, 64, 10 ^ 12] : List Int).map V.int)) := by
      rw [← e16, upd_ne ne15]
      exact h15
    have hy7 : ∀ x ∈ ([2, 7, 64, 10 ^ 12] : List Int), 0 < x ∧ x ≤ 1000000000000 := by
      intro x hx
      simp only [List.mem_cons, List.not_mem_nil, or_false] at hx
      rcases hx with rfl | rfl | rfl | rfl <;> exact ⟨by decide, by decide⟩
    walk_at "rd"
    refine r_ixl (.of h16) (at_ints d0 (by show d < 4; omega)) ?_
    have hc := hy7 _ (getD_mem (l := [2, 7, 64, 10 ^ 12]) (i := d.toNat) (by show d.toNat < 4; omega))
    generalize ([2, 7, 64, 10 ^ 12] : List Int).getD d.toNat 0 = c at hc
    clear hy7 h15 h16 hnn
    walk_at "rd"
    rename_i y hy y0 y1
    refine ⟨_, _, rfl, by omega, by omega, ?_⟩
    walk_at "rd"
    refine ⟨_, _, rfl, nn0, by omega, by omega, ?_⟩
    walk_at "rd"
    refine ⟨_, rfl, .inr ⟨_, rfl⟩, ?_⟩
    walk_at "rd"
    refine ⟨_, _, rfl, by omega, by omega, ?_⟩
    walk_at "rd"
    refine ⟨.int 0, ?_, .inr ⟨_, rfl⟩, ?_⟩
    · rw [Int.ediv_eq_zero_of_lt (by omega) (by omega)]
      rfl
    exact q _
end
theorem all_mk {l : PySem.W.OpenLaw} {w : World} {K : PySem.W.Frag} {h : Heap} {mg : Str → Option Value} {fa C_Layout f_Layout___init f_address_at f_segment_of f_place_of f_region_start f_parts_of f_law_number f_law_take f_law_layout f_law_is_number f_law_fits f_law_told f_law_refused f_law_asked f_law_any_layout f_law_same f_law_parts f_law_places f_law k_BLOCK_SIZES X_InvalidFormat X_SegmentError X_OutOfRange X_InvalidImage : Addr} (X : K.In h) (G : h.Ns mainGlobals mg) (hfa : mg "law" = some (.ref fa))
    {od_Layout___init an_Layout___init od_address_at an_address_at od_segment_of an_segment_of od_place_of an_place_of od_region_start an_region_start od_parts_of an_parts_of od_law_number an_law_number od_law_take an_law_take od_law_layout an_law_layout od_law_is_number an_law_is_number od_law_fits an_law_fits od_law_told an_law_told od_law_refused an_law_refused od_law_asked an_law_asked od_law_any_layout an_law_any_layout od_law_same an_law_same od_law_parts an_law_parts od_law_places an_law_places od_law an_law : Option Addr} {sl_Layout___init sl_address_at sl_segment_of sl_place_of sl_region_start sl_parts_of sl_law_number sl_law_take sl_law_layout sl_law_is_number sl_law_fits sl_law_told sl_law_refused sl_law_asked sl_law_any_layout sl_law_same sl_law_parts sl_law_places sl_law : Array (Option Value)} {oc_Layout___init kV_Layout___init dc_Layout___init pm_Layout___init cd_Layout___init ct_Layout___init oc_address_at kV_address_at dc_address_at pm_address_at cd_address_at ct_address_at oc_segment_of kV_segment_of dc_segment_of pm_segment_of cd_segment_of ct_segment_of oc_place_of kV_place_of dc_place_of pm_place_of cd_place_of ct_place_of oc_region_start kV_region_start dc_region_start pm_region_start cd_region_start ct_region_start oc_parts_of kV_parts_of dc_parts_of pm_parts_of cd_parts_of ct_parts_of oc_law_number kV_law_number dc_law_number pm_law_number cd_law_number ct_law_number oc_law_take kV_law_take dc_law_take pm_law_take cd_law_take ct_law_take oc_law_layout kV_law_layout dc_law_layout pm_law_layout cd_law_layout ct_law_layout oc_law_is_number kV_law_is_number dc_law_is_number pm_law_is_number cd_law_is_number ct_law_is_number oc_law_fits kV_law_fits dc_law_fits pm_law_fits cd_law_fits ct_law_fits oc_law_told kV_law_told dc_law_told pm_law_told cd_law_told ct_law_told oc_law_refused kV_law_refused dc_law_refused pm_law_refused cd_law_refused ct_law_refused oc_law_asked kV_law_asked dc_law_asked pm_law_asked cd_law_asked ct_law_asked oc_law_any_layout kV_law_any_layout dc_law_any_layout pm_law_any_layout cd_law_any_layout ct_law_any_layout oc_law_same kV_law_same dc_law_same pm_law_same cd_law_same ct_law_same oc_law_parts kV_law_parts dc_law_parts pm_law_parts cd_law_parts ct_law_parts oc_law_places kV_law_places dc_law_places pm_law_places cd_law_places ct_law_places oc_law kV_law dc_law pm_law cd_law ct_law : Value}
    {t_SUMMARY_HEAD yt_BLOCK_SIZES_0 yt_BLOCK_SIZES_1 yt_BLOCK_SIZES_2 : Tok}
    {yd_BLOCK_SIZES : Option Addr} {yn_BLOCK_SIZES : Nat} {ys_BLOCK_SIZES : Array (Option Value)}
    (mX_InvalidFormat : PySem.W.nsIn K mainGlobals "InvalidFormat" = some (some (.ref X_InvalidFormat)))
    (mX_SegmentError : PySem.W.nsIn K mainGlobals "SegmentError" = some (some (.ref X_SegmentError)))
    (mX_OutOfRange : PySem.W.nsIn K mainGlobals "OutOfRange" = some (some (.ref X_OutOfRange)))
    (mX_InvalidImage : PySem.W.nsIn K mainGlobals "InvalidImage" = some (some (.ref X_InvalidImage)))
    (xx_InvalidFormat : PySem.W.excIn K X_InvalidFormat [.type "ValueError", .type "Exception", .type "BaseException", .type "object"] "ValueError.__new__" = true)
    (xk_InvalidFormat : PySem.W.keepIn K (.ref X_InvalidFormat) = true)
    (xb_InvalidFormat : PySem.W.subIn K (.ref X_InvalidFormat) (.type "BaseException") = some true)
    (xt_InvalidFormat : PySem.W.typeIn K (.ref X_InvalidFormat) = some (.type "type"))
    (xga_InvalidFormat : PySem.W.findIn K (.ref X_InvalidFormat) "__getattribute__" = some (some (.builtin "BaseException.__getattribute__")))
    (xgt_InvalidFormat : PySem.W.findIn K (.ref X_InvalidFormat) "__getattr__" = some none)
    (xhd_InvalidFormat : PySem.W.hasDictIn K X_InvalidFormat = true)
    (xca_InvalidFormat : PySem.W.findIn K (.ref X_InvalidFormat) "__class__" = some (some (.builtin "object.__class__")))
    (xmr_InvalidFormat : PySem.W.mroIn K X_InvalidFormat (.type "object") = some true)
    (xsp : PySem.W.specialIn K (.builtin "object.__class__") "__get__" = some (some (.builtin "getset_descriptor.__get__")))
    (xtk : PySem.W.takesIn K (.builtin "object.__class__") = some true)
    (xhd_InvalidImage : PySem.W.hasDictIn K X_InvalidImage = true)
    (xt_InvalidImage : PySem.W.typeIn K (.ref X_InvalidImage) = some (.type "type"))
    (xhd_OutOfRange : PySem.W.hasDictIn K X_OutOfRange = true)
    (xt_OutOfRange : PySem.W.typeIn K (.ref X_OutOfRange) = some (.type "type"))
    (xhd_SegmentError : PySem.W.hasDictIn K X_SegmentError = true)
    (xt_SegmentError : PySem.W.typeIn K (.ref X_SegmentError) = some (.type "type"))
    (xb_SegmentError : PySem.W.subIn K (.ref X_SegmentError) (.type "BaseException") = some true)
    (xs_InvalidFormat_InvalidFormat : PySem.W.subIn K (.ref X_InvalidFormat) (.ref X_InvalidFormat) = some true)
    (xs_InvalidFormat_InvalidImage : PySem.W.subIn K (.ref X_InvalidFormat) (.ref X_InvalidImage) = some false)
    (xn_InvalidFormat_InvalidImage : (Value.ref X_InvalidFormat == Value.ref X_InvalidImage) = false)
    (xs_InvalidFormat_OutOfRange : PySem.W.subIn K (.ref X_InvalidFormat) (.ref X_OutOfRange) = some false)
    (xn_InvalidFormat_OutOfRange : (Value.ref X_InvalidFormat == Value.ref X_OutOfRange) = false)
    (xs_InvalidFormat_SegmentError : PySem.W.subIn K (.ref X_InvalidFormat) (.ref X_SegmentError) = some true)
    (xs_InvalidFormat_ValueError : PySem.W.subIn K (.ref X_InvalidFormat) (.type "ValueError") = some true)
    (mC_Layout : PySem.W.nsIn K mainGlobals "Layout" = some (some (.ref C_Layout)))
    (pg_Layout : PySem.W.plainGet K C_Layout Str.empty = true)
    (hd_Layout : PySem.W.hasDictIn K C_Layout = true)
    (po_Layout : PySem.W.plainOver K C_Layout = true)
    (sa_Layout : PySem.W.findIn K (.ref C_Layout) "__setattr__" = some (some (.builtin "object.__setattr__")))
    (mk_Layout : PySem.W.makesIn K C_Layout = true)
    (kc_Layout : PySem.W.keepIn K (.ref C_Layout) = true)
    (na_Layout_segments : PySem.W.findIn K (.ref C_Layout) "segments" = some none)
    (na_Layout_segment_blocks : PySem.W.findIn K (.ref C_Layout) "segment_blocks" = some none)
    (na_Layout_block_size : PySem.W.findIn K (.ref C_Layout) "block_size" = some none)
    (na_Layout_payload : PySem.W.findIn K (.ref C_Layout) "payload" = some none)
    (na_Layout_limit : PySem.W.findIn K (.ref C_Layout) "limit" = some none)
    (na_Layout_last_id : PySem.W.findIn K (.ref C_Layout) "last_id" = some none)
    (na_Layout_fan : PySem.W.findIn K (.ref C_Layout) "fan" = some none)
    (na_Layout_region_blocks : PySem.W.findIn K (.ref C_Layout) "region_blocks" = some none)
    (na_Layout_device_blocks : PySem.W.findIn K (.ref C_Layout) "device_blocks" = some none)
    (a_Layout___init : PySem.W.findIn K (.ref C_Layout) "__init__" = some (some (.ref f_Layout___init)))
    (i_Layout___init : PySem.W.isFn K (.ref f_Layout___init) = true)
    (l_Layout___init : K.lookup f_Layout___init = some ⟨oc_Layout___init, od_Layout___init, .func (PySem.W.fnOf "__init__" "Layout.__init__" (defArgs s_Layout___init) (defBody s_Layout___init) (defScope s_Layout___init) .none kV_Layout___init dc_Layout___init pm_Layout___init an_Layout___init cd_Layout___init ct_Layout___init), sl_Layout___init⟩)
    (c_Layout___init : PySem.W.codeIn K cd_Layout___init "Layout.__init__" = true)
    (k_Layout___init : PySem.W.keepIn K (.ref f_Layout___init) = true)
    (a_address_at : PySem.W.nsIn K mainGlobals "address_at" = some (some (.ref f_address_at)))
    (l_address_at : K.lookup f_address_at = some ⟨oc_address_at, od_address_at, .func (PySem.W.fnOf "address_at" "address_at" (defArgs s_address_at) (defBody s_address_at) (defScope s_address_at) .none kV_address_at dc_address_at pm_address_at an_address_at cd_address_at ct_address_at), sl_address_at⟩)
    (c_address_at : PySem.W.codeIn K cd_address_at "address_at" = true)
    (k_address_at : PySem.W.keepIn K (.ref f_address_at) = true)
    (a_segment_of : PySem.W.nsIn K mainGlobals "segment_of" = some (some (.ref f_segment_of)))
    (l_segment_of : K.lookup f_segment_of = some ⟨oc_segment_of, od_segment_of, .func (PySem.W.fnOf "segment_of" "segment_of" (defArgs s_segment_of) (defBody s_segment_of) (defScope s_segment_of) .none kV_segment_of dc_segment_of pm_segment_of an_segment_of cd_segment_of ct_segment_of), sl_segment_of⟩)
    (c_segment_of : PySem.W.codeIn K cd_segment_of "segment_of" = true)
    (k_segment_of : PySem.W.keepIn K (.ref f_segment_of) = true)
    (a_place_of : PySem.W.nsIn K mainGlobals "place_of" = some (some (.ref f_place_of)))
    (l_place_of : K.lookup f_place_of = some ⟨oc_place_of, od_place_of, .func (PySem.W.fnOf "place_of" "place_of" (defArgs s_place_of) (defBody s_place_of) (defScope s_place_of) .none kV_place_of dc_place_of pm_place_of an_place_of cd_place_of ct_place_of), sl_place_of⟩)
    (c_place_of : PySem.W.codeIn K cd_place_of "place_of" = true)
    (k_place_of : PySem.W.keepIn K (.ref f_place_of) = true)
    (a_region_start : PySem.W.nsIn K mainGlobals "region_start" = some (some (.ref f_region_start)))
    (l_region_start : K.lookup f_region_start = some ⟨oc_region_start, od_region_start, .func (PySem.W.fnOf "region_start" "region_start" (defArgs s_region_start) (defBody s_region_start) (defScope s_region_start) .none kV_region_start dc_region_start pm_region_start an_region_start cd_region_start ct_region_start), sl_region_start⟩)
    (c_region_start : PySem.W.codeIn K cd_region_start "region_start" = true)
    (k_region_start : PySem.W.keepIn K (.ref f_region_start) = true)
    (a_parts_of : PySem.W.nsIn K mainGlobals "parts_of" = some (some (.ref f_parts_of)))
    (l_parts_of : K.lookup f_parts_of = some ⟨oc_parts_of, od_parts_of, .func (PySem.W.fnOf "parts_of" "parts_of" (defArgs s_parts_of) (defBody s_parts_of) (defScope s_parts_of) .none kV_parts_of dc_parts_of pm_parts_of an_parts_of cd_parts_of ct_parts_of), sl_parts_of⟩)
    (c_parts_of : PySem.W.codeIn K cd_parts_of "parts_of" = true)
    (k_parts_of : PySem.W.keepIn K (.ref f_parts_of) = true)
    (a_law_number : PySem.W.nsIn K mainGlobals "_law_number" = some (some (.ref f_law_number)))
    (l_law_number : K.lookup f_law_number = some ⟨oc_law_number, od_law_number, .func (PySem.W.fnOf "_law_number" "_law_number" (defArgs s_law_number) (defBody s_law_number) (defScope s_law_number) .none kV_law_number dc_law_number pm_law_number an_law_number cd_law_number ct_law_number), sl_law_number⟩)
    (c_law_number : PySem.W.codeIn K cd_law_number "_law_number" = true)
    (k_law_number : PySem.W.keepIn K (.ref f_law_number) = true)
    (a_law_take : PySem.W.nsIn K mainGlobals "_law_take" = some (some (.ref f_law_take)))
    (l_law_take : K.lookup f_law_take = some ⟨oc_law_take, od_law_take, .func (PySem.W.fnOf "_law_take" "_law_take" (defArgs s_law_take) (defBody s_law_take) (defScope s_law_take) .none kV_law_take dc_law_take pm_law_take an_law_take cd_law_take ct_law_take), sl_law_take⟩)
    (c_law_take : PySem.W.codeIn K cd_law_take "_law_take" = true)
    (k_law_take : PySem.W.keepIn K (.ref f_law_take) = true)
    (a_law_layout : PySem.W.nsIn K mainGlobals "_law_layout" = some (some (.ref f_law_layout)))
    (l_law_layout : K.lookup f_law_layout = some ⟨oc_law_layout, od_law_layout, .func (PySem.W.fnOf "_law_layout" "_law_layout" (defArgs s_law_layout) (defBody s_law_layout) (defScope s_law_layout) .none kV_law_layout dc_law_layout pm_law_layout an_law_layout cd_law_layout ct_law_layout), sl_law_layout⟩)
    (c_law_layout : PySem.W.codeIn K cd_law_layout "_law_layout" = true)
    (k_law_layout : PySem.W.keepIn K (.ref f_law_layout) = true)
    (a_law_is_number : PySem.W.nsIn K mainGlobals "_law_is_number" = some (some (.ref f_law_is_number)))
    (l_law_is_number : K.lookup f_law_is_number = some ⟨oc_law_is_number, od_law_is_number, .func (PySem.W.fnOf "_law_is_number" "_law_is_number" (defArgs s_law_is_number) (defBody s_law_is_number) (defScope s_law_is_number) .none kV_law_is_number dc_law_is_number pm_law_is_number an_law_is_number cd_law_is_number ct_law_is_number), sl_law_is_number⟩)
    (c_law_is_number : PySem.W.codeIn K cd_law_is_number "_law_is_number" = true)
    (k_law_is_number : PySem.W.keepIn K (.ref f_law_is_number) = true)
    (a_law_fits : PySem.W.nsIn K mainGlobals "_law_fits" = some (some (.ref f_law_fits)))
    (l_law_fits : K.lookup f_law_fits = some ⟨oc_law_fits, od_law_fits, .func (PySem.W.fnOf "_law_fits" "_law_fits" (defArgs s_law_fits) (defBody s_law_fits) (defScope s_law_fits) .none kV_law_fits dc_law_fits pm_law_fits an_law_fits cd_law_fits ct_law_fits), sl_law_fits⟩)
    (c_law_fits : PySem.W.codeIn K cd_law_fits "_law_fits" = true)
    (k_law_fits : PySem.W.keepIn K (.ref f_law_fits) = true)
    (a_law_told : PySem.W.nsIn K mainGlobals "_law_told" = some (some (.ref f_law_told)))
    (l_law_told : K.lookup f_law_told = some ⟨oc_law_told, od_law_told, .func (PySem.W.fnOf "_law_told" "_law_told" (defArgs s_law_told) (defBody s_law_told) (defScope s_law_told) .none kV_law_told dc_law_told pm_law_told an_law_told cd_law_told ct_law_told), sl_law_told⟩)
    (c_law_told : PySem.W.codeIn K cd_law_told "_law_told" = true)
    (k_law_told : PySem.W.keepIn K (.ref f_law_told) = true)
    (a_law_refused : PySem.W.nsIn K mainGlobals "_law_refused" = some (some (.ref f_law_refused)))
    (l_law_refused : K.lookup f_law_refused = some ⟨oc_law_refused, od_law_refused, .func (PySem.W.fnOf "_law_refused" "_law_refused" (defArgs s_law_refused) (defBody s_law_refused) (defScope s_law_refused) .none kV_law_refused dc_law_refused pm_law_refused an_law_refused cd_law_refused ct_law_refused), sl_law_refused⟩)
    (c_law_refused : PySem.W.codeIn K cd_law_refused "_law_refused" = true)
    (k_law_refused : PySem.W.keepIn K (.ref f_law_refused) = true)
    (a_law_asked : PySem.W.nsIn K mainGlobals "_law_asked" = some (some (.ref f_law_asked)))
    (l_law_asked : K.lookup f_law_asked = some ⟨oc_law_asked, od_law_asked, .func (PySem.W.fnOf "_law_asked" "_law_asked" (defArgs s_law_asked) (defBody s_law_asked) (defScope s_law_asked) .none kV_law_asked dc_law_asked pm_law_asked an_law_asked cd_law_asked ct_law_asked), sl_law_asked⟩)
    (c_law_asked : PySem.W.codeIn K cd_law_asked "_law_asked" = true)
    (k_law_asked : PySem.W.keepIn K (.ref f_law_asked) = true)
    (a_law_any_layout : PySem.W.nsIn K mainGlobals "_law_any_layout" = some (some (.ref f_law_any_layout)))
    (l_law_any_layout : K.lookup f_law_any_layout = some ⟨oc_law_any_layout, od_law_any_layout, .func (PySem.W.fnOf "_law_any_layout" "_law_any_layout" (defArgs s_law_any_layout) (defBody s_law_any_layout) (defScope s_law_any_layout) .none kV_law_any_layout dc_law_any_layout pm_law_any_layout an_law_any_layout cd_law_any_layout ct_law_any_layout), sl_law_any_layout⟩)
    (c_law_any_layout : PySem.W.codeIn K cd_law_any_layout "_law_any_layout" = true)
    (k_law_any_layout : PySem.W.keepIn K (.ref f_law_any_layout) = true)
    (a_law_same : PySem.W.nsIn K mainGlobals "_law_same" = some (some (.ref f_law_same)))
    (l_law_same : K.lookup f_law_same = some ⟨oc_law_same, od_law_same, .func (PySem.W.fnOf "_law_same" "_law_same" (defArgs s_law_same) (defBody s_law_same) (defScope s_law_same) .none kV_law_same dc_law_same pm_law_same an_law_same cd_law_same ct_law_same), sl_law_same⟩)
    (c_law_same : PySem.W.codeIn K cd_law_same "_law_same" = true)
    (k_law_same : PySem.W.keepIn K (.ref f_law_same) = true)
    (a_law_parts : PySem.W.nsIn K mainGlobals "_law_parts" = some (some (.ref f_law_parts)))
    (l_law_parts : K.lookup f_law_parts = some ⟨oc_law_parts, od_law_parts, .func (PySem.W.fnOf "_law_parts" "_law_parts" (defArgs s_law_parts) (defBody s_law_parts) (defScope s_law_parts) .none kV_law_parts dc_law_parts pm_law_parts an_law_parts cd_law_parts ct_law_parts), sl_law_parts⟩)
    (c_law_parts : PySem.W.codeIn K cd_law_parts "_law_parts" = true)
    (k_law_parts : PySem.W.keepIn K (.ref f_law_parts) = true)
    (a_law_places : PySem.W.nsIn K mainGlobals "_law_places" = some (some (.ref f_law_places)))
    (l_law_places : K.lookup f_law_places = some ⟨oc_law_places, od_law_places, .func (PySem.W.fnOf "_law_places" "_law_places" (defArgs s_law_places) (defBody s_law_places) (defScope s_law_places) .none kV_law_places dc_law_places pm_law_places an_law_places cd_law_places ct_law_places), sl_law_places⟩)
    (c_law_places : PySem.W.codeIn K cd_law_places "_law_places" = true)
    (k_law_places : PySem.W.keepIn K (.ref f_law_places) = true)
    (a_law : PySem.W.nsIn K mainGlobals "law" = some (some (.ref f_law)))
    (l_law : K.lookup f_law = some ⟨oc_law, od_law, .func (PySem.W.fnOf "law" "law" (defArgs s_law) (defBody s_law) (defScope s_law) .none kV_law dc_law pm_law an_law cd_law ct_law), sl_law⟩)
    (c_law : PySem.W.codeIn K cd_law "law" = true)
    (k_law : PySem.W.keepIn K (.ref f_law) = true)
    (q_BLOCK_SIZES : PySem.W.nsIn K mainGlobals "BLOCK_SIZES" = some (some (.ref k_BLOCK_SIZES)))
    (y_BLOCK_SIZES : K.lookup k_BLOCK_SIZES = some ⟨.type "tuple", yd_BLOCK_SIZES, .seq #[.int 64 yt_BLOCK_SIZES_0, .int 128 yt_BLOCK_SIZES_1, .int 256 yt_BLOCK_SIZES_2] yn_BLOCK_SIZES, ys_BLOCK_SIZES⟩)
    (q_SUMMARY_HEAD : PySem.W.nsIn K mainGlobals "SUMMARY_HEAD" = some (some (.int 16 t_SUMMARY_HEAD)))
    (n_ValueError : PySem.W.nsIn K mainGlobals "ValueError" = some none)
    (n_bool : PySem.W.nsIn K mainGlobals "bool" = some none)
    (n_int : PySem.W.nsIn K mainGlobals "int" = some none)
    (n_isinstance : PySem.W.nsIn K mainGlobals "isinstance" = some none)
    (n_len : PySem.W.nsIn K mainGlobals "len" = some none)
    (n_range : PySem.W.nsIn K mainGlobals "range" = some none)
    : ∃ fd : FuncData, (∀ (s : Shared) (v : Value), BindsTo s fd ⟨[v], []⟩ [("script", v)]) ∧ ∀ base : Heap, K.In base → base.Ns mainGlobals mg → FnOk l.prog w K mg base CX0 6 fa fd ["script"] (spLaw K) := by
  have e := hfa.symm.trans (PySem.W.mg_of X G a_law)
  cases e
  have F_Layout___init := fun_mk (st := s_Layout___init) l_Layout___init c_Layout___init k_Layout___init
  have b_Layout___init := F_Layout___init.binds (ps := ["self", "segments", "segment_blocks", "block_size"]) fun _ _ _ _ _ _ us hl => match us, hl with | [_, _, _, _], _ => rfl
  have F_address_at := fun_mk (st := s_address_at) l_address_at c_address_at k_address_at
  have b_address_at := F_address_at.binds (ps := ["layout", "segment", "place"]) fun _ _ _ _ _ _ us hl => match us, hl with | [_, _, _], _ => rfl
  have F_segment_of := fun_mk (st := s_segment_of) l_segment_of c_segment_of k_segment_of
  have b_segment_of := F_segment_of.binds (ps := ["layout", "address"]) fun _ _ _ _ _ _ us hl => match us, hl with | [_, _], _ => rfl
  have F_place_of := fun_mk (st := s_place_of) l_place_of c_place_of k_place_of
  have b_place_of := F_place_of.binds (ps := ["layout", "address"]) fun _ _ _ _ _ _ us hl => match us, hl with | [_, _], _ => rfl
  have F_region_start := fun_mk (st := s_region_start) l_region_start c_region_start k_region_start
  have b_region_start := F_region_start.binds (ps := ["layout", "region"]) fun _ _ _ _ _ _ us hl => match us, hl with | [_, _], _ => rfl
  have F_parts_of := fun_mk (st := s_parts_of) l_parts_of c_parts_of k_parts_of
  have b_parts_of := F_parts_of.binds (ps := ["number", "size"]) fun _ _ _ _ _ _ us hl => match us, hl with | [_, _], _ => rfl
  have F_law_number := fun_mk (st := s_law_number) l_law_number c_law_number k_law_number
  have b_law_number := F_law_number.binds (ps := ["script", "k"]) fun _ _ _ _ _ _ us hl => match us, hl with | [_, _], _ => rfl
  have F_law_take := fun_mk (st := s_law_take) l_law_take c_law_take k_law_take
  have b_law_take := F_law_take.binds (ps := ["box", "size"]) fun _ _ _ _ _ _ us hl => match us, hl with | [_, _], _ => rfl
  have F_law_layout := fun_mk (st := s_law_layout) l_law_layout c_law_layout k_law_layout
  have b_law_layout := F_law_layout.binds (ps := ["digit"]) fun _ _ _ _ _ _ us hl => match us, hl with | [_], _ => rfl
  have F_law_is_number := fun_mk (st := s_law_is_number) l_law_is_number c_law_is_number k_law_is_number
  have b_law_is_number := F_law_is_number.binds (ps := ["actual"]) fun _ _ _ _ _ _ us hl => match us, hl with | [_], _ => rfl
  have F_law_fits := fun_mk (st := s_law_fits) l_law_fits c_law_fits k_law_fits
  have b_law_fits := F_law_fits.binds (ps := ["segments", "blocks", "size"]) fun _ _ _ _ _ _ us hl => match us, hl with | [_, _, _], _ => rfl
  have F_law_told := fun_mk (st := s_law_told) l_law_told c_law_told k_law_told
  have b_law_told := F_law_told.binds (ps := ["layout", "segments", "blocks", "size"]) fun _ _ _ _ _ _ us hl => match us, hl with | [_, _, _, _], _ => rfl
  have F_law_refused := fun_mk (st := s_law_refused) l_law_refused c_law_refused k_law_refused
  have b_law_refused := F_law_refused.binds (ps := ["segments", "blocks", "size"]) fun _ _ _ _ _ _ us hl => match us, hl with | [_, _, _], _ => rfl
  have F_law_asked := fun_mk (st := s_law_asked) l_law_asked c_law_asked k_law_asked
  have b_law_asked := F_law_asked.binds (ps := ["segments", "blocks", "size"]) fun _ _ _ _ _ _ us hl => match us, hl with | [_, _, _], _ => rfl
  have F_law_any_layout := fun_mk (st := s_law_any_layout) l_law_any_layout c_law_any_layout k_law_any_layout
  have b_law_any_layout := F_law_any_layout.binds (ps := ["box"]) fun _ _ _ _ _ _ us hl => match us, hl with | [_], _ => rfl
  have F_law_same := fun_mk (st := s_law_same) l_law_same c_law_same k_law_same
  have b_law_same := F_law_same.binds (ps := ["actual", "due"]) fun _ _ _ _ _ _ us hl => match us, hl with | [_, _], _ => rfl
  have F_law_parts := fun_mk (st := s_law_parts) l_law_parts c_law_parts k_law_parts
  have b_law_parts := F_law_parts.binds (ps := ["number", "size"]) fun _ _ _ _ _ _ us hl => match us, hl with | [_, _], _ => rfl
  have F_law_places := fun_mk (st := s_law_places) l_law_places c_law_places k_law_places
  have b_law_places := F_law_places.binds (ps := ["layout", "box"]) fun _ _ _ _ _ _ us hl => match us, hl with | [_, _], _ => rfl
  have F_law := fun_mk (st := s_law) l_law c_law k_law
  have b_law := F_law.binds (ps := ["script"]) fun _ _ _ _ _ _ us hl => match us, hl with | [_], _ => rfl
  let T : Txt K mg := {
    a_Layout___init := f_Layout___init,
    fd_Layout___init := _,
    F_Layout___init := F_Layout___init,
    b_Layout___init := b_Layout___init,
    a_address_at := f_address_at,
    fd_address_at := _,
    F_address_at := F_address_at,
    b_address_at := b_address_at,
    m_address_at := PySem.W.mg_of X G a_address_at,
    a_segment_of := f_segment_of,
    fd_segment_of := _,
    F_segment_of := F_segment_of,
    b_segment_of := b_segment_of,
    m_segment_of := PySem.W.mg_of X G a_segment_of,
    a_place_of := f_place_of,
    fd_place_of := _,
    F_place_of := F_place_of,
    b_place_of := b_place_of,
    m_place_of := PySem.W.mg_of X G a_place_of,
    a_region_start := f_region_start,
    fd_region_start := _,
    F_region_start := F_region_start,
    b_region_start := b_region_start,
    m_region_start := PySem.W.mg_of X G a_region_start,
    a_parts_of := f_parts_of,
    fd_parts_of := _,
    F_parts_of := F_parts_of,
    b_parts_of := b_parts_of,
    m_parts_of := PySem.W.mg_of X G a_parts_of,
    a_law_number := f_law_number,
    fd_law_number := _,
    F_law_number := F_law_number,
    b_law_number := b_law_number,
    m_law_number := PySem.W.mg_of X G a_law_number,
    a_law_take := f_law_take,
    fd_law_take := _,
    F_law_take := F_law_take,
    b_law_take := b_law_take,
    m_law_take := PySem.W.mg_of X G a_law_take,
    a_law_layout := f_law_layout,
    fd_law_layout := _,
    F_law_layout := F_law_layout,
    b_law_layout := b_law_layout,
    m_law_layout := PySem.W.mg_of X G a_law_layout,
    a_law_is_number := f_law_is_number,
    fd_law_is_number := _,
    F_law_is_number := F_law_is_number,
    b_law_is_number := b_law_is_number,
    m_law_is_number := PySem.W.mg_of X G a_law_is_number,
    a_law_fits := f_law_fits,
    fd_law_fits := _,
    F_law_fits := F_law_fits,
    b_law_fits := b_law_fits,
    m_law_fits := PySem.W.mg_of X G a_law_fits,
    a_law_told := f_law_told,
    fd_law_told := _,
    F_law_told := F_law_told,
    b_law_told := b_law_told,
    m_law_told := PySem.W.mg_of X G a_law_told,
    a_law_refused := f_law_refused,
    fd_law_refused := _,
    F_law_refused := F_law_refused,
    b_law_refused := b_law_refused,
    m_law_refused := PySem.W.mg_of X G a_law_refused,
    a_law_asked := f_law_asked,
    fd_law_asked := _,
    F_law_asked := F_law_asked,
    b_law_asked := b_law_asked,
    m_law_asked := PySem.W.mg_of X G a_law_asked,
    a_law_any_layout := f_law_any_layout,
    fd_law_any_layout := _,
    F_law_any_layout := F_law_any_layout,
    b_law_any_layout := b_law_any_layout,
    m_law_any_layout := PySem.W.mg_of X G a_law_any_layout,
    a_law_same := f_law_same,
    fd_law_same := _,
    F_law_same := F_law_same,
    b_law_same := b_law_same,
    m_law_same := PySem.W.mg_of X G a_law_same,
    a_law_parts := f_law_parts,
    fd_law_parts := _,
    F_law_parts := F_law_parts,
    b_law_parts := b_law_parts,
    m_law_parts := PySem.W.mg_of X G a_law_parts,
    a_law_places := f_law_places,
    fd_law_places := _,
    F_law_places := F_law_places,
    b_law_places := b_law_places,
    m_law_places := PySem.W.mg_of X G a_law_places,
    a_law := fa,
    fd_law := _,
    F_law := F_law,
    b_law := b_law,
    m_law := PySem.W.mg_of X G a_law,
    A_InvalidFormat := X_InvalidFormat,
    m_InvalidFormat := PySem.W.mg_of X G mX_InvalidFormat,
    A_SegmentError := X_SegmentError,
    m_SegmentError := PySem.W.mg_of X G mX_SegmentError,
    A_OutOfRange := X_OutOfRange,
    m_OutOfRange := PySem.W.mg_of X G mX_OutOfRange,
    A_InvalidImage := X_InvalidImage,
    m_InvalidImage := PySem.W.mg_of X G mX_InvalidImage,
    x_InvalidFormat := xx_InvalidFormat,
    k_InvalidFormat := xk_InvalidFormat,
    b_InvalidFormat := xb_InvalidFormat,
    t_InvalidFormat := xt_InvalidFormat,
    e_InvalidFormat := ⟨xga_InvalidFormat, xgt_InvalidFormat, xb_InvalidFormat, xhd_InvalidFormat, xca_InvalidFormat, xsp, xtk, xmr_InvalidFormat⟩,
    ex_InvalidFormat_SegmentError := PySem.W.exm_ref xb_SegmentError xhd_SegmentError xt_SegmentError xs_InvalidFormat_SegmentError,
    kit_InvalidFormat_ValueError := kit_blt (by decide +kernel) xs_InvalidFormat_ValueError,
    kit_InvalidFormat_OutOfRange := kit_own xhd_OutOfRange xt_OutOfRange xs_InvalidFormat_OutOfRange (.inr xn_InvalidFormat_OutOfRange),
    kit_InvalidFormat_InvalidImage := kit_own xhd_InvalidImage xt_InvalidImage xs_InvalidFormat_InvalidImage (.inr xn_InvalidFormat_InvalidImage),
    kit_InvalidFormat_InvalidFormat := kit_own xhd_InvalidFormat xt_InvalidFormat xs_InvalidFormat_InvalidFormat (.inl rfl),
    A_Layout := C_Layout,
    m_Layout := PySem.W.mg_of X G mC_Layout,
    cl_Layout := ⟨pg_Layout, hd_Layout, po_Layout, sa_Layout⟩,
    M_Layout := ⟨mk_Layout, a_Layout___init, i_Layout___init, kc_Layout⟩,
    na_Layout_segments := na_Layout_segments,
    na_Layout_segment_blocks := na_Layout_segment_blocks,
    na_Layout_block_size := na_Layout_block_size,
    na_Layout_payload := na_Layout_payload,
    na_Layout_limit := na_Layout_limit,
    na_Layout_last_id := na_Layout_last_id,
    na_Layout_fan := na_Layout_fan,
    na_Layout_region_blocks := na_Layout_region_blocks,
    na_Layout_device_blocks := na_Layout_device_blocks,
    a_BLOCK_SIZES := k_BLOCK_SIZES,
    c_BLOCK_SIZES := PySem.W.mg_of X G q_BLOCK_SIZES,
    r_BLOCK_SIZES := rfl,
    v_BLOCK_SIZES := fun _ => .inr ⟨_, _, _, y_BLOCK_SIZES, rfl, rfl, Nat.le_of_ble_eq_true rfl, (.cons ⟨_, rfl⟩ (.cons ⟨_, rfl⟩ (.cons ⟨_, rfl⟩ .nil)))⟩,
    t_SUMMARY_HEAD := t_SUMMARY_HEAD,
    c_SUMMARY_HEAD := PySem.W.mg_of X G q_SUMMARY_HEAD,
    r_SUMMARY_HEAD := ⟨_, rfl⟩,
    n_ValueError := PySem.W.mg_none_of X G n_ValueError,
    n_bool := PySem.W.mg_none_of X G n_bool,
    n_int := PySem.W.mg_none_of X G n_int,
    n_isinstance := PySem.W.mg_none_of X G n_isinstance,
    n_len := PySem.W.mg_none_of X G n_len,
    n_range := PySem.W.mg_none_of X G n_range }
  exact ⟨_, fun s v => .of_eq rfl, fun base _ _ => ok_law T⟩
theorem walk {l : PySem.W.OpenLaw} {q : Program} {loose : List Str} {XP : (Str → Option Value) → Heap → Prop} {YP : World → Heap → Prop} {d : DefRec} {K : Params → PySem.W.Frag} (hn : l.most = some 63) (hdf : d.params.defaults = [])
    (hY : ∀ (w : World) (h : Heap), YP w h → (K w.params).In h)
    (F : ∀ (w : World) (mg : Str → Option Value) (fa : Addr) (h : Heap), (K w.params).In h → h.Ns mainGlobals mg → mg d.name = some (.ref fa) →
      ∃ fd : FuncData, (∀ (s : Shared) (u : Value), BindsTo s fd ⟨[u], []⟩ [("script", u)]) ∧ ∀ base : Heap, (K w.params).In base → base.Ns mainGlobals mg → FnOk l.prog w (K w.params) mg base CX0 6 fa fd ["script"] (spLaw (K w.params))) :
    PySem.W.WalkO q loose XP YP l.row.toRowW d [] (fun f vs => PySem.call f vs) :=
  L2.walk_of (n := 63) (k := 6) (x := "script") (CX := fun _ => CX0) (sp := fun w => spLaw (K w.params)) hn (by decide) hdf ⟨rfl, by decide, by decide⟩ hY F (fun _ _ a ns hl hO hS => ⟨a, ns, rfl, hS, hl, fun _ => rfl⟩) fun _ _ _ _ _ z => z
end Sg

open PySem PySem.W PyProof.Rows in
set_option maxRecDepth 100000 in
set_option maxHeartbeats 0 in
theorem PySem.Challenge.cw_segmentfs_k64_layouts_and_addresses_holds : PySem.Challenge.rw_segmentfs_k64_layouts_and_addresses.Holds := by
  w_on; o_law; k_head; (case hw => w_witness2)
  k_fill
  refine Sg.walk (l := PySem.Challenge.rw_segmentfs_k64_layouts_and_addresses) rfl rfl (fun w h Y => PySem.W.kIn_of Y) ?F
  case F =>
    intro w mg fa h KX G hmg
    refine' Sg.all_mk KX G hmg ?mX_InvalidFormat ?mX_SegmentError ?mX_OutOfRange ?mX_InvalidImage ?xx_InvalidFormat ?xk_InvalidFormat ?xb_InvalidFormat ?xt_InvalidFormat ?xga_InvalidFormat ?xgt_InvalidFormat ?xhd_InvalidFormat ?xca_InvalidFormat ?xmr_InvalidFormat ?xsp ?xtk ?xhd_InvalidImage ?xt_InvalidImage ?xhd_OutOfRange ?xt_OutOfRange ?xhd_SegmentError ?xt_SegmentError ?xb_SegmentError ?xs_InvalidFormat_InvalidFormat ?xs_InvalidFormat_InvalidImage ?xn_InvalidFormat_InvalidImage ?xs_InvalidFormat_OutOfRange ?xn_InvalidFormat_OutOfRange ?xs_InvalidFormat_SegmentError ?xs_InvalidFormat_ValueError ?mC_Layout ?pg_Layout ?hd_Layout ?po_Layout ?sa_Layout ?mk_Layout ?kc_Layout ?na_Layout_segments ?na_Layout_segment_blocks ?na_Layout_block_size ?na_Layout_payload ?na_Layout_limit ?na_Layout_last_id ?na_Layout_fan ?na_Layout_region_blocks ?na_Layout_device_blocks ?a_Layout___init ?i_Layout___init ?l_Layout___init ?c_Layout___init ?k_Layout___init ?a_address_at ?l_address_at ?c_address_at ?k_address_at ?a_segment_of ?l_segment_of ?c_segment_of ?k_segment_of ?a_place_of ?l_place_of ?c_place_of ?k_place_of ?a_region_start ?l_region_start ?c_region_start ?k_region_start ?a_parts_of ?l_parts_of ?c_parts_of ?k_parts_of ?a_law_number ?l_law_number ?c_law_number ?k_law_number ?a_law_take ?l_law_take ?c_law_take ?k_law_take ?a_law_layout ?l_law_layout ?c_law_layout ?k_law_layout ?a_law_is_number ?l_law_is_number ?c_law_is_number ?k_law_is_number ?a_law_fits ?l_law_fits ?c_law_fits ?k_law_fits ?a_law_told ?l_law_told ?c_law_told ?k_law_told ?a_law_refused ?l_law_refused ?c_law_refused ?k_law_refused ?a_law_asked ?l_law_asked ?c_law_asked ?k_law_asked ?a_law_any_layout ?l_law_any_layout ?c_law_any_layout ?k_law_any_layout ?a_law_same ?l_law_same ?c_law_same ?k_law_same ?a_law_parts ?l_law_parts ?c_law_parts ?k_law_parts ?a_law_places ?l_law_places ?c_law_places ?k_law_places ?a_law ?l_law ?c_law ?k_law ?q_BLOCK_SIZES ?y_BLOCK_SIZES ?q_SUMMARY_HEAD ?n_ValueError ?n_bool ?n_int ?n_isinstance ?n_len ?n_range
    (case mX_InvalidFormat => k_is)
    (case mX_SegmentError => k_is)
    (case mX_OutOfRange => k_is)
    (case mX_InvalidImage => k_is)
    (case xx_InvalidFormat => k_exc)
    (case xk_InvalidFormat => k_is)
    (case xb_InvalidFormat => k_is)
    (case xt_InvalidFormat => k_is)
    (case xga_InvalidFormat => k_is)
    (case xgt_InvalidFormat => k_is)
    (case xhd_InvalidFormat => k_is)
    (case xca_InvalidFormat => k_is)
    (case xmr_InvalidFormat => k_is)
    (case xsp => k_is)
    (case xtk => k_is)
    (case xhd_InvalidImage => k_is)
    (case xt_InvalidImage => k_is)
    (case xhd_OutOfRange => k_is)
    (case xt_OutOfRange => k_is)
    (case xhd_SegmentError => k_is)
    (case xt_SegmentError => k_is)
    (case xb_SegmentError => k_is)
    (case xs_InvalidFormat_InvalidFormat => first | rfl | k_is)
    (case xs_InvalidFormat_InvalidImage => first | rfl | k_is)
    (case xn_InvalidFormat_InvalidImage => first | rfl | decide +kernel)
    (case xs_InvalidFormat_OutOfRange => first | rfl | k_is)
    (case xn_InvalidFormat_OutOfRange => first | rfl | decide +kernel)
    (case xs_InvalidFormat_SegmentError => first | rfl | k_is)
    (case xs_InvalidFormat_ValueError => first | rfl | k_is)
    (case mC_Layout => k_is)
    (case pg_Layout => k_is)
    (case hd_Layout => k_is)
    (case po_Layout => k_is)
    (case sa_Layout => k_is)
    (case mk_Layout => k_is)
    (case kc_Layout => k_is)
    (case na_Layout_segments => k_is)
    (case na_Layout_segment_blocks => k_is)
    (case na_Layout_block_size => k_is)
    (case na_Layout_payload => k_is)
    (case na_Layout_limit => k_is)
    (case na_Layout_last_id => k_is)
    (case na_Layout_fan => k_is)
    (case na_Layout_region_blocks => k_is)
    (case na_Layout_device_blocks => k_is)
    (case a_Layout___init => k_is)
    (case i_Layout___init => k_is)
    (case l_Layout___init => k_is)
    (case c_Layout___init => k_is)
    (case k_Layout___init => k_is)
    (case a_address_at => k_is)
    (case l_address_at => k_is)
    (case c_address_at => k_is)
    (case k_address_at => k_is)
    (case a_segment_of => k_is)
    (case l_segment_of => k_is)
    (case c_segment_of => k_is)
    (case k_segment_of => k_is)
    (case a_place_of => k_is)
    (case l_place_of => k_is)
    (case c_place_of => k_is)
    (case k_place_of => k_is)
    (case a_region_start => k_is)
    (case l_region_start => k_is)
    (case c_region_start => k_is)
    (case k_region_start => k_is)
    (case a_parts_of => k_is)
    (case l_parts_of => k_is)
    (case c_parts_of => k_is)
    (case k_parts_of => k_is)
    (case a_law_number => k_is)
    (case l_law_number => k_is)
    (case c_law_number => k_is)
    (case k_law_number => k_is)
    (case a_law_take => k_is)
    (case l_law_take => k_is)
    (case c_law_take => k_is)
    (case k_law_take => k_is)
    (case a_law_layout => k_is)
    (case l_law_layout => k_is)
    (case c_law_layout => k_is)
    (case k_law_layout => k_is)
    (case a_law_is_number => k_is)
    (case l_law_is_number => k_is)
    (case c_law_is_number => k_is)
    (case k_law_is_number => k_is)
    (case a_law_fits => k_is)
    (case l_law_fits => k_is)
    (case c_law_fits => k_is)
    (case k_law_fits => k_is)
    (case a_law_told => k_is)
    (case l_law_told => k_is)
    (case c_law_told => k_is)
    (case k_law_told => k_is)
    (case a_law_refused => k_is)
    (case l_law_refused => k_is)
    (case c_law_refused => k_is)
    (case k_law_refused => k_is)
    (case a_law_asked => k_is)
    (case l_law_asked => k_is)
    (case c_law_asked => k_is)
    (case k_law_asked => k_is)
    (case a_law_any_layout => k_is)
    (case l_law_any_layout => k_is)
    (case c_law_any_layout => k_is)
    (case k_law_any_layout => k_is)
    (case a_law_same => k_is)
    (case l_law_same => k_is)
    (case c_law_same => k_is)
    (case k_law_same => k_is)
    (case a_law_parts => k_is)
    (case l_law_parts => k_is)
    (case c_law_parts => k_is)
    (case k_law_parts => k_is)
    (case a_law_places => k_is)
    (case l_law_places => k_is)
    (case c_law_places => k_is)
    (case k_law_places => k_is)
    (case a_law => k_is)
    (case l_law => k_is)
    (case c_law => k_is)
    (case k_law => k_is)
    (case q_BLOCK_SIZES => k_is)
    (case y_BLOCK_SIZES => k_is)
    (case q_SUMMARY_HEAD => k_is)
    (case n_ValueError => k_is)
    (case n_bool => k_is)
    (case n_int => k_is)
    (case n_isinstance => k_is)
    (case n_len => k_is)
    (case n_range => k_is)

