import PyProof.Rows.All
import Wide.All
import OpenK.AllK
import Wide.FinOn
import HandS.ForMost
import HandS.IsInst
import HandS.Style
import HandS.Wide
import HandS.Codes
import HandS.NoneIn
import HandS.Defaults
import HandS.TupMul
import HandS.Zip
import HandS.SetFor
import HandS.SetKeys
import HandS.Walk
import HandS.Codes
import HandS.MakeKw
import HandS.MakeKwOnly
import HandS.Property
import HandS.WideBits
import HandS.Iter
import KE.GoesEnum
import PySem.Challenge.RW_segmentfs_k47_inodes_as_octets
set_option Elab.async false
set_option maxRecDepth 100000
set_option maxHeartbeats 4000000
/-! what every text of mine begins with: heaps that grow, and a rule for each head that a reading has -/
namespace Sg
open PySem L2
theorem sz : sizeLine = 16777216 := by decide
theorem Same.of_new {H H' : Hp} {p : Addr} {o : HO} (e : upd H p o = H') (h : H p = none) : Same H H' := fun b u q => by
  rw [← e, upd_ne (ne_of_none q h)]; exact q
theorem at_new {H H' : Hp} {p : Addr} {o : HO} (e : upd H p o = H') : H' p = some o := by rw [← e]; exact upd_same
theorem Same.tup {K : PySem.W.Frag} {H H' : Hp} {a : Addr} {xs : List V} (e : Same H H') (h : SqT K H a xs) : SqT K H' a xs := by
  rcases h with (h | ⟨o, h⟩) | h
  · exact .inl (.inl (e _ _ h))
  · exact .inl (.inr ⟨o, e _ _ h⟩)
  · exact .inr h
/-- an object that is younger than H0 is changed -/
theorem Same.old {H0 H H' : Hp} {p : Addr} {o : HO} (s : Same H0 H) (h : H0 p = none) (e : upd H p o = H') : Same H0 H' := fun b u q => by
  rw [← e, upd_ne (ne_of_none q h)]; exact s _ _ q
theorem at_keep {H H' : Hp} {l a : Addr} {o o' ol : HO} (e : upd H l o' = H') (h : H a = some o) (h' : H l = some ol) (d : o ≠ ol) : H' a = some o := by
  rw [← e, upd_ne (ne_of h h' d)]; exact h
theorem lk_eq {f : Str} {v : V} {fs : List (Str × V)} : (putF f v fs).lookup f = some v := by rw [lookup_putF, if_pos rfl]
theorem lk_ne {f g : Str} {v x : V} {fs : List (Str × V)} (h : ¬ g = f) (q : fs.lookup g = some v) : (putF f x fs).lookup g = some v := by rw [lookup_putF, if_neg h]; exact q
theorem lk_no {f g : Str} {x : V} {fs : List (Str × V)} (h : ¬ g = f) (q : fs.lookup g = none) : (putF f x fs).lookup g = none := by rw [lookup_putF, if_neg h]; exact q
theorem putF_len {f : Str} {v : V} : ∀ {fs : List (Str × V)} {n : Nat}, fs.length ≤ n → (putF f v fs).length ≤ n + 1
  | [], n, _ => by simp [putF]
  | (g, x) :: r, n, h => by
    unfold putF
    split
    · simp at h ⊢; omega
    · cases n with
      | zero => simp at h
      | succ n =>
        simp at h ⊢
        exact putF_len h
theorem to_ite {A B : Prop} {b : Bool} (h1 : b = true → A) (h2 : b = false → B) : if b = true then A else B := by
  cases b with
  | true => exact iteT (h1 rfl)
  | false => exact iteF (h2 rfl)
theorem iteT' {A B : Prop} (h : A) : if (true : Bool) = true then A else B := iteT h
theorem iteF' {A B : Prop} (h : B) : if (false : Bool) = true then A else B := iteF h
theorem r_iteb {A B : Prop} {b : Bool} (hb : b = true) (h : A) : if b = true then A else B := to_ite (fun _ => h) fun z => by rw [hb] at z; cases z
theorem r_iteB {A B : Prop} {b : Bool} (hb : b = false) (h : B) : if b = true then A else B := to_ite (fun z => by rw [hb] at z; cases z) fun _ => h
theorem r_ite {A B c : Prop} [Decidable c] (h1 : c → A) (h2 : ¬ c → B) : if decide c = true then A else B :=
  to_ite (fun h => h1 (of_decide_eq_true h)) (fun h => h2 (of_decide_eq_false h))
theorem r_iteN {A B c : Prop} [Decidable c] (h1 : ¬ c → A) (h2 : c → B) : if (!decide c) = true then A else B :=
  to_ite (fun h => h1 (by simpa using h)) (fun h => h2 (by simpa using h))
theorem r_iteD {A B c : Prop} [Decidable c] (hc : c) (h : A) : if decide c = true then A else B := r_ite (fun _ => h) fun z => absurd hc z
theorem r_iteDn {A B c : Prop} [Decidable c] (hc : ¬ c) (h : B) : if decide c = true then A else B := r_ite (fun z => absurd z hc) fun _ => h
theorem r_iteND {A B c : Prop} [Decidable c] (hc : ¬ c) (h : A) : if (!decide c) = true then A else B := r_iteN (fun _ => h) fun z => absurd z hc
theorem r_iteNDn {A B c : Prop} [Decidable c] (hc : c) (h : B) : if (!decide c) = true then A else B := r_iteN (fun z => absurd hc z) fun _ => h
/-- the continuations of a reading, by name -/
def kTest (QB : Bool → Hp → Prop) : V → Hp → Prop := fun x H => ∃ k, x = .bl k ∧ QB k H
def kFld (K : PySem.W.Frag) (f : Str) (Q : V → Hp → Prop) : V → Hp → Prop := fun x H => ∃ a C dx fs v, x = .ref a ∧ H a = some (.ins C dx fs) ∧ Cls K C ∧ NoAttr K C f ∧ fs.lookup f = some v ∧ Q v H
def kSfld (K : PySem.W.Frag) (D : Ends) (σ : L2.St) (f : Str) (y : V) : V → Hp → Prop := fun x H => ∃ a C dx fs, x = .ref a ∧ H a = some (.ins C dx fs) ∧ Cls K C ∧ NoAttr K C f ∧ fs.length < 1000 ∧
  D.nx σ (upd H a (.ins C dx (putF f y fs)))
def kMeth (C : Addr) (m : Str) (sp : Sp) (dvs : List V) (E : XK) (σ : L2.St) (t : TA) (Q : V → Hp → Prop) : V → Hp → Prop := fun x H => ∃ a dx fs, x = .ref a ∧ H a = some (.ins C dx fs) ∧ fs.lookup m = none ∧ t σ H fun vs H2 => sp (x :: (vs ++ dvs)) H2 Q E
def kTup (Q : V → Hp → Prop) : List V → Hp → Prop := fun xs H => xs.length ≤ sizeLine ∧ ∀ p, H p = none → Q (.ref p) (upd H p (.tup xs))
def kLst (Q : V → Hp → Prop) : List V → Hp → Prop := fun xs H => xs.length ≤ sizeLine ∧ ∀ p, H p = none → Q (.ref p) (upd H p (.lst xs))
def rLen (K : PySem.W.Frag) : List V → Hp → (V → Hp → Prop) → Prop := fun xs H Q => ∃ p ys, xs = [.ref p] ∧ (SqL K H p ys ∨ SqT K H p ys) ∧ Q (.int ys.length) H
theorem c_len {X : Cx} : CallR X (.builtin "len") (rLen X.K) := call_len_seq
def rInt : List V → Hp → (V → Hp → Prop) → Prop := fun xs H Q => (∃ i, xs = [.int i] ∧ Q (.int i) H) ∨ ∃ k, xs = [.bl k] ∧ Q (.int (if k then 1 else 0)) H
theorem c_int {X : Cx} : CallR X (.type "int") rInt := call_int1
def rListOf (K : PySem.W.Frag) : List V → Hp → (V → Hp → Prop) → Prop := fun xs H Q => ∃ p ys, xs = [.ref p] ∧ (SqL K H p ys ∨ SqT K H p ys) ∧ ∀ l, H l = none → Q (.ref l) (upd H l (.lst ys))
theorem c_list {X : Cx} : CallR X (.type "list") (rListOf X.K) := call_list_of
def rTupOf (K : PySem.W.Frag) : List V → Hp → (V → Hp → Prop) → Prop := fun xs H Q => ∃ p ys, xs = [.ref p] ∧ ((SqL K H p ys ∧ ∀ l, H l = none → Q (.ref l) (upd H l (.tup ys))) ∨ (SqT K H p ys ∧ Q (.ref p) H))
theorem c_tuple {X : Cx} : CallR X (.type "tuple") (rTupOf X.K) := call_tuple_of
/-! the same rules within a comprehension: the written part by its own name -/
section
variable {X : Cx}
theorem c_listK (K : PySem.W.Frag) (h : X.K = K) : CallR X (.type "list") (rListOf K) := by subst h; exact c_list
theorem c_tupleK (K : PySem.W.Frag) (h : X.K = K) : CallR X (.type "tuple") (rTupOf K) := by subst h; exact c_tuple
theorem c_lenK (K : PySem.W.Frag) (h : X.K = K) : CallR X (.builtin "len") (rLen K) := by subst h; exact c_len
theorem ix_listK (K : PySem.W.Frag) (h : X.K = K) : IxR X (rIxL K) := by subst h; exact ix_list
theorem ix_tupK (K : PySem.W.Frag) (h : X.K = K) : IxR X (rIxT K) := by subst h; exact ix_tup
theorem op_in_seqK (K : PySem.W.Frag) (h : X.K = K) : OpR X (compareOp .In) (rIn K false) := by subst h; exact op_in_seq
theorem op_notIn_seqK (K : PySem.W.Frag) (h : X.K = K) : OpR X (compareOp .NotIn) (rIn K true) := by subst h; exact op_notIn_seq
theorem pe_fldK (K : PySem.W.Frag) (h : X.K = K) {e : Expr} {f : Str} {pos : Pos} {ta : TE} (he : PE X e ta) (hb : attributeBase e f X.env (eval e X.env) = eval e X.env) : PE X (.Attribute e f pos) (tFld K ta f) := by subst h; exact pe_fld he hb
end
section
variable {σ : L2.St} {H : Hp} {D : Ends} {t u : TS} {te ta tb tc : TE} {g : TG} {c ct cu : TT} {Q : VK} {QB : Bool → Hp → Prop} {QS : L2.St → Hp → Prop} {QA : List V → Hp → Prop} {v x y : V} {K : PySem.W.Frag} {a p l : Addr} {xs ys : List V} {i j : Int} {b : Bool}
theorem r_seq (h : t { D with nx := u D } σ H) : tSeq t u D σ H := h
theorem r_cut (Mid : L2.St → Hp → Prop) (h1 : t { D with nx := Mid } σ H) (h2 : ∀ σ' H', Mid σ' H' → u D σ' H') : C8.tCut t u D σ H := ⟨Mid, h1, h2⟩
/-- a test with nothing kept behind it -/
theorem r_cutS (h1 : t { D with nx := fun σ' H' => σ = σ' ∧ H = H' } σ H) (h2 : u D σ H) : C8.tCut t u D σ H := ⟨_, h1, fun _ _ ⟨e1, e2⟩ => by subst e1; subst e2; exact h2⟩
/-- .. but a heap that grew -/
theorem r_cutH (h1 : t { D with nx := fun σ' H' => σ = σ' ∧ L2.Same H H' } σ H) (h2 : ∀ H', L2.Same H H' → u D σ H') : C8.tCut t u D σ H := ⟨_, h1, fun _ _ ⟨e1, e2⟩ => by subst e1; exact h2 _ e2⟩
theorem r_asg (h : te σ H fun x H1 => g x σ H1 D.nx) : tAsg te g D σ H := h
theorem r_drop (h : te σ H fun _ H1 => D.nx σ H1) : tDrop te D σ H := h
theorem r_ret (h : te σ H D.rt) : tRet te D σ H := h
theorem r_ifs (h : c σ H fun b H1 => if b = true then t D σ H1 else u D σ H1) : tIfS c t u D σ H := h
theorem r_next (h : D.nx σ H) : tNext D σ H := h
theorem r_gname {n : Nat} (h : QS (σ.set n (some v)) H) : gName n v σ H QS := h
theorem r_gtup {n : Nat} {t : TGs} (hx : SqT K H a xs) (hl : xs.length = n) (h : t xs σ H QS) : gTup K n t (.ref a) σ H QS := ⟨a, xs, rfl, hx, hl, h⟩
theorem r_gunl {n : Nat} {t : TGs} (hx : SqL K H a xs) (hl : xs.length = n) (h : t xs σ H QS) : gUnl K n t (.ref a) σ H QS := ⟨a, xs, rfl, hx, hl, h⟩
theorem r_chain {r r' : R2} (h : ta σ H fun x H1 => tb σ H1 fun y H2 => r x y H2 fun z H3 => ∃ k, z = .bl k ∧ (if k = true then tc σ H3 fun w' H4 => r' y w' H4 Q else Q (.bl false) H3)) : tChain r r' ta tb tc σ H Q := h
theorem r_sfldL {C dx : Addr} {fs : List (Str × V)} {f : Str} (h : H a = some (.ins C dx fs)) (hc : Cls K C) (hn : NoAttr K C f) (hl : fs.length < 1000) (q : D.nx σ (upd H a (.ins C dx (putF f y fs)))) : kSfld K D σ f y (.ref a) H := ⟨a, C, dx, fs, rfl, h, hc, hn, hl, q⟩
theorem r_gmap {α : Type} {f : α → V} {y : α} {r : List α} {t : TG} {u : TGs} (h : t (f y) σ H fun σ' H' => u (List.map f r) σ' H' QS) : gCons t u (List.map f (y :: r)) σ H QS := ⟨_, _, rfl, h⟩
theorem r_gmapn {α : Type} {f : α → V} (h : QS σ H) : gNil (List.map f []) σ H QS := ⟨rfl, h⟩
theorem r_gnil (h : QS σ H) : gNil [] σ H QS := ⟨rfl, h⟩
theorem r_gcons {t : TG} {u : TGs} {r : List V} (h : t v σ H fun σ' H' => u r σ' H' QS) : gCons t u (v :: r) σ H QS := ⟨v, r, rfl, h⟩
theorem r_gsub {t : TSet} (h : ta σ H fun o H1 => tb σ H1 fun i H2 => t o i v H2 fun H3 => QS σ H3) : gSub ta tb t v σ H QS := h
theorem r_setl {k : Int} {n : Nat} {R : Hp → Prop} (h1 : H p = some (.lst xs)) (h2 : ixN xs.length k = some n) (q : R (upd H p (.lst (xs.set n v)))) : rSetL (.ref p) (.int k) v H R := ⟨p, xs, k, n, rfl, rfl, h1, h2, q⟩
theorem r_var {n : Nat} (h : σ[n]? = some (some v)) (q : Q v H) : tVar n σ H Q := ⟨v, h, q⟩
theorem r_c (q : Q v H) : tC v σ H Q := q
theorem r_op {r : R2} (h : ta σ H fun x H1 => tb σ H1 fun y H2 => r x y H2 Q) : tOp r ta tb σ H Q := h
theorem r_un {r : V → Hp → VK → Prop} (h : ta σ H fun x H1 => r x H1 Q) : tUn r ta σ H Q := h
theorem r_rI {C : Int → Int → Prop} {g : Int → Int → V} (hc : C i j) (q : Q (g i j) H) : rI C g (.int i) (.int j) H Q := ⟨i, j, rfl, rfl, hc, q⟩
theorem r_mod (hc : 0 < j) (q : ∀ z : Int, z = i % j → 0 ≤ z → z < j → Q (.int z) H) : rI (fun _ j => 0 < j) (fun i j => .int (i % j)) (.int i) (.int j) H Q :=
  ⟨i, j, rfl, rfl, hc, q _ rfl (Int.emod_nonneg i (by omega)) (Int.emod_lt_of_pos i hc)⟩
theorem r_rI0 {g : Int → Int → V} (q : Q (g i j) H) : rI0 g (.int i) (.int j) H Q := ⟨i, j, rfl, rfl, q⟩
theorem r_rU {g : Int → V} (q : Q (g i) H) : rU g (.int i) H Q := ⟨i, rfl, q⟩
theorem r_eq (hs : scal x y = true) (q : Q (.bl (decide (x = y))) H) : rEq x y H Q := ⟨hs, q⟩
theorem r_ne (hs : scal x y = true) (q : Q (.bl (!decide (x = y))) H) : rNe x y H Q := ⟨hs, q⟩
theorem r_eqi (q : Q (.bl (decide (i = j))) H) : rEq (.int i) (.int j) H Q := ⟨rfl, by
  rw [show decide (V.int i = V.int j) = decide (i = j) from by by_cases e : i = j <;> simp [e]]; exact q⟩
theorem r_nei (q : Q (.bl (!decide (i = j))) H) : rNe (.int i) (.int j) H Q := ⟨rfl, by
  rw [show decide (V.int i = V.int j) = decide (i = j) from by by_cases e : i = j <;> simp [e]]; exact q⟩
theorem r_nonR {A B : Prop} (h : A) : if (!decide (V.ref a = V.non)) = true then A else B := iteT' h
theorem r_nonN {A B : Prop} (h : B) : if (!decide (V.non = V.non)) = true then A else B := iteF' h
theorem r_isR {A B : Prop} (h : B) : if decide (V.ref a = V.non) = true then A else B := iteF' h
theorem r_isNN {A B : Prop} (h : A) : if decide (V.non = V.non) = true then A else B := iteT' h
theorem r_nonI {A B : Prop} (h : A) : if (!decide (V.int i = V.non)) = true then A else B := iteT' h
theorem r_isI {A B : Prop} (h : B) : if decide (V.int i = V.non) = true then A else B := iteF' h
theorem r_nil (q : QA [] H) : tNil σ H QA := q
theorem r_cons {tr : TA} (h : ta σ H fun x H1 => tr σ H1 fun xs H2 => QA (x :: xs) H2) : tCons ta tr σ H QA := h
theorem r_cb {r : List V → Hp → VK → Prop} {t : TA} (h : t σ H fun vs H1 => r vs H1 Q) : tCB r t σ H Q := h
theorem r_call {sp : Sp} {dvs : List V} {E : XK} {t : TA} (h : t σ H fun vs H1 => sp (vs ++ dvs) H1 Q E) : tCall sp dvs E t σ H Q := h
theorem r_make {C : Addr} {sp : Sp} {dvs : List V} {E : XK} {t : TA} (h : t σ H fun vs H1 => ∀ x dx, H1 x = none → H1 dx = none → dx ≠ x →
  sp (.ref x :: (vs ++ dvs)) (upd (upd H1 dx (.own x)) x (.ins C dx [])) (fun v H2 => v = .non ∧ Q (.ref x) H2) E) : tMake C sp dvs E t σ H Q := h
theorem r_meth {C : Addr} {m : Str} {sp : Sp} {dvs : List V} {E : XK} {t : TA} (h : ta σ H (kMeth C m sp dvs E σ t Q)) : tMeth C m sp dvs E ta t σ H Q := h
theorem r_methL {C : Addr} {dx : Addr} {fs : List (Str × V)} {m : Str} {sp : Sp} {dvs : List V} {E : XK} {t : TA} (h : H a = some (.ins C dx fs)) (hl : fs.lookup m = none) (q : t σ H fun vs H2 => sp (.ref a :: (vs ++ dvs)) H2 Q E) : kMeth C m sp dvs E σ t Q (.ref a) H := ⟨a, dx, fs, rfl, h, hl, q⟩
theorem r_fld {f : Str} (h : ta σ H (kFld K f Q)) : tFld K ta f σ H Q := h
theorem r_fldL {C dx : Addr} {fs : List (Str × V)} {f : Str} (h : H a = some (.ins C dx fs)) (hc : Cls K C) (hn : NoAttr K C f) (hl : fs.lookup f = some v) (q : Q v H) : kFld K f Q (.ref a) H := ⟨a, C, dx, fs, v, rfl, h, hc, hn, hl, q⟩
theorem r_sfld {f : Str} (h : tb σ H fun y H1 => ta σ H1 (kSfld K D σ f y)) : sFld K ta tb f D σ H := h
theorem r_test (h : te σ H (kTest QB)) : tTest te σ H QB := h
theorem r_tB (h : te σ H (kTest QB)) : tB te σ H QB := h
theorem r_exb (q : QB b H) : kTest QB (.bl b) H := ⟨b, rfl, q⟩
theorem r_and (h : ct σ H fun c H1 => if c = true then cu σ H1 QB else QB false H1) : tAnd ct cu σ H QB := h
theorem r_or (h : ct σ H fun c H1 => if c = true then QB true H1 else cu σ H1 QB) : tOr ct cu σ H QB := h
theorem r_not (h : ct σ H fun c H1 => QB (!c) H1) : tNot ct σ H QB := h
theorem r_andV (h : ta σ H fun x H1 => ∃ c, x = .bl c ∧ if c = true then tb σ H1 Q else Q (.bl false) H1) : tAndV ta tb σ H Q := h
theorem r_orV (h : ta σ H fun x H1 => ∃ c, x = .bl c ∧ if c = true then Q (.bl true) H1 else tb σ H1 Q) : tOrV ta tb σ H Q := h
theorem r_exbP {A : Bool → Prop} (q : A b) : ∃ c, V.bl b = .bl c ∧ A c := ⟨b, rfl, q⟩
theorem r_notV (h : ta σ H fun x H1 => ∃ c, x = .bl c ∧ Q (.bl (!c)) H1) : tNotV ta σ H Q := h
theorem r_tif (h : c σ H fun b H1 => if b = true then ta σ H1 Q else tb σ H1 Q) : tIf c ta tb σ H Q := h
theorem r_isN (h : ta σ H fun x H1 => Q (.bl (decide (x = .non))) H1) : tIsN ta σ H Q := h
theorem r_notN (h : ta σ H fun x H1 => Q (.bl (!decide (x = .non))) H1) : tNotN ta σ H Q := h
theorem r_tup {t : TA} (h : t σ H (kTup Q)) : tTup t σ H Q := h
theorem r_lst {t : TA} (h : t σ H (kLst Q)) : tLst t σ H Q := h
theorem r_ktup (hl : xs.length ≤ sizeLine) (h : ∀ p, H p = none → Q (.ref p) (upd H p (.tup xs))) : kTup Q xs H := ⟨hl, h⟩
theorem r_klst (hl : xs.length ≤ sizeLine) (h : ∀ p, H p = none → Q (.ref p) (upd H p (.lst xs))) : kLst Q xs H := ⟨hl, h⟩
theorem r_ixl (h : SqL K H p xs) (e : atI xs i = some v) (q : Q v H) : rIxL K (.ref p) (.int i) H Q := ⟨p, xs, i, v, rfl, rfl, h, e, q⟩
theorem r_ixt (h : SqT K H p xs) (e : atI xs i = some v) (q : Q v H) : rIxT K (.ref p) (.int i) H Q := ⟨p, xs, i, v, rfl, rfl, h, e, q⟩
theorem r_int (q : Q (.int i) H) : rInt [V.int i] H Q := .inl ⟨i, rfl, q⟩
theorem r_lenl (h : SqL K H p xs) (q : Q (.int xs.length) H) : rLen K [V.ref p] H Q := ⟨p, xs, rfl, .inl h, q⟩
theorem r_lent (h : SqT K H p xs) (q : Q (.int xs.length) H) : rLen K [V.ref p] H Q := ⟨p, xs, rfl, .inr h, q⟩
theorem r_listl (h : SqL K H p xs) (q : ∀ l, H l = none → Q (.ref l) (upd H l (.lst xs))) : rListOf K [V.ref p] H Q := ⟨p, xs, rfl, .inl h, q⟩
theorem r_listt (h : SqT K H p xs) (q : ∀ l, H l = none → Q (.ref l) (upd H l (.lst xs))) : rListOf K [V.ref p] H Q := ⟨p, xs, rfl, .inr h, q⟩
theorem r_tupl (h : SqL K H p xs) (q : ∀ l, H l = none → Q (.ref l) (upd H l (.tup xs))) : rTupOf K [V.ref p] H Q := ⟨p, xs, rfl, .inl ⟨h, q⟩⟩
theorem r_tupt (h : SqT K H p xs) (q : Q (.ref p) H) : rTupOf K [V.ref p] H Q := ⟨p, xs, rfl, .inr ⟨h, q⟩⟩
theorem r_in {neg : Bool} (h : SqL K H p xs ∨ SqT K H p xs) (fx : flatV x = true) (fs : xs.all flatV = true) (q : Q (.bl (if neg = true then !inV x xs else inV x xs)) H) : rIn K neg x (.ref p) H Q := ⟨p, xs, rfl, h, fx, fs, q⟩
theorem r_bm {T : String} {r : V → List V → Hp → VK → Prop} {t : TA} (h : ta σ H fun x H1 => tyV K T x H1 ∧ t σ H1 fun xs H2 => r x xs H2 Q) : tBM K T r ta t σ H Q := h
theorem r_bm0 {T : String} {r : V → List V → Hp → VK → Prop} (h : ta σ H fun x H1 => tyV K T x H1 ∧ r x [] H1 Q) : tBM0 K T r ta σ H Q := h
theorem r_tyl {A : Prop} (h : SqL K H l xs) (q : A) : tyV K "list" (.ref l) H ∧ A := ⟨.inl ⟨rfl, _, h⟩, q⟩
theorem r_app (h : H l = some (.lst xs)) (hl : xs.length < sizeLine) (q : Q .non (upd H l (.lst (xs ++ [v])))) : rAppend (.ref l) [v] H Q := ⟨l, xs, v, rfl, rfl, h, hl, q⟩
theorem r_isi {c : V} {t u : Value} (hc : ClsV c u) (ht : TyX K H x t) (hk : PySem.W.kitOne K t u = some b) (q : Q (.bl b) H) : rIsi K [x, c] H Q := ⟨x, c, t, u, b, rfl, hc, ht, hk, q⟩
theorem r_isb {a b : Bool} (q : Q (.bl (decide (a = b))) H) : rIsB (.bl a) (.bl b) H Q := ⟨a, b, rfl, rfl, q⟩
theorem r_notb {a b : Bool} (q : Q (.bl (!decide (a = b))) H) : rNotB (.bl a) (.bl b) H Q := ⟨a, b, rfl, rfl, q⟩
theorem r_eqd {d e : PyData} (h1 : Dp K H x d) (h2 : Dp K H y e) (s1 : SeqAt.shaped d = true) (s2 : SeqAt.shaped e = true) (q : Q (.bl (PyData.eqv d e)) H) : rEqD K x y H Q := ⟨d, e, h1, h2, s1, s2, q⟩
theorem r_ned {d e : PyData} (h1 : Dp K H x d) (h2 : Dp K H y e) (s1 : SeqAt.shaped d = true) (s2 : SeqAt.shaped e = true) (q : Q (.bl (!PyData.eqv d e)) H) : rNeD K x y H Q := ⟨d, e, h1, h2, s1, s2, q⟩
theorem r_rep {k : Int} (h : H l = some (.lst xs)) (h1 : -(2 ^ 63) ≤ k) (h2 : k < 2 ^ 63) (hz : xs.length * k.toNat ≤ sizeLine) (q : ∀ p, H p = none → Q (.ref p) (upd H p (.lst (List.replicate k.toNat xs).flatten))) : rRep (.ref l) (.int k) H Q := ⟨l, k, xs, rfl, rfl, h, h1, h2, hz, q⟩
theorem r_cat (h : H l = some (.lst xs)) (h' : H p = some (.lst ys)) (hz : xs.length + ys.length ≤ sizeLine) (q : ∀ r, H r = none → Q (.ref r) (upd H r (.lst (xs ++ ys)))) : rCat (.ref l) (.ref p) H Q := ⟨l, p, xs, ys, rfl, rfl, h, h', hz, q⟩
theorem r_aug {n : Nat} {ti : TIp} (h : σ[n]? = some (some x)) (q : te σ H fun y H1 => ti x y H1 fun z H2 => D.nx (σ.set n (some z)) H2) : tAug n te ti D σ H := ⟨x, h, q⟩
theorem r_ipI {f : Int → Int → Int} (q : Q (.int (f i j)) H) : ipI f (.int i) (.int j) H Q := ⟨i, j, rfl, rfl, q⟩
theorem r_sorted {ns : List Int} (h : SqL K H a (ns.map V.int)) (h64 : ns.length < 64) (q : ∀ (ns' : List Int) (p : Addr), ns'.Perm ns → ns'.Pairwise (· ≤ ·) → H p = none → Q (.ref p) (upd H p (.lst (ns'.map V.int)))) : rSorted K [.ref a] H Q := ⟨a, ns, rfl, h, h64, q⟩
end
/-! slices, texts -/
def kPart (Q : Option Int → Hp → Prop) : V → Hp → Prop := fun x H => ∃ i, x = .int i ∧ Q (some i) H
section
variable {σ : L2.St} {H : Hp} {te : TE} {tl th : TO} {Q : V → Hp → Prop} {QO : Option Int → Hp → Prop} {K : PySem.W.Frag} {a : Addr} {xs : List V} {lo hi : Option Int} {i : Int} {z : Str}
theorem r_sl {r : V → Option Int → Option Int → Hp → VK → Prop} (h : te σ H fun x H1 => tl σ H1 fun l H2 => th σ H2 fun u H3 => r x l u H3 Q) : tSl r te tl th σ H Q := h
theorem r_noP (q : QO none H) : tNoPart σ H QO := q
theorem r_part (h : te σ H (kPart QO)) : tPart te σ H QO := h
theorem r_kPart (q : QO (some i) H) : kPart QO (.int i) H := ⟨i, rfl, q⟩
theorem r_slS (hl : z.length ≤ 1000000) (q : Q (.str (cutS z lo hi)) H) : rSlS (.str z) lo hi H Q := ⟨z, rfl, by rw [sz]; omega, q⟩
theorem r_slL (h : SqL K H a xs) (q : ∀ p, H p = none → Q (.ref p) (upd H p (.lst (cutV xs lo hi)))) : rSlL K (.ref a) lo hi H Q := ⟨a, xs, rfl, h, q⟩
end
/-! loops and comprehensions -/
def kLc (g : TG) (tt : TT) (te : TE) (vs : List Nat) (σ : L2.St) (Q : V → Hp → Prop) : It → Hp → Prop := fun J H1 => ∀ D, H1 D = none → ∃ W : Nat → Nat → Hp → Prop, (∃ m, W 0 m (upd H1 D (.lst []))) ∧ ∀ i m H, W i m H →
  (J.stop i H ∧ Q (.ref D) H) ∨ (J.go i H ∧ ∃ Nx : Hp → Prop, (∀ H', Nx H' → ∃ m', m' < m ∧ W (i + 1) m' H') ∧ ∀ x H', J.yld i H x H' → g x (wipe σ vs) H' fun σ2 H2 => wipe σ2 vs = wipe σ vs ∧ tt σ2 H2 fun b H3 =>
    if b = true then te σ2 H3 fun y H4 => ∃ acc, H4 D = some (.lst acc) ∧ acc.length < sizeLine ∧ Nx (upd H4 D (.lst (acc ++ [y]))) else Nx H3)
def kR1 (R : It → Hp → Prop) : List V → Hp → Prop := fun vs H1 => ∃ j : Int, vs = [.int j] ∧ -(2 ^ 62) ≤ j ∧ j < 2 ^ 62 ∧ R (Itr 0 j.toNat) H1
def kR2 (R : It → Hp → Prop) : List V → Hp → Prop := fun vs H1 => ∃ i j : Int, vs = [.int i, .int j] ∧ (-(2 ^ 62) ≤ i ∧ i < 2 ^ 62 ∧ -(2 ^ 62) ≤ j ∧ j < 2 ^ 62) ∧ R (Itr i (j - i).toNat) H1
def kIl (K : PySem.W.Frag) (R : It → Hp → Prop) : V → Hp → Prop := fun x H1 => ∃ a, x = .ref a ∧ (∃ xs, SqL K H1 a xs) ∧ R (Itl K a) H1
def kIt (K : PySem.W.Frag) (R : It → Hp → Prop) : V → Hp → Prop := fun x H1 => ∃ a, x = .ref a ∧ (∃ xs, SqT K H1 a xs) ∧ R (Itt K a) H1
def kFor (g : TG) (tb : TS) (D : Ends) (σ : L2.St) : It → Hp → Prop := fun J H1 => ∃ W : Nat → Nat → L2.St → Hp → Prop, (∃ m, W 0 m σ H1) ∧ ∀ i m σ H, W i m σ H →
  (J.stop i H ∧ D.nx σ H) ∨ (J.go i H ∧ ∃ N : L2.St → Hp → Prop, (∀ σ' H', N σ' H' → ∃ m', m' < m ∧ W (i + 1) m' σ' H') ∧ ∀ x H', J.yld i H x H' → g x σ H' fun σ2 H2 => tb { D with nx := N, ct := N, bk := D.nx } σ2 H2)
section
variable {σ : L2.St} {H : Hp} {D : Ends} {te : TE} {ta : TA} {g : TG} {tt : TT} {tb : TS} {wi : TI} {vs : List Nat} {Q : V → Hp → Prop} {R : It → Hp → Prop} {K : PySem.W.Frag} {a : Addr} {xs : List V} {i j : Int}
theorem r_lc (h : wi σ H (kLc g tt te vs σ Q)) : tLc wi g tt te vs σ H Q := h
theorem r_for (h : wi σ H (kFor g tb D σ)) : tFor wi g tb D σ H := h
theorem r_irng1 (h : ta σ H (kR1 R)) : iRng1 ta σ H R := h
theorem r_irng2 (h : ta σ H (kR2 R)) : iRng2 ta σ H R := h
theorem r_ilist (h : te σ H (kIl K R)) : iList K te σ H R := h
theorem r_itup (h : te σ H (kIt K R)) : iTup K te σ H R := h
theorem r_kR1 (h1 : -(2 ^ 62) ≤ j) (h2 : j < 2 ^ 62) (h : R (Itr 0 j.toNat) H) : kR1 R [.int j] H := ⟨j, rfl, h1, h2, h⟩
theorem r_kR2 (h1 : -(2 ^ 62) ≤ i ∧ i < 2 ^ 62 ∧ -(2 ^ 62) ≤ j ∧ j < 2 ^ 62) (h : R (Itr i (j - i).toNat) H) : kR2 R [.int i, .int j] H := ⟨i, j, rfl, h1, h⟩
theorem r_kIl (h1 : SqL K H a xs) (h : R (Itl K a) H) : kIl K R (.ref a) H := ⟨a, rfl, ⟨_, h1⟩, h⟩
theorem r_kIt (h1 : SqT K H a xs) (h : R (Itt K a) H) : kIt K R (.ref a) H := ⟨a, rfl, ⟨_, h1⟩, h⟩
theorem r_forR {lo : Int} {n : Nat} (Pv : Nat → L2.St → Hp → Prop) (h0 : Pv 0 σ H)
    (hs : ∀ i σ H, i < n → Pv i σ H → g (.int (lo + i)) σ H fun σ2 H2 => tb { D with nx := Pv (i + 1), ct := Pv (i + 1), bk := D.nx } σ2 H2) (hd : ∀ σ H, Pv n σ H → D.nx σ H) : kFor g tb D σ (Itr lo n) H := for_range Pv h0 hs hd
theorem r_forL (Pv : Nat → L2.St → Hp → Prop) (h0 : Pv 0 σ H) (hl : ∀ i σ H, i ≤ xs.length → Pv i σ H → SqL K H a xs)
    (hs : ∀ i x σ H, xs[i]? = some x → Pv i σ H → g x σ H fun σ2 H2 => tb { D with nx := Pv (i + 1), ct := Pv (i + 1), bk := D.nx } σ2 H2) (hd : ∀ σ H, Pv xs.length σ H → D.nx σ H) : kFor g tb D σ (Itl K a) H := for_list Pv h0 hl hs hd
theorem r_forT (Pv : Nat → L2.St → Hp → Prop) (h0 : Pv 0 σ H) (hl : ∀ i σ H, i ≤ xs.length → Pv i σ H → SqT K H a xs)
    (hs : ∀ i x σ H, xs[i]? = some x → Pv i σ H → g x σ H fun σ2 H2 => tb { D with nx := Pv (i + 1), ct := Pv (i + 1), bk := D.nx } σ2 H2) (hd : ∀ σ H, Pv xs.length σ H → D.nx σ H) : kFor g tb D σ (Itt K a) H := for_tup Pv h0 hl hs hd
/-- [e for x in range], e an int -/
theorem r_lcI {lo : Int} {n slot : Nat} (P : Nat → Int → Prop) (hn : n ≤ 100000) (hv : vs = [slot])
    (hs : ∀ (i : Nat) (H' : Hp), i < n → L2.Same H H' → ∀ R : V → Hp → Prop, (∀ z : Int, P i z → R (.int z) H') → te ((wipe σ vs).set slot (some (.int (lo + i)))) H' R)
    (q : ∀ (H' : Hp) (l : Addr) (zs : List Int), L2.Same H H' → H l = none → H' l = some (.lst (zs.map V.int)) → zs.length = n → (∀ (i : Nat) (z : Int), zs[i]? = some z → P i z) → Q (.ref l) H') :
    kLc (gName slot) tYes te vs σ Q (Itr lo n) H := by
  intro L hL
  have hw : ∀ (τ : L2.St) (x : V), wipe (τ.set slot (some x)) [slot] = wipe τ [slot] := fun τ x => by simp [wipe, List.set_set]
  have hw2 : wipe (wipe σ vs) vs = wipe σ vs := by subst hv; simp [wipe, List.set_set]
  refine lc_range (fun i H' => ∃ zs : List Int, zs.length = i ∧ H' L = some (.lst (zs.map V.int)) ∧ L2.Same H H' ∧ ∀ (k : Nat) (z : Int), zs[k]? = some z → P k z) ⟨[], rfl, upd_same, fun b o e => by rw [upd_ne (ne_of_none e hL)]; exact e, fun k z e => by simp at e⟩ ?_ ?_
  · rintro i H' hi ⟨zs, el, eL, s, hp⟩
    refine ⟨?_, ?_⟩
    · subst hv
      rw [hw]
      exact hw2
    · show te ((wipe σ vs).set slot (some (.int (lo + i)))) H' _
      refine hs i H' hi s _ fun z hz => ⟨_, eL, ?_, zs ++ [z], ?_, ?_, ?_, ?_⟩
      · rw [List.length_map, el]
        exact Nat.lt_of_lt_of_le (Nat.lt_of_lt_of_le hi hn) (by decide)
      · rw [List.length_append, el]; rfl
      · rw [upd_same, List.map_append]; rfl
      · intro b o e
        rw [upd_ne (ne_of_none e hL)]
        exact s _ _ e
      · intro k y e
        rw [List.getElem?_append] at e
        split at e
        · exact hp k y e
        · rename_i hk
          have ek : k = zs.length := by
            have := (List.getElem?_eq_some_iff.mp e).1
            simp at this
            omega
          subst ek
          simp at e
          rw [el, ← e]
          exact hz
  · rintro H' ⟨zs, el, eL, s, hp⟩
    exact q H' L zs s hL eL el hp
end
end Sg
/-! data behind values, as the heap grows -/
namespace Sg
open PySem L2
mutual
theorem Dp.mono {K : PySem.W.Frag} {H H' : Hp} (s : L2.Same H H') : ∀ (d : PyData) (v : V), Dp K H v d → Dp K H' v d
  | .none, _, h => by cases h; exact .non
  | .bool b, _, h => by cases h; exact .bl b
  | .int i, _, h => by cases h; exact .int i
  | .str x, _, h => by cases h; exact .str x
  | .list ds, _, h => by
    cases h with
    | lst hs ha => exact .lst (L2.Same.seq s hs) (DpAll.mono s ds _ ha)
  | .tuple ds, _, h => by
    cases h with
    | tup hs ha => exact .tup (Sg.Same.tup s hs) (DpAll.mono s ds _ ha)
  | .dict _, _, h => by cases h
theorem DpAll.mono {K : PySem.W.Frag} {H H' : Hp} (s : L2.Same H H') : ∀ (ds : List PyData) (vs : List V), DpAll K H vs ds → DpAll K H' vs ds
  | [], _, h => by cases h; exact .nil
  | d :: ds, _, h => by
    cases h with
    | cons h1 h2 => exact .cons (Dp.mono s d _ h1) (DpAll.mono s ds _ h2)
end
theorem DpAll.ints {K : PySem.W.Frag} {H : Hp} : ∀ ns : List Int, DpAll K H (ns.map V.int) (ns.map PyData.int)
  | [] => .nil
  | n :: ns => .cons (.int n) (DpAll.ints ns)
theorem DpAll.at {K : PySem.W.Frag} {H : Hp} : ∀ {vs : List V} {ds : List PyData}, DpAll K H vs ds → ∀ (i : Nat) (v : V), vs[i]? = some v → ∃ d, ds[i]? = some d ∧ Dp K H v d
  | _, _, .nil, i, v, e => by simp at e
  | _, _, .cons h t, 0, v, e => by simp at e; subst e; exact ⟨_, rfl, h⟩
  | _, _, .cons h t, i + 1, v, e => by
    obtain ⟨d, e1, h1⟩ := DpAll.at t i v (by simpa using e)
    exact ⟨d, by simpa using e1, h1⟩
theorem DpAll.length {K : PySem.W.Frag} {H : Hp} : ∀ {vs : List V} {ds : List PyData}, DpAll K H vs ds → vs.length = ds.length
  | _, _, .nil => rfl
  | _, _, .cons _ t => by simp [DpAll.length t]
/-- data that can be compared, at most n deep -/
def Fl (n : Nat) (d : PyData) : Prop := d.canLay0 = true ∧ d.depth ≤ n
theorem Fl.int (i : Int) (n : Nat) : Fl n (.int i) := ⟨by simp [PyData.canLay0], by simp [PyData.depth]⟩
theorem Fl.non (n : Nat) : Fl n .none := ⟨by simp [PyData.canLay0], by simp [PyData.depth]⟩
theorem Fl.bool (b : Bool) (n : Nat) : Fl n (.bool b) := ⟨by simp [PyData.canLay0], by simp [PyData.depth]⟩
theorem Fl.all {n : Nat} : ∀ {ds : List PyData}, (∀ d ∈ ds, Fl n d) → PyData.canLayAll0 ds = true ∧ PyData.depthAll ds ≤ n
  | [], _ => ⟨by simp [PyData.canLayAll0], by simp [PyData.depthAll]⟩
  | d :: ds, h => by
    obtain ⟨h1, h2⟩ := h d List.mem_cons_self
    obtain ⟨h3, h4⟩ := Fl.all (ds := ds) fun x hx => h x (List.mem_cons_of_mem _ hx)
    refine ⟨by simp [PyData.canLayAll0, h1, h3], ?_⟩
    simp only [PyData.depthAll]
    exact Nat.max_le.mpr ⟨h2, h4⟩
theorem Fl.tup {n : Nat} {ds : List PyData} (h : ∀ d ∈ ds, Fl n d) : Fl (n + 1) (.tuple ds) := by
  obtain ⟨h1, h2⟩ := Fl.all h
  exact ⟨by simp [PyData.canLay0, h1], by simp only [PyData.depth]; omega⟩
theorem Fl.lst {n : Nat} {ds : List PyData} (h : ∀ d ∈ ds, Fl n d) : Fl (n + 1) (.list ds) := by
  obtain ⟨h1, h2⟩ := Fl.all h
  exact ⟨by simp [PyData.canLay0, h1], by simp only [PyData.depth]; omega⟩
theorem Fl.mono {n m : Nat} {d : PyData} (h : Fl n d) (hm : n ≤ m) : Fl m d := ⟨h.1, Nat.le_trans h.2 hm⟩
theorem Fl.ints (ns : List Int) : Fl 1 (.tuple (ns.map PyData.int)) := Fl.tup fun d hd => by
  obtain ⟨i, _, rfl⟩ := List.mem_map.mp hd
  exact Fl.int i 0
theorem Fl.intl (ns : List Int) : Fl 1 (.list (ns.map PyData.int)) := Fl.lst fun d hd => by
  obtain ⟨i, _, rfl⟩ := List.mem_map.mp hd
  exact Fl.int i 0
theorem Fl.nil {n : Nat} : ∀ d ∈ ([] : List PyData), Fl n d := fun d h => by cases h
theorem Fl.cons {n : Nat} {d : PyData} {ds : List PyData} (h : Fl n d) (t : ∀ x ∈ ds, Fl n x) : ∀ x ∈ d :: ds, Fl n x := fun x hx => by
  rcases List.mem_cons.mp hx with rfl | hx
  · exact h
  · exact t x hx
theorem Fl.mapi {n : Nat} {ns : List Int} : ∀ d ∈ ns.map PyData.int, Fl n d := fun d hd => by
  obtain ⟨i, _, rfl⟩ := List.mem_map.mp hd
  exact Fl.int i n
theorem Fl.shaped {n : Nat} {d : PyData} (h : Fl n d) (hn : n ≤ 64 := by decide) : SeqAt.shaped d = true := by
  unfold SeqAt.shaped
  rw [h.1, decide_eq_true (Nat.le_trans h.2 hn)]
  rfl
theorem Fl.self {n : Nat} {d : PyData} (h : Fl n d) : PyData.eqv d d = true := SeqAt.eqv_refl d h.1
/-! lists of ints -/
theorem ixN_ok {n : Nat} {k : Int} (h0 : 0 ≤ k) (h1 : k < n) : ixN n k = some k.toNat := by unfold ixN; rw [if_pos h0, if_pos h1]
theorem at_ints {ts : List Int} {k : Int} (h0 : 0 ≤ k) (h1 : k < ts.length) : atI (ts.map V.int) k = some (.int (ts.getD k.toNat 0)) := by
  obtain ⟨n, rfl⟩ := Int.eq_ofNat_of_zero_le h0
  have hn : n < ts.length := by omega
  refine atI_nat ?_
  rw [List.getElem?_map, List.getElem?_eq_getElem hn, List.getD_eq_getElem?_getD, Int.toNat_natCast, List.getElem?_eq_getElem hn]
  rfl
theorem rep_ints (n : Nat) (z : Int) : (List.replicate n [V.int z]).flatten = (List.replicate n z).map V.int := by
  induction n with
  | zero => rfl
  | succ n ih => rw [List.replicate_succ, List.flatten_cons, ih, List.replicate_succ, List.map_cons]; rfl
theorem set_ints (ts : List Int) (n : Nat) (z : Int) : (ts.map V.int).set n (.int z) = (ts.set n z).map V.int := by rw [List.map_set]
theorem eqv_ints {as bs : List Int} : PyData.eqv (.list (as.map PyData.int)) (.list (bs.map PyData.int)) = decide (as = bs) := by
  rw [PyData.eqv]
  induction as generalizing bs with
  | nil => cases bs <;> simp [PyData.eqvAll]
  | cons a as ih =>
    cases bs with
    | nil => simp [PyData.eqvAll]
    | cons b bs =>
      rw [List.map_cons, List.map_cons, PyData.eqvAll, ih, PyData.eqv]
      by_cases e : a = b
      · subst e; simp
      · simp [e]
theorem Dp.ints {K : PySem.W.Frag} {H : Hp} {a : Addr} {ns : List Int} (h : SqL K H a (ns.map V.int)) : Dp K H (.ref a) (.list (ns.map PyData.int)) := .lst h (DpAll.ints ns)
theorem Fl.intlS (ns : List Int) : SeqAt.shaped (.list (ns.map PyData.int)) = true := (Fl.intl ns).shaped
/-! a comprehension over a list, its items anything -/
/-- the heap without the list that grows -/
def hid (D : Addr) (H : Hp) : Hp := fun b => if b = D then none else H b
theorem hid_ne {D b : Addr} {H : Hp} (h : b ≠ D) : hid D H b = H b := by unfold hid; rw [if_neg h]
theorem hid_at {D : Addr} {H : Hp} : hid D H D = none := by unfold hid; rw [if_pos rfl]
theorem hid_same {D : Addr} {H : Hp} : L2.Same (hid D H) H := fun b o e => by
  by_cases hb : b = D
  · rw [hb, hid_at] at e; cases e
  · rw [hid_ne hb] at e; exact e
theorem of_hid {D b : Addr} {H : Hp} {o : HO} (e : hid D H b = some o) : b ≠ D ∧ H b = some o := by
  by_cases hb : b = D
  · rw [hb, hid_at] at e; cases e
  · rw [hid_ne hb] at e; exact ⟨hb, e⟩
theorem same_hid {D : Addr} {H H' : Hp} (s : L2.Same H H') (n : H D = none) : L2.Same H (hid D H') := fun b o e => by
  rw [hid_ne (ne_of_none e n)]; exact s _ _ e
theorem hid_upd {D : Addr} {H : Hp} {o : HO} : hid D (upd H D o) = hid D H := by
  funext b
  by_cases hb : b = D
  · rw [hb, hid_at, hid_at]
  · rw [hid_ne hb, hid_ne hb, upd_ne hb]
theorem hid_none {D : Addr} {H : Hp} (n : H D = none) : hid D H = H := by
  funext b
  by_cases hb : b = D
  · rw [hb, hid_at, n]
  · rw [hid_ne hb]
theorem r_lcL {K : PySem.W.Frag} {a : Addr} {xs : List V} {slot : Nat} {vs : List Nat} {te : TE} {σ : L2.St} {H : Hp} {Q : V → Hp → Prop} (P : Nat → List V → Hp → Prop) (hx : SqL K H a xs) (hn : xs.length ≤ 100000) (hv : vs = [slot])
    (h0 : P 0 [] H)
    (hs : ∀ (i : Nat) (x : V) (acc : List V) (H0 H' : Hp), xs[i]? = some x → L2.Same H H0 → P i acc H0 → L2.Same H0 H' → ∀ R : V → Hp → Prop,
      (∀ (v : V) (H'' : Hp), L2.Same H' H'' → (∀ D, H0 D = none → H' D ≠ none → P (i + 1) (acc ++ [v]) (hid D H'')) → R v H'') → te ((wipe σ vs).set slot (some x)) H' R)
    (q : ∀ (H' : Hp) (l : Addr) (acc : List V), L2.Same H H' → H l = none → H' l = some (.lst acc) → acc.length = xs.length → P xs.length acc (hid l H') → Q (.ref l) H') :
    kLc (gName slot) tYes te vs σ Q (Itl K a) H := by
  intro L hL
  have hw : ∀ (τ : L2.St) (x : V), wipe (τ.set slot (some x)) [slot] = wipe τ [slot] := fun τ x => by simp [wipe, List.set_set]
  have hw2 : wipe (wipe σ vs) vs = wipe σ vs := by subst hv; simp [wipe, List.set_set]
  refine lc_list (xs := xs) (fun i H' => ∃ acc : List V, acc.length = i ∧ H' L = some (.lst acc) ∧ L2.Same H H' ∧ P i acc (hid L H')) ⟨[], rfl, upd_same, fun b o e => by rw [upd_ne (ne_of_none e hL)]; exact e, by rw [hid_upd, hid_none hL]; exact h0⟩ ?_ ?_ ?_
  · rintro i H' hi ⟨acc, _, _, s, _⟩
    exact s.seq hx
  · rintro i x H' hi ⟨acc, el, eL, s, hp⟩
    refine ⟨?_, ?_⟩
    · subst hv
      rw [hw]
      exact hw2
    · show te ((wipe σ vs).set slot (some x)) H' _
      refine hs i x acc (hid L H') H' hi (same_hid s hL) hp hid_same _ fun v H'' s2 hP => ⟨acc, s2 _ _ eL, ?_, acc ++ [v], ?_, upd_same, ?_, ?_⟩
      · have := (List.getElem?_eq_some_iff.mp hi).1
        rw [el, sz]
        omega
      · rw [List.length_append, el]; rfl
      · intro b o e
        rw [upd_ne (ne_of_none e hL)]
        exact s2 _ _ (s _ _ e)
      · rw [hid_upd]
        exact hP L hid_at (by rw [eL]; intro z; cases z)
  · rintro H' ⟨acc, el, eL, s, hp⟩
    exact q H' L acc s hL eL el hp
end Sg
namespace Sg
open PySem L2
def top (i : Nat) : Stmt := PySem.Challenge.pw_segmentfs_k47_inodes_as_octets.main.body.getD i (.Pass ⟨0, 0, 0, 0⟩)
abbrev s_number_octets : Stmt := top 1
abbrev s_number_of : Stmt := top 2
abbrev s_Inode___init : Stmt := inClass (top 8) 0
abbrev s_Inode_is_directory : Stmt := inClass (top 8) 1
abbrev s_encode_inode : Stmt := top 9
abbrev s_holds_inode : Stmt := top 10
abbrev s_decode_inode : Stmt := top 11
abbrev s_law_row : Stmt := top 13
abbrev s_law_is_integer : Stmt := top 14
abbrev s_law_is : Stmt := top 15
abbrev s_law_fields : Stmt := top 16
abbrev s_law_octets : Stmt := top 17
abbrev s_law_drawn : Stmt := top 18
abbrev s_law_reads : Stmt := top 19
abbrev s_law : Stmt := top 20
abbrev n_number_octets : List Str := ["number", "count", "place"]
theorem sc_number_octets : FnScope n_number_octets ["number", "count"] (defScope s_number_octets) := ⟨rfl, rfl, rfl, by decide +kernel, rfl, by decide +kernel, by decide +kernel⟩
abbrev n_number_of : List Str := ["octets", "number", "octet"]
theorem sc_number_of : FnScope n_number_of ["octets"] (defScope s_number_of) := ⟨rfl, rfl, rfl, by decide +kernel, rfl, by decide +kernel, by decide +kernel⟩
abbrev n_Inode___init : List Str := ["self", "kind", "links", "size", "height", "root", "parent"]
theorem sc_Inode___init : FnScope n_Inode___init ["self", "kind", "links", "size", "height", "root", "parent"] (defScope s_Inode___init) := ⟨rfl, rfl, rfl, by decide +kernel, rfl, by decide +kernel, by decide +kernel⟩
abbrev n_Inode_is_directory : List Str := ["self"]
theorem sc_Inode_is_directory : FnScope n_Inode_is_directory ["self"] (defScope s_Inode_is_directory) := ⟨rfl, rfl, rfl, by decide +kernel, rfl, by decide +kernel, by decide +kernel⟩
abbrev n_encode_inode : List Str := ["inode", "octets"]
theorem sc_encode_inode : FnScope n_encode_inode ["inode"] (defScope s_encode_inode) := ⟨rfl, rfl, rfl, by decide +kernel, rfl, by decide +kernel, by decide +kernel⟩
abbrev n_holds_inode : List Str := ["octets"]
theorem sc_holds_inode : FnScope n_holds_inode ["octets"] (defScope s_holds_inode) := ⟨rfl, rfl, rfl, by decide +kernel, rfl, by decide +kernel, by decide +kernel⟩
abbrev n_decode_inode : List Str := ["octets"]
theorem sc_decode_inode : FnScope n_decode_inode ["octets"] (defScope s_decode_inode) := ⟨rfl, rfl, rfl, by decide +kernel, rfl, by decide +kernel, by decide +kernel⟩
abbrev n_law_row : List Str := ["script", "k", "cell", "low", "high"]
theorem sc_law_row : FnScope n_law_row ["script", "k"] (defScope s_law_row) := ⟨rfl, rfl, rfl, by decide +kernel, rfl, by decide +kernel, by decide +kernel⟩
abbrev n_law_is_integer : List Str := ["actual"]
theorem sc_law_is_integer : FnScope n_law_is_integer ["actual"] (defScope s_law_is_integer) := ⟨rfl, rfl, rfl, by decide +kernel, rfl, by decide +kernel, by decide +kernel⟩
abbrev n_law_is : List Str := ["actual", "due"]
theorem sc_law_is : FnScope n_law_is ["actual", "due"] (defScope s_law_is) := ⟨rfl, rfl, rfl, by decide +kernel, rfl, by decide +kernel, by decide +kernel⟩
abbrev n_law_fields : List Str := ["inode"]
theorem sc_law_fields : FnScope n_law_fields ["inode"] (defScope s_law_fields) := ⟨rfl, rfl, rfl, by decide +kernel, rfl, by decide +kernel, by decide +kernel⟩
abbrev n_law_octets : List Str := ["fields", "octets", "widths", "k", "rest", "j"]
theorem sc_law_octets : FnScope n_law_octets ["fields"] (defScope s_law_octets) := ⟨rfl, rfl, rfl, by decide +kernel, rfl, by decide +kernel, by decide +kernel⟩
abbrev n_law_drawn : List Str := ["script", "number", "fields", "bounds", "k", "bound", "found"]
theorem sc_law_drawn : FnScope n_law_drawn ["script"] (defScope s_law_drawn) := ⟨rfl, rfl, rfl, by decide +kernel, rfl, by decide +kernel, by decide +kernel⟩
abbrev n_law_reads : List Str := ["octets", "passed", "inode", "good", "value"]
theorem sc_law_reads : FnScope n_law_reads ["octets"] (defScope s_law_reads) := ⟨rfl, rfl, rfl, by decide +kernel, rfl, by decide +kernel, by decide +kernel⟩
abbrev n_law : List Str := ["script", "fields", "inode", "octets", "back", "number", "at", "rest", "k"]
theorem sc_law : FnScope n_law ["script"] (defScope s_law) := ⟨rfl, rfl, rfl, by decide +kernel, rfl, by decide +kernel, by decide +kernel⟩
structure Txt (K : PySem.W.Frag) (mg : Str → Option Value) where
  a_number_octets : Addr
  fd_number_octets : FuncData
  a_number_of : Addr
  fd_number_of : FuncData
  a_Inode___init : Addr
  fd_Inode___init : FuncData
  a_Inode_is_directory : Addr
  fd_Inode_is_directory : FuncData
  a_encode_inode : Addr
  fd_encode_inode : FuncData
  a_holds_inode : Addr
  fd_holds_inode : FuncData
  a_decode_inode : Addr
  fd_decode_inode : FuncData
  a_law_row : Addr
  fd_law_row : FuncData
  a_law_is_integer : Addr
  fd_law_is_integer : FuncData
  a_law_is : Addr
  fd_law_is : FuncData
  a_law_fields : Addr
  fd_law_fields : FuncData
  a_law_octets : Addr
  fd_law_octets : FuncData
  a_law_drawn : Addr
  fd_law_drawn : FuncData
  a_law_reads : Addr
  fd_law_reads : FuncData
  a_law : Addr
  fd_law : FuncData
  A_Inode : Addr
  t_DIRECTORY : Tok
  t_FILE : Tok
  t_INODE_OCTETS : Tok
  t_LINK : Tok
  F_number_octets : Fun K "number_octets" "number_octets" s_number_octets a_number_octets fd_number_octets
  b_number_octets : Binds K fd_number_octets ["number", "count"] []
  m_number_octets : mg "number_octets" = some (.ref a_number_octets)
  F_number_of : Fun K "number_of" "number_of" s_number_of a_number_of fd_number_of
  b_number_of : Binds K fd_number_of ["octets"] []
  m_number_of : mg "number_of" = some (.ref a_number_of)
  F_Inode___init : FunD K "__init__" "Inode.__init__" (defArgs s_Inode___init) (defBody s_Inode___init) (defScope s_Inode___init) [V.int 1, V.int 0, V.int 0, V.int 0, V.int 0] [] a_Inode___init fd_Inode___init
  ds_Inode___init_2 : List Value
  v_Inode___init_2 : Vals [V.int 1, V.int 0, V.int 0, V.int 0, V.int 0] ds_Inode___init_2
  b_Inode___init_2 : Binds K fd_Inode___init ["self", "kind", "links", "size", "height", "root", "parent"] ds_Inode___init_2
  kg_Inode___init_2_links_size_height_root_parent : List Value → List Value → List Value
  kb_Inode___init_2_links_size_height_root_parent : KBn K fd_Inode___init ["self", "kind", "links", "size", "height", "root", "parent"] 2 ["links", "size", "height", "root", "parent"] kg_Inode___init_2_links_size_height_root_parent (fun us ws => us ++ ws)
  kg_Inode___init_2_parent : List Value → List Value → List Value
  kb_Inode___init_2_parent : KBn K fd_Inode___init ["self", "kind", "links", "size", "height", "root", "parent"] 2 ["parent"] kg_Inode___init_2_parent (fun us ws => (((((us ++ [V.int 1]) ++ [V.int 0]) ++ [V.int 0]) ++ [V.int 0]) ++ (ws.drop 0).take 1))
  b_Inode___init : Binds K fd_Inode___init ["self", "kind", "links", "size", "height", "root", "parent"] []
  F_Inode_is_directory : Fun K "is_directory" "Inode.is_directory" s_Inode_is_directory a_Inode_is_directory fd_Inode_is_directory
  b_Inode_is_directory : Binds K fd_Inode_is_directory ["self"] []
  p_Inode_is_directory : Addr
  pr_Inode_is_directory : PropOf K A_Inode "is_directory" p_Inode_is_directory a_Inode_is_directory
  F_encode_inode : Fun K "encode_inode" "encode_inode" s_encode_inode a_encode_inode fd_encode_inode
  b_encode_inode : Binds K fd_encode_inode ["inode"] []
  m_encode_inode : mg "encode_inode" = some (.ref a_encode_inode)
  F_holds_inode : Fun K "holds_inode" "holds_inode" s_holds_inode a_holds_inode fd_holds_inode
  b_holds_inode : Binds K fd_holds_inode ["octets"] []
  m_holds_inode : mg "holds_inode" = some (.ref a_holds_inode)
  F_decode_inode : Fun K "decode_inode" "decode_inode" s_decode_inode a_decode_inode fd_decode_inode
  b_decode_inode : Binds K fd_decode_inode ["octets"] []
  m_decode_inode : mg "decode_inode" = some (.ref a_decode_inode)
  F_law_row : Fun K "_law_row" "_law_row" s_law_row a_law_row fd_law_row
  b_law_row : Binds K fd_law_row ["script", "k"] []
  m_law_row : mg "_law_row" = some (.ref a_law_row)
  F_law_is_integer : Fun K "_law_is_integer" "_law_is_integer" s_law_is_integer a_law_is_integer fd_law_is_integer
  b_law_is_integer : Binds K fd_law_is_integer ["actual"] []
  m_law_is_integer : mg "_law_is_integer" = some (.ref a_law_is_integer)
  F_law_is : Fun K "_law_is" "_law_is" s_law_is a_law_is fd_law_is
  b_law_is : Binds K fd_law_is ["actual", "due"] []
  m_law_is : mg "_law_is" = some (.ref a_law_is)
  F_law_fields : Fun K "_law_fields" "_law_fields" s_law_fields a_law_fields fd_law_fields
  b_law_fields : Binds K fd_law_fields ["inode"] []
  m_law_fields : mg "_law_fields" = some (.ref a_law_fields)
  F_law_octets : Fun K "_law_octets" "_law_octets" s_law_octets a_law_octets fd_law_octets
  b_law_octets : Binds K fd_law_octets ["fields"] []
  m_law_octets : mg "_law_octets" = some (.ref a_law_octets)
  F_law_drawn : Fun K "_law_drawn" "_law_drawn" s_law_drawn a_law_drawn fd_law_drawn
  b_law_drawn : Binds K fd_law_drawn ["script"] []
  m_law_drawn : mg "_law_drawn" = some (.ref a_law_drawn)
  F_law_reads : Fun K "_law_reads" "_law_reads" s_law_reads a_law_reads fd_law_reads
  b_law_reads : Binds K fd_law_reads ["octets"] []
  m_law_reads : mg "_law_reads" = some (.ref a_law_reads)
  F_law : Fun K "law" "law" s_law a_law fd_law
  b_law : Binds K fd_law ["script"] []
  m_law : mg "law" = some (.ref a_law)
  m_Inode : mg "Inode" = some (.ref A_Inode)
  cl_Inode : Cls K A_Inode
  M_Inode : Mk K A_Inode a_Inode___init
  na_Inode_kind : NoAttr K A_Inode "kind"
  na_Inode_links : NoAttr K A_Inode "links"
  na_Inode_size : NoAttr K A_Inode "size"
  na_Inode_height : NoAttr K A_Inode "height"
  na_Inode_root : NoAttr K A_Inode "root"
  na_Inode_parent : NoAttr K A_Inode "parent"
  c_DIRECTORY : mg "DIRECTORY" = some (.int 2 t_DIRECTORY)
  r_DIRECTORY : RelV (.int 2) (.int 2 t_DIRECTORY)
  c_FILE : mg "FILE" = some (.int 1 t_FILE)
  r_FILE : RelV (.int 1) (.int 1 t_FILE)
  c_INODE_OCTETS : mg "INODE_OCTETS" = some (.int 16 t_INODE_OCTETS)
  r_INODE_OCTETS : RelV (.int 16) (.int 16 t_INODE_OCTETS)
  c_LINK : mg "LINK" = some (.int 3 t_LINK)
  r_LINK : RelV (.int 3) (.int 3 t_LINK)
  n_any : mg "any" = none
  n_bool : mg "bool" = none
  n_int : mg "int" = none
  n_isinstance : mg "isinstance" = none
  n_len : mg "len" = none
  n_list : mg "list" = none
  n_min : mg "min" = none
  n_range : mg "range" = none
  n_reversed : mg "reversed" = none
end Sg
namespace Sg
open PySem L2
local macro_rules | `(tactic| walk_at "size") => `(tactic| first | ((simp only [List.length_append, List.length_cons, List.length_nil, List.length_map, Sg.sz]) <;> omega) | (rw [Sg.sz]; simp <;> omega))
local macro_rules | `(tactic| walk_at "side") => `(tactic| first | with_reducible rfl | with_reducible assumption | (show (_ : Int) < _; omega) | omega | (simp only [List.length_map]; omega) | assumption | rfl | decide | exact Or.inr ⟨by decide, by decide⟩ | exact Or.inl ⟨by decide, by decide⟩ | exact Or.inr ⟨by omega, by omega⟩ | exact Or.inl ⟨by omega, by omega⟩ | exact ⟨by omega, by omega⟩ | exact ⟨by decide, by decide, by decide⟩ | (simp; done))
local macro_rules | `(tactic| walk_at "hp") => `(tactic| first | assumption | (refine' L2.SqT.of ?h1; (case h1 => walk_at "hp")) | (refine' L2.SqL.of ?h1; (case h1 => walk_at "hp")) | (refine' Sg.Same.tup ?h1 ?h2; (case h1 => assumption); (case h2 => walk_at "hp")) | (refine' L2.Same.seq ?h1 ?h2; (case h1 => assumption); (case h2 => walk_at "hp")) | (refine' (show L2.Same _ _ from ?h1) _ _ ?h2; (case h1 => assumption); (case h2 => walk_at "hp")) | (refine' Sg.at_keep ?he ?h1 ?h2 ?h3; (case he => assumption); (case h1 => walk_at "hp"); (case h2 => walk_at "hp"); (case h3 => (intro z; cases z))))
local macro_rules | `(tactic| walk_at "al") => `(tactic| (intro p hn; generalize hH : upd _ _ _ = H'; have hs := Sg.Same.of_new hH hn; have ho := Sg.at_new hH; clear hH))
local macro_rules | `(tactic| walk_at "sm1") => `(tactic| first | (refine' L2.Same.trans ?ha ?hb; (case hb => assumption)) | (refine' Sg.Same.old ?ha ?hb ?hc; (case hc => assumption); (case hb => walk_at "nn")))
local macro_rules | `(tactic| walk_at "sm") => `(tactic| first | exact L2.Same.refl _ | assumption | (walk_at "sm1"; walk_at "sm"))
local macro_rules | `(tactic| walk_at "nn") => `(tactic| first | assumption | ((refine' L2.Same.free ?ha ?hb; (case hb => assumption)); walk_at "sm"))
local macro_rules | `(tactic| walk_at "dp") => `(tactic| first | assumption | exact L2.Dp.int _ | exact L2.Dp.non | exact L2.Dp.bl _ | exact L2.Dp.str _ | (refine' L2.Dp.tup ?ha ?hb; (case ha => walk_at "hp"); (case hb => walk_at "dpa")) | (refine' L2.Dp.lst ?ha ?hb; (case ha => walk_at "hp"); (case hb => walk_at "dpa")))
local macro_rules | `(tactic| walk_at "dpa") => `(tactic| first | assumption | exact L2.DpAll.nil | exact Sg.DpAll.ints _ | (refine' L2.DpAll.cons ?ha ?hb; (case ha => walk_at "dp"); (case hb => walk_at "dpa")))
local macro_rules | `(tactic| walk_at "fl") => `(tactic| first | assumption | exact Sg.Fl.int _ _ | exact Sg.Fl.non _ | exact Sg.Fl.bool _ _ | (refine' Sg.Fl.tup ?ha; (case ha => walk_at "fla")) | (refine' Sg.Fl.lst ?ha; (case ha => walk_at "fla")))
local macro_rules | `(tactic| walk_at "fla") => `(tactic| first | assumption | exact Sg.Fl.nil | exact Sg.Fl.mapi | (refine' Sg.Fl.cons ?ha ?hb; (case ha => walk_at "fl"); (case hb => walk_at "fla")))
local macro_rules | `(tactic| walk_at "tyx") => `(tactic| first | exact L2.TyX.base (L2.TyOf.int _) | exact L2.TyX.base (L2.TyOf.bl _) | exact L2.TyX.base L2.TyOf.non | exact L2.TyX.base (L2.TyOf.str _) | (refine' L2.TyX.base (L2.TyOf.tup ?ha); (case ha => walk_at "hp")) | (refine' L2.TyX.base (L2.TyOf.lst ?ha); (case ha => walk_at "hp")) | (refine' L2.TyX.base (L2.TyOf.frz ?ha); (case ha => walk_at "hp")))
local macro_rules | `(tactic| walk_at "up") => `(tactic| (generalize hH : upd _ _ _ = H'; have ho := Sg.at_new hH))
local macro_rules | `(tactic| walk_at "lk") => `(tactic| first | with_reducible assumption | with_reducible exact Sg.lk_eq | (refine' Sg.lk_ne ?ha ?hb; (case ha => decide +kernel); (case hb => walk_at "lk")) | (refine' Sg.lk_no ?ha ?hb; (case ha => decide +kernel); (case hb => walk_at "lk")) | rfl)
local macro_rules | `(tactic| walk_at "few") => `(tactic| first | assumption | omega | decide | (refine' Nat.lt_of_le_of_lt (Sg.putF_len ?ha) ?hb; (case ha => walk_at "fewi"); (case hb => decide)))
local macro_rules | `(tactic| walk_at "fewi") => `(tactic| first | assumption | (refine' Sg.putF_len ?ha; (case ha => walk_at "fewi")) | exact Nat.le_refl _)
local macro_rules | `(tactic| walk_at "rd1") => `(tactic| with_reducible (first | refine' Sg.r_seq ?_ | refine' Sg.r_asg ?_ | refine' Sg.r_gname ?_ | (refine' Sg.r_var (by with_unfolding_all rfl) ?_) | refine' Sg.r_c ?_ | refine' Sg.r_op ?_ | refine' Sg.r_un ?_ | refine' Sg.r_cb ?_ | refine' Sg.r_cons ?_ | refine' Sg.r_nil ?_ | (refine' Sg.r_mod ?hc ?_; (case hc => (with_unfolding_all walk_at "side")); (intro z hz z0 z1)) | (refine' Sg.r_rI ?hc ?_; (case hc => (with_unfolding_all walk_at "side"))) | refine' Sg.r_rI0 ?_ | refine' Sg.r_rU ?_ | refine' Sg.r_int ?_ | refine' Sg.r_eqi ?_ | refine' Sg.r_nei ?_ | (refine' Sg.r_ixl ?h ?e ?_; (case h => (with_unfolding_all walk_at "hp")); (case e => (with_unfolding_all rfl))) | (refine' Sg.r_ixt ?h ?e ?_; (case h => (with_unfolding_all walk_at "hp")); (case e => (with_unfolding_all rfl))) | (refine' Sg.r_lenl ?h ?_; (case h => (with_unfolding_all walk_at "hp"))) | (refine' Sg.r_lent ?h ?_; (case h => (with_unfolding_all walk_at "hp"))) | refine' Sg.r_test ?_ | refine' Sg.r_exb ?_ | refine' Sg.r_tB ?_ | refine' Sg.r_exbP ?_ | refine' Sg.r_ifs ?_ | refine' Sg.r_and ?_ | refine' Sg.r_or ?_ | refine' Sg.r_not ?_ | refine' Sg.r_andV ?_ | refine' Sg.r_orV ?_ | refine' Sg.r_notV ?_ | refine' Sg.r_tif ?_ | refine' Sg.r_isN ?_ | refine' Sg.r_notN ?_ | refine' Sg.r_ret ?_ | refine' Sg.r_drop ?_ | refine' Sg.r_next ?_ | refine' Sg.r_call ?_ | refine' Sg.r_make ?_ | refine' Sg.r_meth ?_ | refine' Sg.r_fld ?_ | refine' Sg.r_sfld ?_ | refine' Sg.r_chain ?_ | (refine' Sg.r_fldL ?h ?hc ?hn ?hl ?_; (case h => (with_unfolding_all walk_at "hp")); (case hc => assumption); (case hn => assumption); (case hl => (with_unfolding_all walk_at "lk"))) | (refine' Sg.r_sfldL ?h ?hc ?hn ?hl ?_; (case h => (with_unfolding_all walk_at "hp")); (case hc => assumption); (case hn => assumption); (case hl => (with_unfolding_all walk_at "few")); (with_unfolding_all walk_at "up")) | (refine' Sg.r_gunl ?h ?hl ?_; (case h => (with_unfolding_all walk_at "hp")); (case hl => (with_unfolding_all walk_at "side"))) | (refine' Sg.r_gtup ?h ?hl ?_; (case h => (with_unfolding_all walk_at "hp")); (case hl => (with_unfolding_all walk_at "side"))) | (refine' Sg.r_methL ?h ?hl ?_; (case h => (with_unfolding_all walk_at "hp")); (case hl => (with_unfolding_all walk_at "lk"))) | refine' Sg.r_tup ?_ | refine' Sg.r_lst ?_ | (refine' Sg.r_ktup ?hl ?_; (case hl => (with_unfolding_all first | exact Nat.le_of_ble_eq_true rfl | decide)); (with_unfolding_all walk_at "al")) | (refine' Sg.r_klst ?hl ?_; (case hl => (with_unfolding_all first | exact Nat.le_of_ble_eq_true rfl | decide)); (with_unfolding_all walk_at "al")) | (refine' Sg.r_listl ?h ?_; (case h => (with_unfolding_all walk_at "hp")); (with_unfolding_all walk_at "al")) | (refine' Sg.r_listt ?h ?_; (case h => (with_unfolding_all walk_at "hp")); (with_unfolding_all walk_at "al")) | (refine' Sg.r_tupl ?h ?_; (case h => (with_unfolding_all walk_at "hp")); (with_unfolding_all walk_at "al")) | (refine' Sg.r_tupt ?h ?_; (case h => (with_unfolding_all walk_at "hp"))) | (refine' Sg.r_in (.inr ?h) ?fx ?fs ?_; (case h => (with_unfolding_all walk_at "hp")); (case fx => (with_unfolding_all rfl)); (case fs => (with_unfolding_all rfl))) | (refine' Sg.r_in (.inl ?h) ?fx ?fs ?_; (case h => (with_unfolding_all walk_at "hp")); (case fx => (with_unfolding_all rfl)); (case fs => (with_unfolding_all rfl))) | (refine' Sg.r_sorted ?h ?h64 ?_; (case h => (with_unfolding_all walk_at "hp")); (case h64 => (with_unfolding_all walk_at "side")); (intro ns' p perm rising; revert p; (with_unfolding_all walk_at "al"))) | (refine' Sg.r_app ?h ?hl ?_; (case h => (with_unfolding_all walk_at "hp")); (case hl => (with_unfolding_all walk_at "size")); (with_unfolding_all walk_at "up")) | refine' Sg.r_lc ?_ | refine' Sg.r_for ?_ | refine' Sg.r_irng1 ?_ | refine' Sg.r_irng2 ?_ | refine' Sg.r_ilist ?_ | refine' Sg.r_itup ?_ | (refine' Sg.r_kR1 ?h1 ?h2 ?_; (case h1 => (with_unfolding_all walk_at "side")); (case h2 => (with_unfolding_all walk_at "side"))) | (refine' Sg.r_kR2 ?h1 ?_; (case h1 => (with_unfolding_all refine ⟨?_, ?_, ?_, ?_⟩ <;> walk_at "side"))) | (refine' Sg.r_kIl ?h ?_; (case h => (with_unfolding_all walk_at "hp"))) | (refine' Sg.r_kIt ?h ?_; (case h => (with_unfolding_all walk_at "hp"))) | refine' Sg.r_bm ?_ | refine' Sg.r_bm0 ?_ | (refine' Sg.r_tyl ?h ?_; (case h => (with_unfolding_all walk_at "hp"))) | refine' Sg.r_nonR ?_ | refine' Sg.r_nonN ?_ | refine' Sg.r_isR ?_ | refine' Sg.r_isNN ?_ | refine' Sg.r_nonI ?_ | refine' Sg.r_isI ?_ | refine' L2.iteT ?_ | refine' L2.iteF ?_ | refine' Sg.r_gcons ?_ | refine' Sg.r_gnil ?_ | refine' Sg.r_gsub ?_ | refine' Sg.r_isb ?_ | refine' Sg.r_notb ?_ | (refine' Sg.r_aug (by with_unfolding_all rfl) ?_) | refine' Sg.r_ipI ?_ | (refine' Sg.r_isi (b := true) (L2.ClsV.ty _) ?ht ?hk ?_; (case ht => (with_unfolding_all walk_at "tyx")); (case hk => (with_unfolding_all exact L2.kit_ty (by decide +kernel)))) | (refine' Sg.r_isi (b := false) (L2.ClsV.ty _) ?ht ?hk ?_; (case ht => (with_unfolding_all walk_at "tyx")); (case hk => (with_unfolding_all exact L2.kit_ty (by decide +kernel)))) | refine' Sg.r_gmap ?_ | refine' Sg.r_gmapn ?_ | (refine' Sg.r_iteb ?hb ?_; (case hb => (with_unfolding_all rfl))) | (refine' Sg.r_iteB ?hb ?_; (case hb => (with_unfolding_all rfl)))))
local macro_rules | `(tactic| walk_at "rd") => `(tactic| repeat walk_at "rd1")
local macro_rules | `(tactic| walk_at "rdo") => `(tactic| repeat (first | walk_at "rd1" | (with_reducible refine' Sg.r_iteD ?hc ?_; (case hc => first | assumption | omega)) | (with_reducible refine' Sg.r_iteDn ?hc ?_; (case hc => first | assumption | omega)) | (with_reducible refine' Sg.r_iteND ?hc ?_; (case hc => first | assumption | omega)) | (with_reducible refine' Sg.r_iteNDn ?hc ?_; (case hc => first | assumption | omega))))
local macro_rules | `(tactic| walk_at "rd1") => `(tactic| with_reducible (first | refine' Sg.r_sl ?_ | refine' Sg.r_noP ?_ | refine' Sg.r_part ?_ | refine' Sg.r_kPart ?_ | (refine' Sg.r_slL ?h ?_; (case h => (with_unfolding_all walk_at "hp")); (with_unfolding_all walk_at "al"))))
-- imports: HandS.NoneIn HandS.Defaults HandS.TupMul HandS.Zip HandS.SetFor HandS.SetKeys HandS.Walk HandS.Codes HandS.MakeKw HandS.MakeKwOnly HandS.Property HandS.WideBits HandS.Iter KE.GoesEnum
section
variable {P : Program} {w : World} {K : PySem.W.Frag} {mg : Str → Option Value} {base : Heap}
theorem made_same {H H1 : Hp} {x dx : Addr} {o : HO} (nx : H x = none) (nd : H dx = none) (k : ∀ q, q ≠ x → H1 q = upd (upd H dx (.own x)) x o q) : Same H H1 := fun b u e => by
  rw [k b (ne_of_none e nx), upd_ne (ne_of_none e nx), upd_ne (ne_of_none e nd)]
  exact e

/-! ### numbers drawn from the script (the cell of an empty script is its number) -/
def sp_row (K : PySem.W.Frag) : Sp := fun vs H Q _ => ∃ (a : Addr) (ns : List Int) (k : Int), vs = [.ref a, .int k] ∧ SqL K H a (ns.map V.int) ∧ ns.length ≤ 63 ∧ 0 ≤ k ∧ k ≤ 1000 ∧ ∀ z : Int, 0 ≤ z → Q (.int z) H
theorem ok_law_row (T : Txt K mg) : FnOk P w K mg base CX0 1 T.a_law_row T.fd_law_row ["script", "k"] (sp_row K) := by
  refine T.F_law_row.ok sc_law_row (fun vs H Q E h => ?_) (fun cdv A outer s H vs Q E hr h => ?_)
  · obtain ⟨a, ns, k, rfl, _⟩ := h
    rfl
  · refine ⟨_, (pss_cons (ps_set (i := 2) sc_law_row.nd rfl (Or.inl rfl) (pv 1))
       (C8.pss_cut (ps_if (pt_cmpR op_gt (pe_callB (c_len) (by rfl) T.n_len (by decide +kernel) (pa_cons (pv 0) pa_nil)) pe_int (nomark _))
       (pss_one (ps_set (i := 2) sc_law_row.nd rfl (Or.inl rfl) (pe_callTy c_int (by rfl) T.n_int (by decide +kernel) (pa_cons (pe_ix ix_list (pv 0) (pe_op op_mod (pv 1) (pe_callB (c_len) (by rfl) T.n_len (by decide +kernel) (pa_cons (pv 0) pa_nil))) (fun _ _ => rfl)) pa_nil))))
       pss_nil)
       (C8.pss_cut (ps_if (pt_cmpR op_lt (pv 2) pe_int (nomark _))
       (pss_one (ps_set (i := 2) sc_law_row.nd rfl (Or.inl rfl) (pe_op op_sub (pe_op op_mul (pe_un un_neg pe_int) (pv 2)) pe_int)))
       pss_nil)
       (C8.pss_cut (ps_if (PW.pt (pw_and (pt_cmpR op_lt (pv 1) (pe_callB (c_len) (by rfl) T.n_len (by decide +kernel) (pa_cons (pv 0) pa_nil)) (nomark _)) (pw_and1 (pt_cmpR op_ge (pv 2) (pe_op op_pow pe_int pe_int) (nomark _)))))
       (pss_one (ps_ret (pv 2)))
       pss_nil)
       (pss_cons (ps_set (i := 3) sc_law_row.nd rfl (Or.inl rfl) (pe_op op_mod (pe_callTy c_int (by rfl) T.n_int (by decide +kernel) (pa_cons (pe_op op_add (pe_op op_add (pe_op op_mul (pv 2) pe_int) (pe_op op_mul (pv 1) pe_int)) pe_int) pa_nil)) pe_int))
       (pss_cons (ps_set (i := 4) sc_law_row.nd rfl (Or.inl rfl) (pe_op op_mod (pe_callTy c_int (by rfl) T.n_int (by decide +kernel) (pa_cons (pe_op op_add (pe_op op_add (pe_op op_add (pe_op op_mul (pv 3) pe_int) (pv 2)) (pe_op op_mul (pv 1) pe_int)) pe_int) pa_nil)) pe_int))
       (pss_cons (ps_set (i := 3) sc_law_row.nd rfl (Or.inl rfl) (pe_op op_mod (pe_callTy c_int (by rfl) T.n_int (by decide +kernel) (pa_cons (pe_op op_add (pe_op op_add (pe_op op_mul (pv 3) pe_int) (pe_op op_mul (pv 4) pe_int)) (pv 1)) pa_nil)) pe_int))
       (pss_one (ps_ret (pe_op op_add (pe_op op_mul (pv 4) pe_int) (pv 3))))))))))), ?_⟩
    try dsimp only [cxOf, Cx.nox, Cx.wish]
    obtain ⟨a, ns, k, rfl, hS, h63, k0, k1, q⟩ := h
    walk_at "rd"
    refine r_cut (fun σ' H' => ∃ z : Int, σ' = [some (.ref a), some (.int k), some (.int z), none, none] ∧ H = H') ?_ ?_
    · walk_at "rd"
      refine r_ite (fun hlen => ?_) (fun _ => ?_)
      · rw [List.length_map] at hlen
        walk_at "rd"
        rename_i z hz z0 z1
        rw [List.length_map] at z1
        refine r_ixl hS (v := .int (ns.getD z.toNat 0)) ?_ ?_
        · obtain ⟨n, rfl⟩ := Int.eq_ofNat_of_zero_le z0
          refine atI_nat ?_
          have hn : n < ns.length := by omega
          rw [List.getElem?_map, List.getElem?_eq_getElem hn, List.getD_eq_getElem?_getD, Int.toNat_natCast, List.getElem?_eq_getElem hn]
          rfl
        · walk_at "rd"
          exact ⟨_, rfl, rfl⟩
      · exact ⟨_, rfl, rfl⟩
    · rintro _ _ ⟨z, rfl, rfl⟩
      walk_at "rd"
      refine r_cut (fun σ' H' => ∃ z : Int, 0 ≤ z ∧ σ' = [some (.ref a), some (.int k), some (.int z), none, none] ∧ H = H') ?_ ?_
      · walk_at "rd"
        refine r_ite (fun _ => ?_) (fun _ => ?_)
        · walk_at "rd"
          exact ⟨_, by omega, rfl, rfl⟩
        · exact ⟨_, by omega, rfl, rfl⟩
      · rintro _ _ ⟨y, y0, rfl, rfl⟩
        walk_at "rd"
        refine r_cutS ?_ ?_
        · walk_at "rd"
          refine r_ite (fun _ => ?_) (fun _ => ?_)
          · walk_at "rd"
            refine r_ite (fun _ => ?_) (fun _ => ?_)
            · walk_at "rd"
              exact q _ y0
            · exact ⟨rfl, rfl⟩
          · walk_at "rd"
            exact ⟨rfl, rfl⟩
        · walk_at "rd"
          exact q _ (by omega)

/-! ### enumerate of a list -/
def kIe (K : PySem.W.Frag) (R : It → Hp → Prop) : List V → Hp → Prop := fun vs H1 => ∃ a xs, vs = [.ref a] ∧ SqL K H1 a xs ∧ R (Ite K a) H1
theorem r_ienum {K : PySem.W.Frag} {ta : TA} {σ : L2.St} {H : Hp} {R : It → Hp → Prop} (h : ta σ H (kIe K R)) : iEnum K ta σ H R := h
theorem r_kIe {K : PySem.W.Frag} {a : Addr} {xs : List V} {H : Hp} {R : It → Hp → Prop} (h1 : SqL K H a xs) (h : R (Ite K a) H) : kIe K R [.ref a] H := ⟨a, xs, rfl, h1, h⟩
theorem r_forE {K : PySem.W.Frag} {a : Addr} {xs : List V} {σ : L2.St} {H : Hp} {D : Ends} {g : TG} {tb : TS} (Pv : Nat → L2.St → Hp → Prop) (h0 : Pv 0 σ H) (hl : ∀ i σ H, i ≤ xs.length → Pv i σ H → SqL K H a xs)
    (hs : ∀ (i : Nat) (x : V) (σ : L2.St) (H H' : Hp) (T : Addr), xs[i]? = some x → Pv i σ H → H T = none → upd H T (.tup [.int (i : Nat), x]) = H' → g (.ref T) σ H' fun σ2 H2 => tb { D with nx := Pv (i + 1), ct := Pv (i + 1), bk := D.nx } σ2 H2)
    (hd : ∀ σ H, Pv xs.length σ H → D.nx σ H) : kFor g tb D σ (Ite K a) H :=
  for_it walk_enum Pv h0 hl (fun i x σ H H' hlt p y => by
    obtain ⟨T, z, w, e1, e2, e3, e4, e5⟩ := y
    cases e4
    rw [e1]
    exact hs i w σ H H' T e5 p e2 e3.symm) hd
def SqI (K : PySem.W.Frag) (H : Hp) (l : Addr) (ns : List Int) : Prop := SqL K H l (ns.map V.int) ∨ SqT K H l (ns.map V.int)
theorem SqI.mono {K : PySem.W.Frag} {H H' : Hp} {l : Addr} {ns : List Int} (s : Same H H') (h : SqI K H l ns) : SqI K H' l ns := h.imp (fun h => s.seq h) (fun h => Same.tup s h)
theorem inV_ints (k : Int) : ∀ ns : List Int, inV (.int k) (ns.map V.int) = decide (k ∈ ns)
  | [] => rfl
  | n :: ns => by
    have ih := inV_ints k ns
    unfold inV at ih ⊢
    rw [List.map_cons, List.any_cons, ih]
    by_cases e : k = n
    · subst e
      simp [eqV]
    · have e' : ¬ n = k := fun z => e z.symm
      simp [eqV, e, e']
theorem flat_ints : ∀ ns : List Int, (ns.map V.int).all flatV = true
  | [] => rfl
  | n :: ns => by rw [List.map_cons, List.all_cons, flat_ints ns]; rfl

theorem r_neI {K : PySem.W.Frag} {H : Hp} {a b : Addr} {ns : List Int} {Q : V → Hp → Prop} (ha : SqL K H a (ns.map V.int)) (hb : SqL K H b (ns.map V.int)) (q : Q (.bl false) H) : rNeD K (.ref a) (.ref b) H Q := by
  refine r_ned (Dp.ints ha) (Dp.ints hb) (Fl.intlS ns) (Fl.intlS ns) ?_
  rw [(Fl.intl ns).self]
  exact q
theorem r_eqI {K : PySem.W.Frag} {H : Hp} {a b : Addr} {ns : List Int} {Q : V → Hp → Prop} (ha : SqL K H a (ns.map V.int)) (hb : SqL K H b (ns.map V.int)) (q : Q (.bl true) H) : rEqD K (.ref a) (.ref b) H Q := by
  refine r_eqd (Dp.ints ha) (Dp.ints hb) (Fl.intlS ns) (Fl.intlS ns) ?_
  rw [(Fl.intl ns).self]
  exact q

/-! ### any(xs) of a list of ints -/
theorem truth_intsV {prog : Program} {w : World} {A : Around} {ns : List Int} {its : List Value} (r : Vals (ns.map V.int) its) :
    TruthOf prog w A (fun i v => its.toArray[i]? = some v) (fun i => ns.getD i 0 != 0) := fun i v s Q E hv hq => by
  have hv' : its[i]? = some v := by simpa using hv
  have hi := (List.getElem?_eq_some_iff.mp hv').1
  have hl : (ns.map V.int).length = its.length := r.length
  rw [List.length_map] at hl
  have hx : (ns.map V.int)[i]? = some (V.int (ns.getD i 0)) := by
    rw [List.getElem?_map, List.getElem?_eq_getElem (by omega), List.getD_eq_getElem?_getD, List.getElem?_eq_getElem (by omega)]
    rfl
  obtain ⟨u, hu, ru⟩ := r.get hx
  rw [hv'] at hu
  cases hu
  obtain ⟨t, rfl⟩ := ru
  exact PySem.P.truthy_int hq
theorem any_rangeI : ∀ ns : List Int, (List.range ns.length).any (fun i => ns.getD i 0 != 0) = ns.any (· != 0)
  | [] => rfl
  | b :: bs => by
    rw [List.length_cons, List.range_succ_eq_map, List.any_cons, List.any_map, List.any_cons, ← any_rangeI bs]
    all_goals rfl
def rAnyI (K : PySem.W.Frag) : List V → Hp → VK → Prop := fun vs H Q => ∃ (a : Addr) (ns : List Int), vs = [V.ref a] ∧ SqL K H a (ns.map V.int) ∧ Q (.bl (ns.any (· != 0))) H
theorem cr_anyI {X : Cx} (hc : X.calm = true) : CallR X (.builtin "any") (rAnyI X.K) := by
  intro pins s σ H vs us Q I r h
  obtain ⟨a, ns, rfl, hs, q⟩ := h
  obtain ⟨its, rv, hl, _⟩ := I.list hs
  rw [Vals.ref1 r]
  refine PySem.call_any_walk (iter_any hl.isList fun s₂ e2 st hne => ?_)
  subst e2
  refine ⟨_, _, _, _, _, _, _, rfl, Walks.list (A := X.A.in1) (I.ok.hd hc) _ a hne its.toArray, st, truth_intsV rv, fun h' tk hk => ?_⟩
  refine ⟨.bl _, H, I.kept fun b o eo => hk b o (fun hmem => ?_) (Heap.get?_push_of_some _ eo), ?_, q⟩
  · rcases List.mem_cons.mp hmem with e1 | hmem
    · exact absurd (e1 ▸ Heap.lt_size eo) (Nat.lt_irrefl _)
    · cases hmem
  · show Value.bool _ = Value.bool _
    rw [← any_rangeI, List.size_toArray, ← rv.length, List.length_map]
theorem r_anyI {K : PySem.W.Frag} {H : Hp} {a : Addr} {ns : List Int} {Q : V → Hp → Prop} (h : SqL K H a (ns.map V.int)) (q : Q (.bl (ns.any (· != 0))) H) : rAnyI K [.ref a] H Q := ⟨a, ns, rfl, h, q⟩

/-! ### properties, calls with keywords, extend, min of two -/
def kProp (C : Addr) (sp : Sp) (dvs : List V) (E : XK) (Q : V → Hp → Prop) : V → Hp → Prop := fun x H1 => ∃ a dx fs, x = .ref a ∧ H1 a = some (.ins C dx fs) ∧ sp (.ref a :: dvs) H1 Q E
theorem r_prop {C : Addr} {sp : Sp} {dvs : List V} {E : XK} {ta : TE} {σ : L2.St} {H : Hp} {Q : V → Hp → Prop} (h : ta σ H (kProp C sp dvs E Q)) : tProp C sp dvs E ta σ H Q := h
theorem r_kprop {C a dx : Addr} {fs : List (Str × V)} {sp : Sp} {dvs : List V} {E : XK} {H : Hp} {Q : V → Hp → Prop} (h : H a = some (.ins C dx fs)) (q : sp (.ref a :: dvs) H Q E) : kProp C sp dvs E Q (.ref a) H := ⟨a, dx, fs, rfl, h, q⟩
theorem r_makeN {C : Addr} {n m : Nat} {sp : Sp} {gV : List V → List V → List V} {E : XK} {t tk : TA} {σ : L2.St} {H : Hp} {Q : V → Hp → Prop} (h : t σ H fun vs H1 => tk σ H1 fun zs H2 => vs.length = n ∧ zs.length = m ∧ ∀ x dx, H2 x = none → H2 dx = none → dx ≠ x →
    sp (gV (.ref x :: vs) zs) (upd (upd H2 dx (.own x)) x (.ins C dx [])) (fun v H3 => v = .non ∧ Q (.ref x) H3) E) : tMakeN C n m sp gV E t tk σ H Q := h
theorem r_callN {n m : Nat} {sp : Sp} {gV : List V → List V → List V} {E : XK} {t tk : TA} {σ : L2.St} {H : Hp} {Q : V → Hp → Prop} (h : t σ H fun vs H1 => tk σ H1 fun zs H2 => vs.length = n ∧ zs.length = m ∧ sp (gV vs zs) H2 Q E) : tCallN n m sp gV E t tk σ H Q := h
theorem r_ext {l b : Addr} {xs zs : List V} {H : Hp} {Q : V → Hp → Prop} (h : H l = some (.lst xs)) (hb : H b = some (.lst zs)) (hz : xs.length + zs.length ≤ 1000000) (q : Q .non (upd H l (.lst (xs ++ zs)))) : rExtend (.ref l) [.ref b] H Q :=
  ⟨l, b, xs, zs, rfl, rfl, h, hb, by rw [sz]; omega, q⟩

/-! ### numbers in octets: the mathematics -/
def octN : Int → Nat → List Int
  | _, 0 => []
  | n, k + 1 => n % 256 :: octN (n / 256) k
def val : List Int → Int
  | [] => 0
  | x :: r => val r * 256 + x
theorem octN_len : ∀ (k : Nat) (n : Int), (octN n k).length = k
  | 0, _ => rfl
  | k + 1, n => by rw [octN, List.length_cons, octN_len k]
theorem octN_at : ∀ (k i : Nat) (n : Int), i < k → (octN n k)[i]? = some (n / 2 ^ (8 * i) % 2 ^ 8)
  | 0, i, n, h => by omega
  | k + 1, 0, n, h => by
    rw [octN, List.getElem?_cons_zero, Nat.mul_zero, Int.pow_zero, Int.ediv_one]
    rfl
  | k + 1, i + 1, n, h => by
    rw [octN, List.getElem?_cons_succ, octN_at k i (n / 256) (by omega)]
    have e : n / 256 / 2 ^ (8 * i) = n / 2 ^ (8 * (i + 1)) := by
      rw [Int.ediv_ediv_of_nonneg (by decide), Nat.mul_add, Int.pow_add, Int.mul_comm]
      rfl
    rw [e]
theorem octN_byte : ∀ (k : Nat) (n x : Int), x ∈ octN n k → 0 ≤ x ∧ x < 256
  | 0, n, x, h => by cases h
  | k + 1, n, x, h => by
    rw [octN] at h
    rcases List.mem_cons.mp h with rfl | h
    · omega
    · exact octN_byte k _ x h
theorem val_octN : ∀ (k : Nat) (n : Int), val (octN n k) = n % 256 ^ k
  | 0, n => by rw [octN, val, Int.pow_zero, Int.emod_one]
  | k + 1, n => by
    rw [octN, val, val_octN k]
    have h1 : n / 256 % 256 ^ k = n / 256 - 256 ^ k * (n / 256 / 256 ^ k) := Int.emod_def ..
    have h2 : n % 256 ^ (k + 1) = n - 256 ^ (k + 1) * (n / 256 ^ (k + 1)) := Int.emod_def ..
    have h3 : n / 256 / 256 ^ k = n / 256 ^ (k + 1) := by
      rw [Int.ediv_ediv_of_nonneg (by decide), Int.pow_succ, Int.mul_comm]
    have h4 : (256 : Int) ^ (k + 1) = 256 ^ k * 256 := Int.pow_succ ..
    rw [h1, h2, h3, h4, Int.sub_mul, Int.mul_right_comm]
    generalize (256 : Int) ^ k * 256 * (n / (256 ^ k * 256)) = u
    omega
theorem octN_val : ∀ (l : List Int), (∀ x ∈ l, 0 ≤ x ∧ x < 256) → octN (val l) l.length = l
  | [], _ => rfl
  | x :: r, h => by
    obtain ⟨a, b⟩ := h x List.mem_cons_self
    rw [val, List.length_cons, octN]
    have e1 : (val r * 256 + x) % 256 = x := by omega
    have e2 : (val r * 256 + x) / 256 = val r := by omega
    rw [e1, e2, octN_val r fun y hy => h y (List.mem_cons_of_mem _ hy)]
theorem val_nn : ∀ (l : List Int), (∀ x ∈ l, 0 ≤ x ∧ x < 256) → 0 ≤ val l
  | [], _ => Int.le_refl _
  | x :: r, h => by
    have h1 := val_nn r fun y hy => h y (List.mem_cons_of_mem _ hy)
    obtain ⟨a, b⟩ := h x List.mem_cons_self
    rw [val]
    omega
theorem ext_at {l l' : List Int} {n : Nat} (hl : l.length = n) (hl' : l'.length = n) (h : ∀ i x, i < n → l[i]? = some x → l'[i]? = some x) : l = l' := by
  refine List.ext_getElem? fun i => ?_
  by_cases c : i < n
  · have e := List.getElem?_eq_getElem (l := l) (i := i) (by omega)
    rw [e, h i _ c e]
  · rw [List.getElem?_eq_none (by omega), List.getElem?_eq_none (by omega)]

/-! ### number_octets, number_of -/
def sp_number_octets : Sp := fun vs H Q _ => ∃ n c : Int, vs = [.int n, .int c] ∧ 0 ≤ c ∧ c ≤ 1000 ∧ ∀ (H' : Hp) (l : Addr), Same H H' → H l = none → H' l = some (.lst ((octN n c.toNat).map V.int)) → Q (.ref l) H'
theorem ok_number_octets (T : Txt K mg) : FnOk P w K mg base CX0 1 T.a_number_octets T.fd_number_octets ["number", "count"] sp_number_octets := by
  refine T.F_number_octets.ok sc_number_octets (fun vs H Q E h => ?_) (fun cdv A outer s H vs Q E hr h => ?_)
  · obtain ⟨n, c, rfl, _⟩ := h
    rfl
  · refine ⟨_, (pss_one (ps_ret (pe_lc (own := [("place", 2)]) (g := gName 2) (tt := tYes) rfl sc_number_octets.nd (pi_range1 rfl T.n_range (pa_cons (pv 1) pa_nil)) (blkOk_by (own := [("place", 2)]) (N := n_number_octets) (sc := defScope s_number_octets) (by decide +kernel)) (fun _ _ _ _ _ => pg_name (i := 2) sc_number_octets.nd rfl (Or.inl rfl)) (fun _ _ _ _ _ => pts_nil) (fun _ _ _ _ _ => (pe_op op_andM (pe_op op_shr (pv 0) (pe_op op_mul pe_int (pv 2))) pe_int))))), ?_⟩
    try dsimp only [cxOf, Cx.nox, Cx.wish]
    obtain ⟨n, c, rfl, c0, c1, q⟩ := h
    walk_at "rd"
    refine r_lcI (fun i z => z = n / 2 ^ (8 * i) % 2 ^ 8) (by omega) rfl ?_ ?_
    · intro i H' hi s R hR
      walk_at "rd"
      refine ⟨_, 8, rfl, by decide, ?_⟩
      refine hR _ ?_
      rw [show (8 * ((0 : Int) + (i : Int))).toNat = 8 * i from by omega]
    · intro H' l zs s nl hl el hz
      refine q H' l s nl ?_
      rw [hl, ext_at el (octN_len c.toNat n) fun i x hi hx => by rw [octN_at _ _ _ hi, hz i x hx]]
def kIv (K : PySem.W.Frag) (R : It → Hp → Prop) : List V → Hp → Prop := fun vs H1 => ∃ (a : Addr) (xs : List V), vs = [.ref a] ∧ SqL K H1 a xs ∧ R (Itv K a xs.length) H1
theorem r_irev {K : PySem.W.Frag} {ta : TA} {σ : L2.St} {H : Hp} {R : It → Hp → Prop} (h : ta σ H (kIv K R)) : iRev K ta σ H R := h
theorem r_kIv {K : PySem.W.Frag} {a : Addr} {xs : List V} {H : Hp} {R : It → Hp → Prop} (h1 : SqL K H a xs) (h : R (Itv K a xs.length) H) : kIv K R [.ref a] H := ⟨a, xs, rfl, h1, h⟩
theorem r_forV {K : PySem.W.Frag} {a : Addr} {xs : List V} {g : TG} {tb : TS} {D : Ends} {σ : L2.St} {H : Hp} (Pv : Nat → L2.St → Hp → Prop) (h0 : Pv 0 σ H) (hG : ∀ i σ H, i ≤ xs.length → Pv i σ H → SqL K H a xs)
    (hs : ∀ i x σ H, i < xs.length → xs[xs.length - 1 - i]? = some x → Pv i σ H → g x σ H fun σ2 H2 => tb { D with nx := Pv (i + 1), ct := Pv (i + 1), bk := D.nx } σ2 H2) (hd : ∀ σ H, Pv xs.length σ H → D.nx σ H) : kFor g tb D σ (Itv K a xs.length) H :=
  for_it walk_rev Pv h0 hG (fun i x σ H H' hi p ⟨e, hx⟩ => by subst e; exact hs i x σ _ hi hx p) hd
theorem val_drop {ns : List Int} {i : Nat} {z : Int} (h : ns[i]? = some z) : val (ns.drop i) = val (ns.drop (i + 1)) * 256 + z := by
  have hi := (List.getElem?_eq_some_iff.mp h)
  obtain ⟨hi, e⟩ := hi
  rw [List.drop_eq_getElem_cons hi, e, val]
def sp_number_of (K : PySem.W.Frag) : Sp := fun vs H Q _ => ∃ (a : Addr) (ns : List Int), vs = [.ref a] ∧ SqL K H a (ns.map V.int) ∧ Q (.int (val ns)) H
theorem ok_number_of (T : Txt K mg) : FnOk P w K mg base CX0 1 T.a_number_of T.fd_number_of ["octets"] (sp_number_of K) := by
  refine T.F_number_of.ok sc_number_of (fun vs H Q E h => ?_) (fun cdv A outer s H vs Q E hr h => ?_)
  · obtain ⟨a, ns, rfl, _⟩ := h
    rfl
  · refine ⟨_, (pss_cons (ps_set (i := 1) sc_number_of.nd rfl (Or.inl rfl) pe_int)
       (pss_cons (ps_for PassesOwn.never rfl (pi_reversed (by rfl) T.n_reversed (pa_cons (pv 0) pa_nil)) (pg_name (i := 2) sc_number_of.nd rfl (Or.inl rfl))
       (pss_one (ps_set (i := 1) sc_number_of.nd rfl (Or.inl rfl) (pe_op op_add (pe_op op_mul (pv 1) pe_int) (pv 2)))))
       (pss_one (ps_ret (pv 1))))), ?_⟩
    try dsimp only [cxOf, Cx.nox, Cx.wish]
    obtain ⟨a, ns, rfl, hS, q⟩ := h
    walk_at "rd"
    refine r_irev ?_
    walk_at "rd"
    refine r_kIv hS ?_
    refine r_forV (fun i σ' H' => ∃ v2 : Option V, σ' = [some (.ref a), some (.int (val (ns.drop (ns.length - i)))), v2] ∧ H = H') ⟨none, by rw [Nat.sub_zero, List.drop_length]; rfl, rfl⟩ (fun _ _ _ _ ⟨_, _, e⟩ => e ▸ hS) ?_ ?_
    · rintro i x σ' H' hi hx ⟨v2, rfl, rfl⟩
      rw [List.length_map] at hi hx
      rw [List.getElem?_map] at hx
      obtain ⟨z, hz, rfl⟩ := Option.map_eq_some_iff.mp hx
      have e := val_drop hz
      rw [show ns.length - 1 - i + 1 = ns.length - i from by omega, show ns.length - 1 - i = ns.length - (i + 1) from by omega] at e
      walk_at "rd"
      rw [← e]
      exact ⟨_, rfl, rfl⟩
    · rintro σ' H' ⟨v2, rfl, rfl⟩
      rw [List.length_map, Nat.sub_self, List.drop_zero]
      walk_at "rd"
      exact q

/-! ### inodes -/
structure Ino where
  kind : Int
  links : Int
  size : Int
  height : Int
  root : Int
  parent : Int
structure InoFs (f : Ino) (fs : List (Str × V)) : Prop where
  kind : fs.lookup ("kind" : Str) = some (V.int f.kind)
  links : fs.lookup ("links" : Str) = some (V.int f.links)
  size : fs.lookup ("size" : Str) = some (V.int f.size)
  height : fs.lookup ("height" : Str) = some (V.int f.height)
  root : fs.lookup ("root" : Str) = some (V.int f.root)
  parent : fs.lookup ("parent" : Str) = some (V.int f.parent)
def InoAt (C : Addr) (f : Ino) (H : Hp) (p : Addr) : Prop := ∃ dx fs, H p = some (.ins C dx fs) ∧ InoFs f fs
theorem InoAt.mono {C : Addr} {f : Ino} {H H' : Hp} {p : Addr} (s : Same H H') (h : InoAt C f H p) : InoAt C f H' p := by
  obtain ⟨dx, fs, h1, h2⟩ := h
  exact ⟨dx, fs, s _ _ h1, h2⟩
def Ino.list (f : Ino) : List Int := [f.kind, f.links, f.size, f.height, f.root, f.parent]
def encI (f : Ino) : List Int := [f.kind] ++ octN f.links 2 ++ octN f.size 4 ++ [f.height] ++ octN f.root 2 ++ octN f.parent 2 ++ [0, 0, 0, 0]
def sp_inode (C : Addr) : Sp := fun vs H Q _ => ∃ (p dx : Addr) (f : Ino), vs = [.ref p, .int f.kind, .int f.links, .int f.size, .int f.height, .int f.root, .int f.parent] ∧ H p = some (.ins C dx []) ∧
  ∀ H' fs, (∀ q, q ≠ p → H' q = H q) → H' p = some (.ins C dx fs) → InoFs f fs → Q .non H'
theorem keepi {H H1 H' : Hp} {p : Addr} {o : HO} (h : ∀ q, q ≠ p → H1 q = H q) (e : upd H1 p o = H') : ∀ q, q ≠ p → H' q = H q := fun q hq => by
  rw [← e, upd_ne hq]
  exact h q hq
theorem madei {H H1 : Hp} {x dx : Addr} {o : HO} (nx : H x = none) (nd : H dx = none) (k : ∀ q, q ≠ x → H1 q = upd (upd H dx (.own x)) x o q) : Same H H1 := fun b u e => by
  rw [k b (ne_of_none e nx), upd_ne (ne_of_none e nx), upd_ne (ne_of_none e nd)]
  exact e
theorem ok_Inode___init (T : Txt K mg) : FnOk P w K mg base CX0 1 T.a_Inode___init T.fd_Inode___init ["self", "kind", "links", "size", "height", "root", "parent"] (sp_inode T.A_Inode) := by
  refine T.F_Inode___init.ok (CX := CX0) sc_Inode___init (fun vs H Q E h => ?_) (fun cdv A outer s H vs Q E hr h => ?_)
  · obtain ⟨p, dx, f, rfl, _⟩ := h
    rfl
  · refine ⟨_, (pss_cons (ps_fld (pv 0) (pv 1) rfl)
       (pss_cons (ps_fld (pv 0) (pv 2) rfl)
       (pss_cons (ps_fld (pv 0) (pv 3) rfl)
       (pss_cons (ps_fld (pv 0) (pv 4) rfl)
       (pss_cons (ps_fld (pv 0) (pv 5) rfl)
       (pss_one (ps_fld (pv 0) (pv 6) rfl))))))), ?_⟩
    try dsimp only [cxOf, Cx.nox, Cx.wish]
    obtain ⟨p, dx, f, rfl, hp, q⟩ := h
    have cl := T.cl_Inode
    have na1 := T.na_Inode_kind
    have na2 := T.na_Inode_links
    have na3 := T.na_Inode_size
    have na4 := T.na_Inode_height
    have na5 := T.na_Inode_root
    have na6 := T.na_Inode_parent
    walk_at "rd"
    refine q _ _ ?kk (by walk_at "hp") ⟨by walk_at "lk", by walk_at "lk", by walk_at "lk", by walk_at "lk", by walk_at "lk", by walk_at "lk"⟩
    case kk =>
      repeat (refine keepi ?_ (by assumption))
      exact fun _ _ => rfl
def sp_encode (C : Addr) : Sp := fun vs H Q _ => ∃ (p : Addr) (f : Ino), vs = [.ref p] ∧ InoAt C f H p ∧ ∀ (H' : Hp) (l : Addr), Same H H' → H l = none → H' l = some (.lst ((encI f).map V.int)) → Q (.ref l) H'
theorem ok_encode_inode (T : Txt K mg) : FnOk P w K mg base CX0 2 T.a_encode_inode T.fd_encode_inode ["inode"] (sp_encode T.A_Inode) := by
  refine T.F_encode_inode.ok sc_encode_inode (fun vs H Q E h => ?_) (fun cdv A outer s H vs Q E hr h => ?_)
  · obtain ⟨p, f, rfl, _⟩ := h
    rfl
  · refine ⟨_, (pss_cons (ps_set (i := 1) sc_encode_inode.nd rfl (Or.inl rfl) (pe_lst (pa_cons (pe_fld (pv 0) rfl) pa_nil)))
       (pss_cons (ps_expr (pe_bm PySem.F.plainAttrs_list PySem.F.slot_list_extend PySem.F.type_list_extend mt_extend (pv 1) (pa_cons (pe_call (ok_number_octets T) (hr.mono (by decide)) rfl T.m_number_octets T.F_number_octets.kp T.b_number_octets .nil pass0 (pa_cons (pe_fld (pv 0) rfl) (pa_cons pe_int pa_nil))) pa_nil)))
       (pss_cons (ps_expr (pe_bm PySem.F.plainAttrs_list PySem.F.slot_list_extend PySem.F.type_list_extend mt_extend (pv 1) (pa_cons (pe_call (ok_number_octets T) (hr.mono (by decide)) rfl T.m_number_octets T.F_number_octets.kp T.b_number_octets .nil pass0 (pa_cons (pe_fld (pv 0) rfl) (pa_cons pe_int pa_nil))) pa_nil)))
       (pss_cons (ps_expr (pe_bm PySem.F.plainAttrs_list PySem.F.slot_list_append PySem.F.type_list_append mt_append (pv 1) (pa_cons (pe_fld (pv 0) rfl) pa_nil)))
       (pss_cons (ps_expr (pe_bm PySem.F.plainAttrs_list PySem.F.slot_list_extend PySem.F.type_list_extend mt_extend (pv 1) (pa_cons (pe_call (ok_number_octets T) (hr.mono (by decide)) rfl T.m_number_octets T.F_number_octets.kp T.b_number_octets .nil pass0 (pa_cons (pe_fld (pv 0) rfl) (pa_cons pe_int pa_nil))) pa_nil)))
       (pss_cons (ps_expr (pe_bm PySem.F.plainAttrs_list PySem.F.slot_list_extend PySem.F.type_list_extend mt_extend (pv 1) (pa_cons (pe_call (ok_number_octets T) (hr.mono (by decide)) rfl T.m_number_octets T.F_number_octets.kp T.b_number_octets .nil pass0 (pa_cons (pe_fld (pv 0) rfl) (pa_cons pe_int pa_nil))) pa_nil)))
       (pss_one (ps_ret (pe_op op_cat (pv 1) (pe_lst (pa_cons pe_int (pa_cons pe_int (pa_cons pe_int (pa_cons pe_int pa_nil)))))))))))))), ?_⟩
    try dsimp only [cxOf, Cx.nox, Cx.wish]
    obtain ⟨p, f, rfl, ⟨dx, fs, hp, F1, F2, F3, F4, F5, F6⟩, q⟩ := h
    have cl := T.cl_Inode
    have na1 := T.na_Inode_kind
    have na2 := T.na_Inode_links
    have na3 := T.na_Inode_size
    have na4 := T.na_Inode_height
    have na5 := T.na_Inode_root
    have na6 := T.na_Inode_parent
    walk_at "rd"
    rename_i l nl H1 s1 h1
    refine ⟨_, _, rfl, by decide, by decide, fun H2 l2 s2 n2 h2 => ?_⟩
    have h2' : H2 l2 = some (.lst [V.int (f.links % 256), V.int (f.links / 256 % 256)]) := h2
    walk_at "rd"
    refine r_ext (s2 _ _ h1) h2' (Nat.le_of_ble_eq_true rfl) ?_
    walk_at "up"
    rename_i H3 e3 h3
    have s3 : Same H H3 := Sg.Same.old (s1.trans s2) nl e3
    walk_at "rd"
    refine ⟨_, _, rfl, by decide, by decide, fun H4 l4 s4 n4 h4 => ?_⟩
    have h4' : H4 l4 = some (.lst [V.int (f.size % 256), V.int (f.size / 256 % 256), V.int (f.size / 256 / 256 % 256), V.int (f.size / 256 / 256 / 256 % 256)]) := h4
    walk_at "rd"
    refine r_ext (s4 _ _ h3) h4' (Nat.le_of_ble_eq_true rfl) ?_
    walk_at "up"
    rename_i H5 e5 h5
    have s5 : Same H H5 := Sg.Same.old (s3.trans s4) nl e5
    walk_at "rd"
    rename_i H6 e6 h6
    have s6 : Same H H6 := Sg.Same.old s5 nl e6
    refine ⟨_, _, rfl, by decide, by decide, fun H7 l7 s7 n7 h7 => ?_⟩
    have h7' : H7 l7 = some (.lst [V.int (f.root % 256), V.int (f.root / 256 % 256)]) := h7
    walk_at "rd"
    refine r_ext (s7 _ _ h6) h7' (Nat.le_of_ble_eq_true rfl) ?_
    walk_at "up"
    rename_i H8 e8 h8
    have s8 : Same H H8 := Sg.Same.old (s6.trans s7) nl e8
    walk_at "rd"
    refine ⟨_, _, rfl, by decide, by decide, fun H9 l9 s9 n9 h9 => ?_⟩
    have h9' : H9 l9 = some (.lst [V.int (f.parent % 256), V.int (f.parent / 256 % 256)]) := h9
    walk_at "rd"
    refine r_ext (s9 _ _ h8) h9' (Nat.le_of_ble_eq_true rfl) ?_
    walk_at "up"
    rename_i H10 e10 h10
    have s10 : Same H H10 := Sg.Same.old (s8.trans s9) nl e10
    walk_at "rd"
    rename_i l11 n11 H11 s11 h11
    refine r_cat (s11 _ _ h10) h11 (Nat.le_of_ble_eq_true rfl) ?_
    walk_at "al"
    rename_i l12 n12 H12 s12 h12
    walk_at "rd"
    exact q _ _ (s10.trans (s11.trans s12)) (Same.free (s10.trans s11) n12) h12

/-! ### inodes read back -/
def holdsI (ns : List Int) : Bool := decide (ns.getD 0 0 ∈ ([1, 2, 3] : List Int)) && !(ns.drop 12).any (· != 0)
def decI (ns : List Int) : Ino := ⟨ns.getD 0 0, val ((ns.drop 1).take 2), val ((ns.drop 3).take 4), ns.getD 7 0, val ((ns.drop 8).take 2), val ((ns.drop 10).take 2)⟩
theorem sixteen {ns : List Int} (h : ns.length = 16) : ∃ o0 o1 o2 o3 o4 o5 o6 o7 o8 o9 o10 o11 o12 o13 o14 o15 : Int, ns = [o0, o1, o2, o3, o4, o5, o6, o7, o8, o9, o10, o11, o12, o13, o14, o15] := by
  match ns, h with
  | [o0, o1, o2, o3, o4, o5, o6, o7, o8, o9, o10, o11, o12, o13, o14, o15], _ => exact ⟨_, _, _, _, _, _, _, _, _, _, _, _, _, _, _, _, rfl⟩
theorem in123 (z : Int) : inV (V.int z) [V.int 1, V.int 2, V.int 3] = decide (z ∈ ([1, 2, 3] : List Int)) := inV_ints z [1, 2, 3]
def sp_holds (K : PySem.W.Frag) : Sp := fun vs H Q _ => ∃ (a : Addr) (ns : List Int), vs = [.ref a] ∧ SqL K H a (ns.map V.int) ∧ ns.length = 16 ∧ ∀ H', Same H H' → Q (.bl (holdsI ns)) H'
theorem ok_holds_inode (T : Txt K mg) : FnOk P w K mg base CX0 1 T.a_holds_inode T.fd_holds_inode ["octets"] (sp_holds K) := by
  refine T.F_holds_inode.ok sc_holds_inode (fun vs H Q E h => ?_) (fun cdv A outer s H vs Q E hr h => ?_)
  · obtain ⟨a, ns, rfl, _⟩ := h
    rfl
  · refine ⟨_, (pss_one (ps_ret (pe_and (pe_cmpR op_in_seq (pe_ix ix_list (pv 0) pe_int (fun _ _ => rfl)) (pe_tup (pa_cons (pe_glob rfl T.c_FILE T.r_FILE) (pa_cons (pe_glob rfl T.c_DIRECTORY T.r_DIRECTORY) (pa_cons (pe_glob rfl T.c_LINK T.r_LINK) pa_nil)))) (by with_unfolding_all rfl)) (pe_one (pe_not (pe_callB (cr_anyI rfl) (by rfl) T.n_any (by decide +kernel) (pa_cons (pe_slice sl_list (pv 0) (po_some pe_int) po_none) pa_nil))))))), ?_⟩
    try dsimp only [cxOf, Cx.nox, Cx.wish]
    obtain ⟨a, ns, rfl, hS, h16, q⟩ := h
    obtain ⟨o0, o1, o2, o3, o4, o5, o6, o7, o8, o9, o10, o11, o12, o13, o14, o15, rfl⟩ := sixteen h16
    clear h16
    walk_at "rd"
    rename_i t nt H1 s1 h1
    refine to_ite (fun hb => ?_) (fun hb => ?_)
    · walk_at "rd"
      rename_i p np H2 s2 h2
      refine r_anyI (ns := [o12, o13, o14, o15]) (.of h2) ?_
      walk_at "rd"
      have e : holdsI [o0, o1, o2, o3, o4, o5, o6, o7, o8, o9, o10, o11, o12, o13, o14, o15] = !([o12, o13, o14, o15] : List Int).any (· != 0) := by
        unfold holdsI
        rw [show decide (([o0, o1, o2, o3, o4, o5, o6, o7, o8, o9, o10, o11, o12, o13, o14, o15] : List Int).getD 0 0 ∈ ([1, 2, 3] : List Int)) = true from by rw [← in123]; exact hb]
        rfl
      rw [e] at q
      exact q _ (s1.trans s2)
    · have e : holdsI [o0, o1, o2, o3, o4, o5, o6, o7, o8, o9, o10, o11, o12, o13, o14, o15] = false := by
        unfold holdsI
        rw [show decide (([o0, o1, o2, o3, o4, o5, o6, o7, o8, o9, o10, o11, o12, o13, o14, o15] : List Int).getD 0 0 ∈ ([1, 2, 3] : List Int)) = false from by rw [← in123]; exact hb]
        rfl
      rw [e] at q
      exact q _ s1
def sp_decode (K : PySem.W.Frag) (C : Addr) : Sp := fun vs H Q _ => ∃ (a : Addr) (ns : List Int), vs = [.ref a] ∧ SqL K H a (ns.map V.int) ∧ ns.length = 16 ∧ (holdsI ns = false → ∀ H', Same H H' → Q .non H') ∧
  (holdsI ns = true → ∀ H' p, Same H H' → H p = none → InoAt C (decI ns) H' p → Q (.ref p) H')
theorem ok_decode_inode (T : Txt K mg) : FnOk P w K mg base CX0 3 T.a_decode_inode T.fd_decode_inode ["octets"] (sp_decode K T.A_Inode) := by
  refine T.F_decode_inode.ok sc_decode_inode (fun vs H Q E h => ?_) (fun cdv A outer s H vs Q E hr h => ?_)
  · obtain ⟨a, ns, rfl, _⟩ := h
    rfl
  · refine ⟨_, (pss_cons (ps_if (pt_not (pt_val (pe_call (ok_holds_inode T) (hr.mono (by decide)) rfl T.m_holds_inode T.F_holds_inode.kp T.b_holds_inode .nil pass0 (pa_cons (pv 0) pa_nil))))
       (pss_one (ps_ret pe_non))
       pss_nil)
       (pss_one (ps_ret (pe_makeN T.M_Inode (ok_Inode___init T) (hr.mono (by decide)) rfl T.m_Inode T.kb_Inode___init_2_links_size_height_root_parent pass0 (pa_cons (pe_ix ix_list (pv 0) pe_int (fun _ _ => rfl)) pa_nil) (pk_cons (pe_call (ok_number_of T) (hr.mono (by decide)) rfl T.m_number_of T.F_number_of.kp T.b_number_of .nil pass0 (pa_cons (pe_slice sl_list (pv 0) (po_some pe_int) (po_some pe_int)) pa_nil)) (pk_cons (pe_call (ok_number_of T) (hr.mono (by decide)) rfl T.m_number_of T.F_number_of.kp T.b_number_of .nil pass0 (pa_cons (pe_slice sl_list (pv 0) (po_some pe_int) (po_some pe_int)) pa_nil)) (pk_cons (pe_ix ix_list (pv 0) pe_int (fun _ _ => rfl)) (pk_cons (pe_call (ok_number_of T) (hr.mono (by decide)) rfl T.m_number_of T.F_number_of.kp T.b_number_of .nil pass0 (pa_cons (pe_slice sl_list (pv 0) (po_some pe_int) (po_some pe_int)) pa_nil)) (pk_cons (pe_call (ok_number_of T) (hr.mono (by decide)) rfl T.m_number_of T.F_number_of.kp T.b_number_of .nil pass0 (pa_cons (pe_slice sl_list (pv 0) (po_some pe_int) (po_some pe_int)) pa_nil)) pk_nil))))))))), ?_⟩
    try dsimp only [cxOf, Cx.nox, Cx.wish]
    obtain ⟨a, ns, rfl, hS, h16, q1, q2⟩ := h
    walk_at "rd"
    refine ⟨a, ns, rfl, hS, h16, fun H1 s1 => ?_⟩
    walk_at "rd"
    cases hh : holdsI ns with
    | false =>
      walk_at "rd"
      exact q1 hh _ s1
    | true =>
      walk_at "rd"
      have hS1 := s1.seq hS
      clear hS
      obtain ⟨o0, o1, o2, o3, o4, o5, o6, o7, o8, o9, o10, o11, o12, o13, o14, o15, rfl⟩ := sixteen h16
      clear h16
      refine r_makeN ?_
      walk_at "rd"
      rename_i p2 n2 H2 s2 h2
      refine ⟨_, [o1, o2], rfl, .of h2, ?_⟩
      have hS2 := s2.seq hS1
      walk_at "rd"
      rename_i p3 n3 H3 s3 h3
      refine ⟨_, [o3, o4, o5, o6], rfl, .of h3, ?_⟩
      have hS3 := s3.seq hS2
      walk_at "rd"
      rename_i p4 n4 H4 s4 h4
      refine ⟨_, [o8, o9], rfl, .of h4, ?_⟩
      have hS4 := s4.seq hS3
      walk_at "rd"
      rename_i p5 n5 H5 s5 h5
      refine ⟨_, [o10, o11], rfl, .of h5, ?_⟩
      walk_at "rd"
      refine ⟨rfl, rfl, fun x dx nx nd ne => ?_⟩
      refine ⟨x, dx, decI [o0, o1, o2, o3, o4, o5, o6, o7, o8, o9, o10, o11, o12, o13, o14, o15], rfl, upd_same, fun H6 fs k h6 hF => ⟨rfl, ?_⟩⟩
      have s6 := madei nx nd k
      have s5' : Same _ H5 := s1.trans (s2.trans (s3.trans (s4.trans s5)))
      exact q2 hh _ _ (s5'.trans s6) (Same.free s5' nx) ⟨_, _, h6, hF⟩

def sp_is_dir (C : Addr) : Sp := fun vs H Q _ => ∃ (p : Addr) (f : Ino), vs = [.ref p] ∧ InoAt C f H p ∧ Q (.bl (decide (f.kind = 2))) H
theorem ok_Inode_is_directory (T : Txt K mg) : FnOk P w K mg base CX0 1 T.a_Inode_is_directory T.fd_Inode_is_directory ["self"] (sp_is_dir T.A_Inode) := by
  refine T.F_Inode_is_directory.ok sc_Inode_is_directory (fun vs H Q E h => ?_) (fun cdv A outer s H vs Q E hr h => ?_)
  · obtain ⟨p, f, rfl, _⟩ := h
    rfl
  · refine ⟨_, (pss_one (ps_ret (pe_cmpR op_eq (pe_fld (pv 0) rfl) (pe_glob rfl T.c_DIRECTORY T.r_DIRECTORY) (nomark _)))), ?_⟩
    try dsimp only [cxOf, Cx.nox, Cx.wish]
    obtain ⟨p, f, rfl, ⟨dx, fs, hp, F1, F2, F3, F4, F5, F6⟩, q⟩ := h
    have cl := T.cl_Inode
    have na1 := T.na_Inode_kind
    walk_at "rd"
    exact q
def sp_isint : Sp := fun vs H Q _ => ∃ i : Int, vs = [.int i] ∧ Q (.bl true) H
theorem ok_law_is_integer (T : Txt K mg) : FnOk P w K mg base CX0 1 T.a_law_is_integer T.fd_law_is_integer ["actual"] sp_isint := by
  refine T.F_law_is_integer.ok sc_law_is_integer (fun vs H Q E h => ?_) (fun cdv A outer s H vs Q E hr h => ?_)
  · obtain ⟨i, rfl, _⟩ := h
    rfl
  · refine ⟨_, (pss_one (ps_ret (pe_and (pe_callB (call_isi) (by rfl) T.n_isinstance (by decide +kernel) (pa_cons (pv 0) (pa_cons (pe_bltn (v := .ty "int") (by rfl) T.n_int (by decide +kernel) rfl) pa_nil))) (pe_one (pe_not (pe_callB (call_isi) (by rfl) T.n_isinstance (by decide +kernel) (pa_cons (pv 0) (pa_cons (pe_bltn (v := .ty "bool") (by rfl) T.n_bool (by decide +kernel) rfl) pa_nil)))))))), ?_⟩
    try dsimp only [cxOf, Cx.nox, Cx.wish]
    obtain ⟨i, rfl, q⟩ := h
    walk_at "rd"
    exact q
def sp_is : Sp := fun vs H Q _ => ∃ b : Bool, vs = [.bl b, .bl b] ∧ Q (.bl true) H
theorem ok_law_is (T : Txt K mg) : FnOk P w K mg base CX0 1 T.a_law_is T.fd_law_is ["actual", "due"] sp_is := by
  refine T.F_law_is.ok sc_law_is (fun vs H Q E h => ?_) (fun cdv A outer s H vs Q E hr h => ?_)
  · obtain ⟨b, rfl, _⟩ := h
    rfl
  · refine ⟨_, (pss_one (ps_ret (pe_and (pe_callB (call_isi) (by rfl) T.n_isinstance (by decide +kernel) (pa_cons (pv 0) (pa_cons (pe_bltn (v := .ty "bool") (by rfl) T.n_bool (by decide +kernel) rfl) pa_nil))) (pe_one (pe_cmpR op_eq (pv 0) (pv 1) (nomark _)))))), ?_⟩
    try dsimp only [cxOf, Cx.nox, Cx.wish]
    obtain ⟨b, rfl, q⟩ := h
    walk_at "rd"
    refine r_eq rfl ?_
    walk_at "rd"
    rw [decide_eq_true rfl]
    exact q
def sp_fields (C : Addr) : Sp := fun vs H Q _ => ∃ (p : Addr) (f : Ino), vs = [.ref p] ∧ InoAt C f H p ∧ ∀ (H' : Hp) (l : Addr), Same H H' → H l = none → H' l = some (.lst (f.list.map V.int)) → Q (.ref l) H'
theorem ok_law_fields (T : Txt K mg) : FnOk P w K mg base CX0 1 T.a_law_fields T.fd_law_fields ["inode"] (sp_fields T.A_Inode) := by
  refine T.F_law_fields.ok sc_law_fields (fun vs H Q E h => ?_) (fun cdv A outer s H vs Q E hr h => ?_)
  · obtain ⟨p, f, rfl, _⟩ := h
    rfl
  · refine ⟨_, (pss_one (ps_ret (pe_lst (pa_cons (pe_fld (pv 0) rfl) (pa_cons (pe_fld (pv 0) rfl) (pa_cons (pe_fld (pv 0) rfl) (pa_cons (pe_fld (pv 0) rfl) (pa_cons (pe_fld (pv 0) rfl) (pa_cons (pe_fld (pv 0) rfl) pa_nil))))))))), ?_⟩
    try dsimp only [cxOf, Cx.nox, Cx.wish]
    obtain ⟨p, f, rfl, ⟨dx, fs, hp, F1, F2, F3, F4, F5, F6⟩, q⟩ := h
    have cl := T.cl_Inode
    have na1 := T.na_Inode_kind
    have na2 := T.na_Inode_links
    have na3 := T.na_Inode_size
    have na4 := T.na_Inode_height
    have na5 := T.na_Inode_root
    have na6 := T.na_Inode_parent
    walk_at "rd"
    rename_i l nl H1 s1 h1
    exact q _ _ s1 nl h1
theorem octN_snoc : ∀ (k : Nat) (n : Int), octN n (k + 1) = octN n k ++ [n / 2 ^ (8 * k) % 256]
  | 0, n => by
    rw [octN, octN, octN, Nat.mul_zero, Int.pow_zero, Int.ediv_one]
    rfl
  | k + 1, n => by
    rw [octN, octN_snoc k, octN, List.cons_append]
    have e : n / 256 / 2 ^ (8 * k) = n / 2 ^ (8 * (k + 1)) := by
      rw [Int.ediv_ediv_of_nonneg (by decide), Nat.mul_add, Int.pow_add, Int.mul_comm]
      rfl
    rw [e]
def wid : List Int := [0, 2, 4, 1, 2, 2]
def encA (fl : List Int) : Nat → List Int
  | 0 => [fl.getD 0 0]
  | i + 1 => encA fl i ++ octN (fl.getD (i + 1) 0) (wid.getD (i + 1) 0).toNat
theorem encA_len (fl : List Int) : ∀ i, i ≤ 5 → (encA fl i).length ≤ 1 + 4 * i
  | 0, _ => by simp [encA]
  | i + 1, h => by
    have ih := encA_len fl i (by omega)
    have hw : (wid.getD (i + 1) 0).toNat ≤ 4 := by
      rcases (by omega : i = 0 ∨ i = 1 ∨ i = 2 ∨ i = 3 ∨ i = 4) with rfl | rfl | rfl | rfl | rfl <;> decide
    rw [encA, List.length_append, octN_len]
    omega
def sp_locts (K : PySem.W.Frag) : Sp := fun vs H Q _ => ∃ (a : Addr) (f : Ino), vs = [.ref a] ∧ SqL K H a (f.list.map V.int) ∧ 0 ≤ f.height ∧ f.height < 256 ∧ ∀ (H' : Hp) (l : Addr), Same H H' → H l = none → H' l = some (.lst ((encI f).map V.int)) → Q (.ref l) H'
theorem ok_law_octets (T : Txt K mg) : FnOk P w K mg base CX0 1 T.a_law_octets T.fd_law_octets ["fields"] (sp_locts K) := by
  refine T.F_law_octets.ok sc_law_octets (fun vs H Q E h => ?_) (fun cdv A outer s H vs Q E hr h => ?_)
  · obtain ⟨a, f, rfl, _⟩ := h
    rfl
  · refine ⟨_, (pss_cons (ps_set (i := 1) sc_law_octets.nd rfl (Or.inl rfl) (pe_lst (pa_cons (pe_ix ix_list (pv 0) pe_int (fun _ _ => rfl)) pa_nil)))
       (pss_cons (ps_set (i := 2) sc_law_octets.nd rfl (Or.inl rfl) (pe_lst (pa_cons pe_int (pa_cons pe_int (pa_cons pe_int (pa_cons pe_int (pa_cons pe_int (pa_cons pe_int pa_nil))))))))
       (pss_cons (ps_for PassesOwn.never rfl (pi_range2 rfl T.n_range (pa_cons pe_int (pa_cons pe_int pa_nil))) (pg_name (i := 3) sc_law_octets.nd rfl (Or.inl rfl))
       (pss_cons (ps_set (i := 4) sc_law_octets.nd rfl (Or.inl rfl) (pe_ix ix_list (pv 0) (pv 3) (fun _ _ => rfl)))
       (pss_one (ps_for PassesOwn.never rfl (pi_range1 rfl T.n_range (pa_cons (pe_ix ix_list (pv 2) (pv 3) (fun _ _ => rfl)) pa_nil)) (pg_name (i := 5) sc_law_octets.nd rfl (Or.inl rfl))
       (pss_cons (ps_expr (pe_bm PySem.F.plainAttrs_list PySem.F.slot_list_append PySem.F.type_list_append mt_append (pv 1) (pa_cons (pe_op op_mod (pv 4) pe_int) pa_nil)))
       (pss_one (ps_set (i := 4) sc_law_octets.nd rfl (Or.inl rfl) (pe_op op_fdiv (pv 4) pe_int))))))))
       (pss_one (ps_ret (pe_op op_cat (pv 1) (pe_lst (pa_cons pe_int (pa_cons pe_int (pa_cons pe_int (pa_cons pe_int pa_nil))))))))))), ?_⟩
    try dsimp only [cxOf, Cx.nox, Cx.wish]
    obtain ⟨a, f, rfl, hS, g0, g1, q⟩ := h
    walk_at "rd"
    rename_i l nl H1 s1 h1 wl nwl H2 s2 h2
    have hw : H2 wl = some (.lst (wid.map V.int)) := h2
    have hne : wl ≠ l := fun e => ne_of_none h1 nwl e.symm
    have s12 := s1.trans s2
    refine r_forR (fun i σ' H' => ∃ v3 v4 v5 : Option V, σ' = [some (.ref a), some (.ref l), some (.ref wl), v3, v4, v5] ∧ Same H H' ∧ H' wl = some (.lst (wid.map V.int)) ∧ H' l = some (.lst ((encA f.list i).map V.int))) ⟨_, _, _, rfl, s12, hw, s2 _ _ h1⟩ ?_ ?_
    · rintro i σ' H' hi ⟨v3, v4, v5, rfl, s, hw', hl⟩
      have hi5 : i < 5 := by simpa using hi
      walk_at "rd"
      refine r_ixl (s.seq hS) (at_ints (by omega) (by show (1 : Int) + (i : Int) < 6; omega)) ?_
      walk_at "rd"
      refine r_ixl (.of hw') (at_ints (by omega) (by show (1 : Int) + (i : Int) < 6; omega)) ?_
      rw [show ((1 : Int) + (i : Int)).toNat = i + 1 from by omega]
      have hw2 : 0 ≤ wid.getD (i + 1) 0 ∧ wid.getD (i + 1) 0 ≤ 4 := by
        rcases (by omega : i = 0 ∨ i = 1 ∨ i = 2 ∨ i = 3 ∨ i = 4) with rfl | rfl | rfl | rfl | rfl <;> decide
      have hal := encA_len f.list i (by omega)
      generalize hwd : wid.getD (i + 1) 0 = wd at hw2
      generalize hr : f.list.getD (i + 1) 0 = r
      walk_at "rd"
      refine r_forR (fun j σ' H'' => ∃ v5 : Option V, σ' = [some (.ref a), some (.ref l), some (.ref wl), some (.int (1 + (i : Int))), some (.int (r / 2 ^ (8 * j))), v5] ∧ Same H H'' ∧ H'' wl = some (.lst (wid.map V.int)) ∧ H'' l = some (.lst ((encA f.list i ++ octN r j).map V.int))) ⟨_, by rw [Nat.mul_zero, Int.pow_zero, Int.ediv_one]; rfl, s, hw', by rw [octN, List.append_nil]; exact hl⟩ ?_ ?_
      · rintro j σ' H'' hj ⟨v5, rfl, s', hw', hl⟩
        have hlen : (encA f.list i ++ octN r j).length ≤ 40 := by
          rw [List.length_append, octN_len]
          omega
        generalize hz : r / 2 ^ (8 * j) = z
        walk_at "rd"
        rename_i y hy y0 y1
        refine r_app hl (by rw [List.length_map, sz]; omega) ?_
        generalize hH : upd _ _ _ = H3
        have s3 : Same H H3 := Sg.Same.old s' nl hH
        have hl3 : H3 l = some (.lst ((encA f.list i ++ octN r (j + 1)).map V.int)) := by
          rw [← hH, upd_same, octN_snoc, hz, ← List.append_assoc, List.map_append (l₂ := [z % 256]), ← hy]
          rfl
        have hw3 : H3 wl = some (.lst (wid.map V.int)) := by rw [← hH, upd_ne hne]; exact hw'
        walk_at "rd"
        have ez : z / 256 = r / 2 ^ (8 * (j + 1)) := by
          rw [← hz, Int.ediv_ediv_of_nonneg (Int.pow_nonneg (by decide)), show (2 : Int) ^ (8 * j) * 256 = 2 ^ (8 * (j + 1)) from by rw [Nat.mul_add, Int.pow_add]; rfl]
        rw [ez]
        exact ⟨_, rfl, s3, hw3, hl3⟩
      · rintro σ' H'' ⟨v5, rfl, s', hw', hl⟩
        refine ⟨_, _, _, rfl, s', hw', ?_⟩
        rw [hl, encA, hwd, hr]
    · rintro σ' H' ⟨v3, v4, v5, rfl, s, hw', hl⟩
      walk_at "rd"
      rename_i l3 n3 H3 s3 h3
      refine r_cat (s3 _ _ hl) h3 (by rw [List.length_map, sz]; have := encA_len f.list 5 (by omega); show (encA f.list 5).length + 4 ≤ _; omega) ?_
      walk_at "al"
      rename_i l4 n4 H4 s4 h4
      walk_at "rd"
      refine q _ _ (s.trans (s3.trans s4)) (Same.free (s.trans s3) n4) ?_
      rw [h4]
      have e : encI f = encA f.list 5 ++ [0, 0, 0, 0] := by
        show [f.kind] ++ octN f.links 2 ++ octN f.size 4 ++ [f.height] ++ octN f.root 2 ++ octN f.parent 2 ++ [0, 0, 0, 0] = [f.kind] ++ octN f.links 2 ++ octN f.size 4 ++ [f.height % 256] ++ octN f.root 2 ++ octN f.parent 2 ++ [0, 0, 0, 0]
        rw [Int.emod_eq_of_lt g0 g1]
      rw [e, List.map_append]
      rfl
structure InoOk (f : Ino) : Prop where
  k0 : 1 ≤ f.kind
  k1 : f.kind ≤ 3
  l0 : 0 ≤ f.links
  l1 : f.links < 65536
  s0 : 0 ≤ f.size
  s1 : f.size < 4294967296
  h0 : 0 ≤ f.height
  h1 : f.height < 256
  r0 : 0 ≤ f.root
  r1 : f.root < 65536
  p0 : 0 ≤ f.parent
  p1 : f.parent < 65536
theorem snoc_paired {α β : Type} {F : α → β → Prop} : ∀ {xs : List α} {ys : List β} {x : α} {y : β}, Paired F xs ys → F x y → Paired F (xs ++ [x]) (ys ++ [y])
  | _, _, _, _, .nil, h => .cons h .nil
  | _, _, _, _, .cons r t, h => .cons r (snoc_paired t h)
def bnd : List Int := [65536, 4294967296, 256, 65536, 65536]
def sp_drawn (K : PySem.W.Frag) : Sp := fun vs H Q _ => ∃ (a : Addr) (ns : List Int), vs = [.ref a] ∧ SqL K H a (ns.map V.int) ∧ ns.length ≤ 63 ∧ ∀ (H' : Hp) (l : Addr) (f : Ino), Same H H' → H l = none → H' l = some (.lst (f.list.map V.int)) → InoOk f → Q (.ref l) H'
theorem ok_law_drawn (T : Txt K mg) : FnOk P w K mg base CX0 2 T.a_law_drawn T.fd_law_drawn ["script"] (sp_drawn K) := by
  refine T.F_law_drawn.ok sc_law_drawn (fun vs H Q E h => ?_) (fun cdv A outer s H vs Q E hr h => ?_)
  · obtain ⟨a, ns, rfl, _⟩ := h
    rfl
  · refine ⟨_, (pss_cons (ps_set (i := 1) sc_law_drawn.nd rfl (Or.inl rfl) (pe_call (ok_law_row T) (hr.mono (by decide)) rfl T.m_law_row T.F_law_row.kp T.b_law_row .nil pass0 (pa_cons (pv 0) (pa_cons pe_int pa_nil))))
       (pss_cons (ps_set (i := 2) sc_law_drawn.nd rfl (Or.inl rfl) (pe_lst (pa_cons (pe_op op_add pe_int (pe_op op_mod (pe_callTy c_int (by rfl) T.n_int (by decide +kernel) (pa_cons (pv 1) pa_nil)) pe_int)) pa_nil)))
       (pss_cons (ps_set (i := 3) sc_law_drawn.nd rfl (Or.inl rfl) (pe_lst (pa_cons pe_int (pa_cons pe_int (pa_cons pe_int (pa_cons pe_int (pa_cons pe_int pa_nil)))))))
       (pss_cons (ps_for PassesOwn.never rfl (pi_range1 rfl T.n_range (pa_cons pe_int pa_nil)) (pg_name (i := 4) sc_law_drawn.nd rfl (Or.inl rfl))
       (pss_cons (ps_set (i := 5) sc_law_drawn.nd rfl (Or.inl rfl) (pe_ix ix_list (pv 3) (pv 4) (fun _ _ => rfl)))
       (pss_cons (ps_set (i := 1) sc_law_drawn.nd rfl (Or.inl rfl) (pe_call (ok_law_row T) (hr.mono (by decide)) rfl T.m_law_row T.F_law_row.kp T.b_law_row .nil pass0 (pa_cons (pv 0) (pa_cons (pe_op op_add pe_int (pv 4)) pa_nil))))
       (C8.pss_cut (ps_if (pt_cmpR op_eq (pe_op op_mod (pe_callTy c_int (by rfl) T.n_int (by decide +kernel) (pa_cons (pv 1) pa_nil)) pe_int) pe_int (nomark _))
       (pss_one (ps_set (i := 5) sc_law_drawn.nd rfl (Or.inl rfl) (pe_callB (call_min2 rfl) (by rfl) T.n_min (by decide +kernel) (pa_cons (pv 5) (pa_cons pe_int pa_nil)))))
       pss_nil)
       (pss_cons (ps_set (i := 6) sc_law_drawn.nd rfl (Or.inl rfl) (pe_op op_mod (pe_op op_fdiv (pe_callTy c_int (by rfl) T.n_int (by decide +kernel) (pa_cons (pv 1) pa_nil)) pe_int) (pv 5)))
       (C8.pss_cut (ps_if (pt_cmpR op_eq (pe_op op_mod (pe_op op_fdiv (pe_callTy c_int (by rfl) T.n_int (by decide +kernel) (pa_cons (pv 1) pa_nil)) pe_int) pe_int) pe_int (nomark _))
       (pss_one (ps_set (i := 6) sc_law_drawn.nd rfl (Or.inl rfl) (pe_op op_sub (pv 5) pe_int)))
       pss_nil)
       (pss_one (ps_expr (pe_bm PySem.F.plainAttrs_list PySem.F.slot_list_append PySem.F.type_list_append mt_append (pv 2) (pa_cons (pv 6) pa_nil))))))))))
       (pss_one (ps_ret (pv 2))))))), ?_⟩
    try dsimp only [cxOf, Cx.nox, Cx.wish]
    obtain ⟨a, ns, rfl, hS, h63, q⟩ := h
    walk_at "rd"
    refine ⟨a, ns, _, rfl, hS, h63, by decide, by decide, fun n0 hn0 => ?_⟩
    walk_at "rd"
    rename_i m hm m0 m1 l nl H1 s1 h1 bl nbl H2 s2 h2
    have hb : H2 bl = some (.lst (bnd.map V.int)) := h2
    have hne : bl ≠ l := fun e => ne_of_none h1 nbl e.symm
    refine r_forR (fun i σ' H' => ∃ (n : Int) (ds : List Int) (v4 v5 v6 : Option V), σ' = [some (.ref a), some (.int n), some (.ref l), some (.ref bl), v4, v5, v6] ∧ Same H H' ∧ H' bl = some (.lst (bnd.map V.int)) ∧ H' l = some (.lst (((1 + m) :: ds).map V.int)) ∧ Paired (fun (d s : Int) => 0 ≤ d ∧ d < s) ds (bnd.take i)) ⟨_, [], _, _, _, rfl, s1.trans s2, hb, s2 _ _ h1, .nil⟩ ?_ ?_
    · rintro i σ' H' hi ⟨n, ds, v4, v5, v6, rfl, s, hb', hl, hd⟩
      have hi5 : i < 5 := by simpa using hi
      have hdl : ds.length ≤ 5 := by
        rw [Paired.length hd, List.length_take]
        show min i 5 ≤ 5
        omega
      have hb0 : 300 ≤ bnd.getD i 0 ∨ bnd.getD i 0 = 256 := by
        rcases (by omega : i = 0 ∨ i = 1 ∨ i = 2 ∨ i = 3 ∨ i = 4) with rfl | rfl | rfl | rfl | rfl <;> decide
      have hbt : bnd.take (i + 1) = bnd.take i ++ [bnd.getD i 0] := by
        rcases (by omega : i = 0 ∨ i = 1 ∨ i = 2 ∨ i = 3 ∨ i = 4) with rfl | rfl | rfl | rfl | rfl <;> rfl
      walk_at "rd"
      refine r_ixl (.of hb') (at_ints (by omega) (by show (0 : Int) + (i : Int) < 5; omega)) ?_
      rw [show ((0 : Int) + (i : Int)).toNat = i from by omega]
      generalize bnd.getD i 0 = b at hb0 hbt
      walk_at "rd"
      refine ⟨a, ns, _, rfl, s.seq hS, h63, by omega, by omega, fun n1 hn1 => ?_⟩
      walk_at "rd"
      refine r_cut (fun σ' H'' => ∃ b' : Int, 0 < b' ∧ b' ≤ b ∧ σ' = [some (.ref a), some (.int n1), some (.ref l), some (.ref bl), some (.int (0 + (i : Int))), some (.int b'), v6] ∧ H' = H'') ?_ ?_
      · walk_at "rd"
        refine r_ite (fun _ => ?_) (fun _ => ?_)
        · walk_at "rd"
          refine ⟨_, _, rfl, ?_⟩
          walk_at "rd"
          refine ⟨_, ?_, ?_, rfl, rfl⟩
          · split <;> omega
          · split <;> omega
        · walk_at "rd"
          exact ⟨b, by omega, by omega, rfl, rfl⟩
      rintro _ _ ⟨b', b0, b1, rfl, rfl⟩
      walk_at "rd"
      rename_i y hy y0 y1
      refine r_cut (fun σ' H'' => ∃ d : Int, 0 ≤ d ∧ d < b ∧ σ' = [some (.ref a), some (.int n1), some (.ref l), some (.ref bl), some (.int (0 + (i : Int))), some (.int b'), some (.int d)] ∧ H' = H'') ?_ ?_
      · walk_at "rd"
        refine r_ite (fun _ => ?_) (fun _ => ?_)
        · walk_at "rd"
          exact ⟨_, by omega, by omega, rfl, rfl⟩
        · walk_at "rd"
          exact ⟨y, by omega, by omega, rfl, rfl⟩
      rintro _ _ ⟨d, d0, d1, rfl, rfl⟩
      walk_at "rd"
      rename_i H3 e3 h3
      refine ⟨_, ds ++ [d], _, _, _, rfl, Sg.Same.old s nl e3, by rw [← e3, upd_ne hne]; exact hb', ?_, by rw [hbt]; exact snoc_paired hd ⟨d0, d1⟩⟩
      rw [h3, ← List.cons_append, List.map_append (l₂ := [d])]
      rfl
    · rintro σ' H' ⟨n, ds, v4, v5, v6, rfl, s, hb', hl, hd⟩
      have hd' : Paired (fun (d s : Int) => 0 ≤ d ∧ d < s) ds [65536, 4294967296, 256, 65536, 65536] := hd
      obtain _ | ⟨⟨l0, l1⟩, _ | ⟨⟨s0, s1⟩, _ | ⟨⟨g0, g1⟩, _ | ⟨⟨r0, r1⟩, _ | ⟨⟨p0, p1⟩, _ | _⟩⟩⟩⟩⟩ := hd'
      walk_at "rd"
      exact q _ _ ⟨_, _, _, _, _, _⟩ s nl hl ⟨by show 1 ≤ 1 + m; omega, by show 1 + m ≤ 3; omega, l0, l1, s0, s1, g0, g1, r0, r1, p0, p1⟩
/-! ### slices of lists of ints -/
theorem sIx_nn {n d : Nat} {v : Int} (h : 0 ≤ v) : HT.sIx n d (some v) = min v.toNat n := by
  show (if v < 0 then (v + (n : Int)).toNat else min v.toNat n) = _
  rw [if_neg (by omega)]
theorem cut_from {xs : List V} {lo : Int} (h : 0 ≤ lo) : cutV xs (some lo) none = xs.drop lo.toNat := by
  unfold cutV
  rw [sIx_nn h, HT.sIx_none]
  by_cases c : lo.toNat ≤ xs.length
  · rw [Nat.min_eq_left c]
    exact List.take_of_length_le (by rw [List.length_drop]; omega)
  · rw [Nat.min_eq_right (by omega), List.drop_length, List.drop_of_length_le (by omega), List.take_nil]
theorem cut_to {xs : List V} {hi : Int} (h : 0 ≤ hi) : cutV xs none (some hi) = xs.take hi.toNat := by
  unfold cutV
  rw [sIx_nn h, HT.sIx_none, List.drop_zero, Nat.sub_zero]
  by_cases c : hi.toNat ≤ xs.length
  · rw [Nat.min_eq_left c]
  · rw [Nat.min_eq_right (by omega), List.take_length, List.take_of_length_le (by omega)]
theorem cut_both {xs : List V} {lo hi : Int} (h : 0 ≤ lo) (h' : 0 ≤ hi) : cutV xs (some lo) (some hi) = (xs.drop lo.toNat).take (hi.toNat - lo.toNat) := by
  unfold cutV
  rw [sIx_nn h, sIx_nn h']
  by_cases c : lo.toNat ≤ xs.length
  · rw [Nat.min_eq_left c]
    by_cases c2 : hi.toNat ≤ xs.length
    · rw [Nat.min_eq_left c2]
    · rw [Nat.min_eq_right (by omega), List.take_of_length_le (by rw [List.length_drop]; omega), List.take_of_length_le (by rw [List.length_drop]; omega)]
  · rw [Nat.min_eq_right (by omega : xs.length ≤ lo.toNat), List.drop_length, List.drop_of_length_le (by omega), List.take_nil, List.take_nil]

theorem at_zero {ns : List Int} (h : ns.length = 16) : atI (ns.map V.int) 0 = some (.int (ns.getD 0 0)) := at_ints (k := 0) (by decide) (by omega)
theorem enc_dec {ns : List Int} (h16 : ns.length = 16) (hb : ∀ x ∈ ns, 0 ≤ x ∧ x < 256) (hh : holdsI ns = true) : encI (decI ns) = ns := by
  obtain ⟨o0, o1, o2, o3, o4, o5, o6, o7, o8, o9, o10, o11, o12, o13, o14, o15, rfl⟩ := sixteen h16
  have b : ∀ (i k : Nat) (x : Int), x ∈ (([o0, o1, o2, o3, o4, o5, o6, o7, o8, o9, o10, o11, o12, o13, o14, o15] : List Int).drop i).take k → 0 ≤ x ∧ x < 256 := fun i k x hx => hb x (List.mem_of_mem_drop (List.mem_of_mem_take hx))
  have e1 : octN (val [o1, o2]) 2 = [o1, o2] := octN_val [o1, o2] (b 1 2)
  have e2 : octN (val [o3, o4, o5, o6]) 4 = [o3, o4, o5, o6] := octN_val [o3, o4, o5, o6] (b 3 4)
  have e3 : octN (val [o8, o9]) 2 = [o8, o9] := octN_val [o8, o9] (b 8 2)
  have e4 : octN (val [o10, o11]) 2 = [o10, o11] := octN_val [o10, o11] (b 10 2)
  have hz : (o12 = 0 ∧ o13 = 0) ∧ o14 = 0 ∧ o15 = 0 := by
    unfold holdsI at hh
    have h2 := (Bool.and_eq_true _ _ ▸ hh).2
    have h3 : (!([o12, o13, o14, o15] : List Int).any (· != 0)) = true := h2
    simp at h3
    omega
  obtain ⟨⟨z12, z13⟩, z14, z15⟩ := hz
  show [o0] ++ octN (val [o1, o2]) 2 ++ octN (val [o3, o4, o5, o6]) 4 ++ [o7] ++ octN (val [o8, o9]) 2 ++ octN (val [o10, o11]) 2 ++ [0, 0, 0, 0] = _
  rw [e1, e2, e3, e4, z12, z13, z14, z15]
  rfl
theorem holds_false1 {ns : List Int} (h : inV (V.int (ns.getD 0 0)) [V.int 1, V.int 2, V.int 3] = false) : holdsI ns = false := by
  rw [in123] at h
  unfold holdsI
  rw [h]
  rfl
theorem holds_iff {ns : List Int} (h16 : ns.length = 16) (h : inV (V.int (ns.getD 0 0)) [V.int 1, V.int 2, V.int 3] = true) : holdsI ns = decide (ns.drop 12 = [0, 0, 0, 0]) := by
  rw [in123] at h
  unfold holdsI
  rw [h]
  obtain ⟨o0, o1, o2, o3, o4, o5, o6, o7, o8, o9, o10, o11, o12, o13, o14, o15, rfl⟩ := sixteen h16
  show (true && !([o12, o13, o14, o15] : List Int).any (· != 0)) = decide ([o12, o13, o14, o15] = [0, 0, 0, 0])
  rw [Bool.eq_iff_iff]
  simp
def sp_reads (K : PySem.W.Frag) : Sp := fun vs H Q _ => ∃ (a : Addr) (ns : List Int), vs = [.ref a] ∧ SqL K H a (ns.map V.int) ∧ ns.length = 16 ∧ (∀ x ∈ ns, 0 ≤ x ∧ x < 256) ∧ ∀ H', Same H H' → Q (.bl true) H'
theorem ok_law_reads (T : Txt K mg) : FnOk P w K mg base CX0 4 T.a_law_reads T.fd_law_reads ["octets"] (sp_reads K) := by
  refine T.F_law_reads.ok sc_law_reads (fun vs H Q E h => ?_) (fun cdv A outer s H vs Q E hr h => ?_)
  · obtain ⟨a, ns, rfl, _⟩ := h
    rfl
  · refine ⟨_, (pss_cons (ps_set (i := 1) sc_law_reads.nd rfl (Or.inl rfl) (pe_callTy c_list (by rfl) T.n_list (by decide +kernel) (pa_cons (pv 0) pa_nil)))
       (pss_cons (ps_set (i := 2) sc_law_reads.nd rfl (Or.inl rfl) (pe_call (ok_decode_inode T) (hr.mono (by decide)) rfl T.m_decode_inode T.F_decode_inode.kp T.b_decode_inode .nil pass0 (pa_cons (pv 1) pa_nil)))
       (pss_cons (ps_if (pt_cmpR (op_neD hr.units) (pv 1) (pv 0) (nomark _))
       (pss_one (ps_ret pe_bl))
       pss_nil)
       (pss_cons (ps_set (i := 3) sc_law_reads.nd rfl (Or.inl rfl) (pe_and (pe_cmpR op_in_seq (pe_ix ix_list (pv 0) pe_int (fun _ _ => rfl)) (pe_lst (pa_cons pe_int (pa_cons pe_int (pa_cons pe_int pa_nil)))) (by with_unfolding_all rfl)) (pe_one (pe_cmpR (op_eqD hr.units) (pe_slice sl_list (pv 0) (po_some pe_int) po_none) (pe_lst (pa_cons pe_int (pa_cons pe_int (pa_cons pe_int (pa_cons pe_int pa_nil))))) (nomark _)))))
       (pss_cons (ps_if (pt_not (pt_val (pv 3)))
       (pss_one (ps_ret (pe_cmp (pc_isN (pv 2)) rfl)))
       pss_nil)
       (C8.pss_cut (ps_if (PW.pt (pw_or (pt_cmp (pc_isN (pv 2)) rfl) (pw_or1 (pt_cmpR (op_neD hr.units) (pe_call (ok_encode_inode T) (hr.mono (by decide)) rfl T.m_encode_inode T.F_encode_inode.kp T.b_encode_inode .nil pass0 (pa_cons (pv 2) pa_nil)) (pv 0) (nomark _)))))
       (pss_one (ps_ret pe_bl))
       pss_nil)
       (pss_cons (ps_for PassesOwn.never rfl (pi_list (pe_call (ok_law_fields T) (hr.mono (by decide)) rfl T.m_law_fields T.F_law_fields.kp T.b_law_fields .nil pass0 (pa_cons (pv 2) pa_nil))) (pg_name (i := 4) sc_law_reads.nd rfl (Or.inl rfl))
       (pss_one (ps_if (pt_not (pt_val (pe_call (ok_law_is_integer T) (hr.mono (by decide)) rfl T.m_law_is_integer T.F_law_is_integer.kp T.b_law_is_integer .nil pass0 (pa_cons (pv 4) pa_nil))))
       (pss_one (ps_ret pe_bl))
       pss_nil)))
       (pss_one (ps_ret (pe_call (ok_law_is T) (hr.mono (by decide)) rfl T.m_law_is T.F_law_is.kp T.b_law_is .nil pass0 (pa_cons (pe_prop (pv 2) T.cl_Inode T.pr_Inode_is_directory (ok_Inode_is_directory T) (hr.mono (by decide)) T.b_Inode_is_directory .nil pass0 rfl) (pa_cons (pe_cmpR op_eq (pe_ix ix_list (pv 0) pe_int (fun _ _ => rfl)) pe_int (nomark _)) pa_nil)))))))))))), ?_⟩
    try dsimp only [cxOf, Cx.nox, Cx.wish]
    obtain ⟨a, ns, rfl, hS, h16, hby, q⟩ := h
    walk_at "rd"
    rename_i l1 nl1 H1 s1 h1
    have hS1 := s1.seq hS
    -- the test of the octets, whatever the inode
    refine ⟨l1, ns, rfl, .of h1, h16, fun hh H2 s2 => ?_, fun hh H2 p2 s2 n2 hp2 => ?_⟩
    · walk_at "rd"
      refine r_neI (ns := ns) (.of (s2 _ _ h1)) (s2.seq hS1) ?_
      walk_at "rd"
      refine r_ixl (s2.seq hS1) (at_zero h16) ?_
      walk_at "rd"
      rename_i t3 nt3 H3 s3 h3
      refine to_ite (fun hb => ?_) (fun hb => ?_)
      · walk_at "rd"
        rename_i p4 n4 H4 s4 h4 p5 n5 H5 s5 h5
        have h4' : SqL K H5 p4 ((ns.drop 12).map V.int) := by
          have e := cut_from (xs := ns.map V.int) (lo := 12) (by decide)
          rw [e, ← List.map_drop] at h4
          exact .of (s5 _ _ h4)
        refine r_eqd (Dp.ints h4') (Dp.ints (ns := [0, 0, 0, 0]) (.of h5)) (Fl.intlS _) (Fl.intlS _) ?_
        rw [eqv_ints, ← holds_iff h16 hb, hh]
        walk_at "rd"
        exact q _ (s1.trans (s2.trans (s3.trans (s4.trans s5))))
      · walk_at "rd"
        exact q _ (s1.trans (s2.trans s3))
    · walk_at "rd"
      refine r_neI (ns := ns) (.of (s2 _ _ h1)) (s2.seq hS1) ?_
      walk_at "rd"
      refine r_ixl (s2.seq hS1) (at_zero h16) ?_
      walk_at "rd"
      rename_i t3 nt3 H3 s3 h3
      have hb : inV (V.int (ns.getD 0 0)) [V.int 1, V.int 2, V.int 3] = true := by
        cases e : inV (V.int (ns.getD 0 0)) [V.int 1, V.int 2, V.int 3] with
        | true => rfl
        | false => rw [holds_false1 e] at hh; cases hh
      refine r_iteb hb ?_
      walk_at "rd"
      rename_i p4 n4 H4 s4 h4 p5 n5 H5 s5 h5
      have h4' : SqL K H5 p4 ((ns.drop 12).map V.int) := by
        have e := cut_from (xs := ns.map V.int) (lo := 12) (by decide)
        rw [e, ← List.map_drop] at h4
        exact .of (s5 _ _ h4)
      refine r_eqd (Dp.ints h4') (Dp.ints (ns := [0, 0, 0, 0]) (.of h5)) (Fl.intlS _) (Fl.intlS _) ?_
      rw [eqv_ints, ← holds_iff h16 hb, hh]
      have hS5 : SqL K H5 a (ns.map V.int) := (s3.trans (s4.trans s5)).seq (s2.seq hS1)
      have hp5 := hp2.mono (s3.trans (s4.trans s5))
      have s05 : Same H H5 := s1.trans (s2.trans (s3.trans (s4.trans s5)))
      clear h1 h3 h4 h4' h5 hS1
      walk_at "rd"
      refine r_cutH ?_ (fun H6 s6 => ?_)
      · walk_at "rd"
        refine ⟨_, _, rfl, hp5, fun H6 l6 s6 n6 h6 => ?_⟩
        rw [enc_dec h16 hby hh] at h6
        walk_at "rd"
        refine r_neI (ns := ns) (.of h6) (s6.seq hS5) ?_
        walk_at "rd"
        exact ⟨rfl, s6⟩
      have hp6 := hp5.mono s6
      walk_at "rd"
      refine ⟨_, _, rfl, hp6, fun H7 l7 s7 n7 h7 => ?_⟩
      have hp7 := hp6.mono s7
      have hS7 := s7.seq (s6.seq hS5)
      have s07 := s05.trans (s6.trans s7)
      clear hp5 hp6 hS5
      walk_at "rd"
      refine r_forL (xs := (decI ns).list.map V.int) (fun j σ' H' => ∃ v4 : Option V, σ' = [some (.ref a), some (.ref l1), some (.ref p2), some (.bl true), v4] ∧ H7 = H') ⟨_, rfl, rfl⟩ (fun _ _ _ _ ⟨_, _, e⟩ => e ▸ .of h7) ?_ ?_
      · rintro j x σ' H' hj ⟨v4, rfl, rfl⟩
        rw [List.getElem?_map] at hj
        obtain ⟨u, hu, rfl⟩ := Option.map_eq_some_iff.mp hj
        walk_at "rd"
        refine ⟨u, rfl, ?_⟩
        walk_at "rd"
        exact ⟨_, rfl, rfl⟩
      · rintro σ' H' ⟨v4, rfl, rfl⟩
        walk_at "rd"
        refine r_prop ?_
        walk_at "rd"
        obtain ⟨dx, fs, hp, hF⟩ := hp7
        refine r_kprop hp ⟨_, _, rfl, ⟨_, _, hp, hF⟩, ?_⟩
        walk_at "rd"
        refine r_ixl hS7 (at_zero h16) ?_
        walk_at "rd"
        refine ⟨_, rfl, ?_⟩
        exact q _ s07
theorem getD_mem {l : List Int} {i : Nat} (h : i < l.length) : l.getD i 0 ∈ l := by
  rw [List.getD_eq_getElem?_getD, List.getElem?_eq_getElem h]
  exact List.getElem_mem h
theorem byte_mul {z : Int} (b : Bool) (h0 : 0 ≤ z) (h1 : z < 256) : 0 ≤ z * (if b = true then 1 else 0) ∧ z * (if b = true then 1 else 0) < 256 := by
  cases b <;> simp <;> omega
theorem val2 (n : Int) (h0 : 0 ≤ n) (h1 : n < 65536) : val (octN n 2) = n := by rw [val_octN]; omega
theorem val4 (n : Int) (h0 : 0 ≤ n) (h1 : n < 4294967296) : val (octN n 4) = n := by rw [val_octN]; omega
theorem dec_enc {f : Ino} (h : InoOk f) : decI (encI f) = f := by
  obtain ⟨k, l, s, g, r, p⟩ := f
  obtain ⟨k0, k1, l0, l1, s0, s1, h0, h1, r0, r1, p0, p1⟩ := h
  show (⟨k, val (octN l 2), val (octN s 4), g, val (octN r 2), val (octN p 2)⟩ : Ino) = _
  dsimp only at *
  rw [val2 l l0 l1, val4 s s0 s1, val2 r r0 r1, val2 p p0 p1]
theorem enc_holds {f : Ino} (h : InoOk f) : holdsI (encI f) = true := by
  have : f.kind ∈ ([1, 2, 3] : List Int) := by
    have := h.k0
    have := h.k1
    simp
    omega
  show (decide (f.kind ∈ ([1, 2, 3] : List Int)) && !([0, 0, 0, 0] : List Int).any (· != 0)) = true
  rw [decide_eq_true this]
  rfl
theorem enc_bytes {f : Ino} (h : InoOk f) : ∀ x ∈ encI f, 0 ≤ x ∧ x < 256 := by
  intro x hx
  unfold encI at hx
  simp only [List.mem_append] at hx
  have := h.k0
  have := h.k1
  have := h.h0
  have := h.h1
  rcases hx with (((((hx | hx) | hx) | hx) | hx) | hx) | hx
  · simp at hx; omega
  · exact octN_byte _ _ _ hx
  · exact octN_byte _ _ _ hx
  · simp at hx; omega
  · exact octN_byte _ _ _ hx
  · exact octN_byte _ _ _ hx
  · simp at hx; omega
def spLaw (K : PySem.W.Frag) : Sp := fun vs H Q _ => ∃ (a : Addr) (ns : List Int), vs = [.ref a] ∧ SqL K H a (ns.map V.int) ∧ ns.length ≤ 63 ∧ ∀ H', Q (.bl true) H'
theorem ok_law (T : Txt K mg) : FnOk P w K mg base CX0 5 T.a_law T.fd_law ["script"] (spLaw K) := by
  refine T.F_law.ok sc_law (fun vs H Q E h => ?_) (fun cdv A outer s H vs Q E hr h => ?_)
  · obtain ⟨a, ns, rfl, _⟩ := h
    rfl
  · refine ⟨_, (pss_cons (ps_if (pt_cmpR (op_neD hr.units) (pe_lst (pa_cons (pe_glob rfl T.c_FILE T.r_FILE) (pa_cons (pe_glob rfl T.c_DIRECTORY T.r_DIRECTORY) (pa_cons (pe_glob rfl T.c_LINK T.r_LINK) (pa_cons (pe_glob rfl T.c_INODE_OCTETS T.r_INODE_OCTETS) pa_nil))))) (pe_lst (pa_cons pe_int (pa_cons pe_int (pa_cons pe_int (pa_cons pe_int pa_nil))))) (nomark _))
       (pss_one (ps_ret pe_bl))
       pss_nil)
       (pss_cons (ps_set (i := 1) sc_law.nd rfl (Or.inl rfl) (pe_call (ok_law_drawn T) (hr.mono (by decide)) rfl T.m_law_drawn T.F_law_drawn.kp T.b_law_drawn .nil pass0 (pa_cons (pv 0) pa_nil)))
       (pss_cons (ps_set (i := 2) sc_law.nd rfl (Or.inl rfl) (pe_make T.M_Inode (ok_Inode___init T) (hr.mono (by decide)) rfl T.m_Inode T.b_Inode___init .nil pass0 (pa_cons (pe_ix ix_list (pv 1) pe_int (fun _ _ => rfl)) (pa_cons (pe_ix ix_list (pv 1) pe_int (fun _ _ => rfl)) (pa_cons (pe_ix ix_list (pv 1) pe_int (fun _ _ => rfl)) (pa_cons (pe_ix ix_list (pv 1) pe_int (fun _ _ => rfl)) (pa_cons (pe_ix ix_list (pv 1) pe_int (fun _ _ => rfl)) (pa_cons (pe_ix ix_list (pv 1) pe_int (fun _ _ => rfl)) pa_nil))))))))
       (C8.pss_cut (ps_if (PW.pt (pw_or (pt_cmpR (op_neD hr.units) (pe_call (ok_law_fields T) (hr.mono (by decide)) rfl T.m_law_fields T.F_law_fields.kp T.b_law_fields .nil pass0 (pa_cons (pv 2) pa_nil)) (pv 1) (nomark _)) (pw_or1 (pt_not (pt_val (pe_call (ok_law_is T) (hr.mono (by decide)) rfl T.m_law_is T.F_law_is.kp T.b_law_is .nil pass0 (pa_cons (pe_prop (pv 2) T.cl_Inode T.pr_Inode_is_directory (ok_Inode_is_directory T) (hr.mono (by decide)) T.b_Inode_is_directory .nil pass0 rfl) (pa_cons (pe_cmpR op_eq (pe_ix ix_list (pv 1) pe_int (fun _ _ => rfl)) pe_int (nomark _)) pa_nil))))))))
       (pss_one (ps_ret pe_bl))
       pss_nil)
       (pss_cons (ps_set (i := 3) sc_law.nd rfl (Or.inl rfl) (pe_call (ok_encode_inode T) (hr.mono (by decide)) rfl T.m_encode_inode T.F_encode_inode.kp T.b_encode_inode .nil pass0 (pa_cons (pv 2) pa_nil)))
       (C8.pss_cut (ps_if (PW.pt (pw_or (pt_not (pt_val (pe_callB (call_isi) (by rfl) T.n_isinstance (by decide +kernel) (pa_cons (pv 3) (pa_cons (pe_bltn (v := .ty "list") (by rfl) T.n_list (by decide +kernel) rfl) pa_nil))))) (pw_or1 (pt_cmpR (op_neD hr.units) (pv 3) (pe_call (ok_law_octets T) (hr.mono (by decide)) rfl T.m_law_octets T.F_law_octets.kp T.b_law_octets .nil pass0 (pa_cons (pv 1) pa_nil)) (nomark _)))))
       (pss_one (ps_ret pe_bl))
       pss_nil)
       (pss_cons (ps_set (i := 4) sc_law.nd rfl (Or.inl rfl) (pe_call (ok_decode_inode T) (hr.mono (by decide)) rfl T.m_decode_inode T.F_decode_inode.kp T.b_decode_inode .nil pass0 (pa_cons (pv 3) pa_nil)))
       (C8.pss_cut (ps_if (PW.pt (pw_or (pt_cmp (pc_isN (pv 4)) rfl) (pw_or (pt_cmpR (op_neD hr.units) (pe_call (ok_law_fields T) (hr.mono (by decide)) rfl T.m_law_fields T.F_law_fields.kp T.b_law_fields .nil pass0 (pa_cons (pv 4) pa_nil)) (pv 1) (nomark _)) (pw_or1 (pt_not (pt_val (pe_call (ok_law_reads T) (hr.mono (by decide)) rfl T.m_law_reads T.F_law_reads.kp T.b_law_reads .nil pass0 (pa_cons (pv 3) pa_nil))))))))
       (pss_one (ps_ret pe_bl))
       pss_nil)
       (pss_cons (ps_expr (pe_bm PySem.F.plainAttrs_list PySem.F.slot_list_append PySem.F.type_list_append mt_append (pv 3) (pa_cons pe_int pa_nil)))
       (C8.pss_cut (ps_if (PW.pt (pw_or (pt_cmpR (op_neD hr.units) (pe_call (ok_encode_inode T) (hr.mono (by decide)) rfl T.m_encode_inode T.F_encode_inode.kp T.b_encode_inode .nil pass0 (pa_cons (pv 2) pa_nil)) (pe_call (ok_law_octets T) (hr.mono (by decide)) rfl T.m_law_octets T.F_law_octets.kp T.b_law_octets .nil pass0 (pa_cons (pv 1) pa_nil)) (nomark _)) (pw_or1 (pt_cmpR (op_neD hr.units) (pe_call (ok_law_fields T) (hr.mono (by decide)) rfl T.m_law_fields T.F_law_fields.kp T.b_law_fields .nil pass0 (pa_cons (pv 2) pa_nil)) (pv 1) (nomark _)))))
       (pss_one (ps_ret pe_bl))
       pss_nil)
       (pss_cons (ps_set (i := 5) sc_law.nd rfl (Or.inl rfl) (pe_call (ok_law_row T) (hr.mono (by decide)) rfl T.m_law_row T.F_law_row.kp T.b_law_row .nil pass0 (pa_cons (pv 0) (pa_cons pe_int pa_nil))))
       (pss_cons (ps_set (i := 3) sc_law.nd rfl (Or.inl rfl) (pe_call (ok_law_octets T) (hr.mono (by decide)) rfl T.m_law_octets T.F_law_octets.kp T.b_law_octets .nil pass0 (pa_cons (pv 1) pa_nil)))
       (pss_cons (ps_set (i := 6) sc_law.nd rfl (Or.inl rfl) (pe_op op_mod (pe_callTy c_int (by rfl) T.n_int (by decide +kernel) (pa_cons (pv 5) pa_nil)) pe_int))
       (pss_cons (ps_asg (pe_ix ix_list (pe_lst (pa_cons pe_int (pa_cons pe_int (pa_cons pe_int (pa_cons pe_int (pa_cons pe_int (pa_cons pe_int (pa_cons (pe_op op_mod (pe_op op_fdiv (pe_callTy c_int (by rfl) T.n_int (by decide +kernel) (pa_cons (pv 5) pa_nil)) pe_int) pe_int) pa_nil)))))))) (pe_op op_mod (pe_op op_fdiv (pe_callTy c_int (by rfl) T.n_int (by decide +kernel) (pa_cons (pv 5) pa_nil)) pe_int) pe_int) (fun _ _ => rfl)) (pg_sub (pv 3) (pv 6) set_list))
       (pss_cons (ps_if (pt_not (pt_val (pe_call (ok_law_reads T) (hr.mono (by decide)) rfl T.m_law_reads T.F_law_reads.kp T.b_law_reads .nil pass0 (pa_cons (pv 3) pa_nil))))
       (pss_one (ps_ret pe_bl))
       pss_nil)
       (pss_cons (ps_set (i := 7) sc_law.nd rfl (Or.inl rfl) (pe_callTy c_int (by rfl) T.n_int (by decide +kernel) (pa_cons (pe_call (ok_law_row T) (hr.mono (by decide)) rfl T.m_law_row T.F_law_row.kp T.b_law_row .nil pass0 (pa_cons (pv 0) (pa_cons pe_int pa_nil))) pa_nil)))
       (pss_cons (ps_set (i := 3) sc_law.nd rfl (Or.inl rfl) (pe_lst pa_nil))
       (pss_cons (ps_for PassesOwn.never rfl (pi_range1 rfl T.n_range (pa_cons pe_int pa_nil)) (pg_name (i := 8) sc_law.nd rfl (Or.inl rfl))
       (pss_cons (ps_expr (pe_bm PySem.F.plainAttrs_list PySem.F.slot_list_append PySem.F.type_list_append mt_append (pv 3) (pa_cons (pe_op op_mul (pe_op op_mod (pv 7) pe_int) (pe_callTy c_int (by rfl) T.n_int (by decide +kernel) (pa_cons (pe_or (pe_cmpR op_lt (pv 8) pe_int (nomark _)) (pe_one (pe_cmpR op_eq (pe_op op_mod (pv 7) pe_int) pe_int (nomark _)))) pa_nil))) pa_nil)))
       (pss_one (ps_set (i := 7) sc_law.nd rfl (Or.inl rfl) (pe_op op_fdiv (pv 7) pe_int)))))
       (pss_cons (ps_asg (pe_op op_mod (pv 7) pe_int) (pg_sub (pv 3) pe_int set_list))
       (C8.pss_cut (ps_if (PW.pt (pw_or (pt_not (pt_val (pe_call (ok_law_reads T) (hr.mono (by decide)) rfl T.m_law_reads T.F_law_reads.kp T.b_law_reads .nil pass0 (pa_cons (pv 3) pa_nil)))) (pw_or1 (pt_not (pt_val (pe_call (ok_law_reads T) (hr.mono (by decide)) rfl T.m_law_reads T.F_law_reads.kp T.b_law_reads .nil pass0 (pa_cons (pe_op op_rep (pe_lst (pa_cons pe_int pa_nil)) pe_int) pa_nil)))))))
       (pss_one (ps_ret pe_bl))
       pss_nil)
       (pss_one (ps_ret (pe_and (pe_cmpR (op_eqD hr.units) (pe_call (ok_law_fields T) (hr.mono (by decide)) rfl T.m_law_fields T.F_law_fields.kp T.b_law_fields .nil pass0 (pa_cons (pe_make T.M_Inode (ok_Inode___init T) (hr.mono (by decide)) rfl T.m_Inode T.b_Inode___init_2 T.v_Inode___init_2 pass0 (pa_cons (pe_glob rfl T.c_FILE T.r_FILE) pa_nil)) pa_nil)) (pe_lst (pa_cons pe_int (pa_cons pe_int (pa_cons pe_int (pa_cons pe_int (pa_cons pe_int (pa_cons pe_int pa_nil))))))) (nomark _)) (pe_one (pe_cmpR (op_eqD hr.units) (pe_call (ok_law_fields T) (hr.mono (by decide)) rfl T.m_law_fields T.F_law_fields.kp T.b_law_fields .nil pass0 (pa_cons (pe_makeN T.M_Inode (ok_Inode___init T) (hr.mono (by decide)) rfl T.m_Inode T.kb_Inode___init_2_parent pass0 (pa_cons (pe_glob rfl T.c_LINK T.r_LINK) pa_nil) (pk_cons pe_int pk_nil)) pa_nil)) (pe_lst (pa_cons pe_int (pa_cons pe_int (pa_cons pe_int (pa_cons pe_int (pa_cons pe_int (pa_cons pe_int pa_nil))))))) (nomark _)))))))))))))))))))))))))), ?_⟩
    try dsimp only [cxOf, Cx.nox, Cx.wish]
    obtain ⟨a, ns, rfl, hS, h63, q⟩ := h
    walk_at "rd"
    rename_i l1 n1 H1 s1 h1 l2 n2 H2 s2 h2
    refine r_neI (ns := [1, 2, 3, 16]) (.of (s2 _ _ h1)) (.of h2) ?_
    walk_at "rd"
    refine ⟨a, ns, rfl, (s1.trans s2).seq hS, h63, fun H3 lf f s3 n3 hf ok => ?_⟩
    have hS3 := (s1.trans (s2.trans s3)).seq hS
    clear h1 h2 hS
    have hf : H3 lf = some (.lst [V.int f.kind, V.int f.links, V.int f.size, V.int f.height, V.int f.root, V.int f.parent]) := hf
    walk_at "rd"
    intro x dx nx nd ne
    refine ⟨x, dx, f, rfl, upd_same, fun H4 fs k h4 hF => ⟨rfl, ?_⟩⟩
    have s4 := madei nx nd k
    have hx : InoAt T.A_Inode f H4 x := ⟨_, _, h4, hF⟩
    have hf4 := s4 _ _ hf
    have hS4 := s4.seq hS3
    clear hf hS3 h4 hF k nx nd ne
    walk_at "rd"
    refine r_cutH ?_ (fun H5 s5 => ?_)
    · walk_at "rd"
      refine ⟨_, _, rfl, hx, fun H5 l5 s5 n5 h5 => ?_⟩
      walk_at "rd"
      refine r_neI (ns := f.list) (.of h5) (.of (s5 _ _ hf4)) ?_
      walk_at "rd"
      refine r_prop ?_
      walk_at "rd"
      obtain ⟨dx', fs', hp', hF'⟩ := hx.mono s5
      refine r_kprop hp' ⟨_, _, rfl, ⟨_, _, hp', hF'⟩, ?_⟩
      walk_at "rd"
      refine ⟨_, rfl, ?_⟩
      walk_at "rd"
      exact ⟨rfl, s5⟩
    have hx5 := hx.mono s5
    have hf5 := s5 _ _ hf4
    have hS5 := s5.seq hS4
    clear hx hf4 hS4
    walk_at "rd"
    refine ⟨_, _, rfl, hx5, fun H6 l6 s6 n6 h6 => ?_⟩
    walk_at "rd"
    refine r_cutH ?_ (fun H7 s7 => ?_)
    · walk_at "rd"
      refine ⟨_, _, rfl, .of (s6 _ _ hf5), ok.h0, ok.h1, fun H7 l7 s7 n7 h7 => ?_⟩
      walk_at "rd"
      refine r_neI (ns := encI f) (.of (s7 _ _ h6)) (.of h7) ?_
      walk_at "rd"
      exact ⟨rfl, s7⟩
    have h67 := s7 _ _ h6
    have S7 := s6.trans s7
    clear h6 s6 s7
    walk_at "rd"
    refine ⟨l6, encI f, rfl, .of h67, rfl, fun hh => (by rw [enc_holds ok] at hh; cases hh), fun _ H8 p8 s8 n8 hp8 => ?_⟩
    rw [dec_enc ok] at hp8
    have h68 := s8 _ _ h67
    have S8 := S7.trans s8
    clear h67 S7 s8
    walk_at "rd"
    refine r_cutH ?_ (fun H9 s9 => ?_)
    · walk_at "rd"
      refine ⟨_, _, rfl, hp8, fun H9 l9 s9 n9 h9 => ?_⟩
      walk_at "rd"
      refine r_neI (ns := f.list) (.of h9) (.of (s9 _ _ (S8 _ _ hf5))) ?_
      walk_at "rd"
      refine ⟨l6, encI f, rfl, .of (s9 _ _ h68), rfl, enc_bytes ok, fun H10 s10 => ?_⟩
      walk_at "rd"
      exact ⟨rfl, s9.trans s10⟩
    have h69 := s9 _ _ h68
    have S9 := S8.trans s9
    clear h68 hp8 S8 s9
    walk_at "rd"
    refine r_app h69 (by rw [List.length_map, sz]; show 16 < _; omega) ?_
    generalize hH : upd _ _ _ = H10
    have S10 : Same H5 H10 := Sg.Same.old S9 n6 hH
    clear hH h69 S9
    walk_at "rd"
    refine r_cutH ?_ (fun H11 s11 => ?_)
    · walk_at "rd"
      refine ⟨_, _, rfl, hx5.mono S10, fun H11 l11 s11 n11 h11 => ?_⟩
      walk_at "rd"
      refine ⟨_, _, rfl, .of (s11 _ _ (S10 _ _ hf5)), ok.h0, ok.h1, fun H12 l12 s12 n12 h12 => ?_⟩
      walk_at "rd"
      refine r_neI (ns := encI f) (.of (s12 _ _ h11)) (.of h12) ?_
      walk_at "rd"
      refine ⟨_, _, rfl, hx5.mono (S10.trans (s11.trans s12)), fun H13 l13 s13 n13 h13 => ?_⟩
      walk_at "rd"
      refine r_neI (ns := f.list) (.of h13) (.of (s13 _ _ (s12 _ _ (s11 _ _ (S10 _ _ hf5))))) ?_
      walk_at "rd"
      exact ⟨rfl, s11.trans (s12.trans s13)⟩
    have S11 := S10.trans s11
    clear S10 s11
    walk_at "rd"
    refine ⟨a, ns, _, rfl, S11.seq hS5, h63, by decide, by decide, fun n2 hn2 => ?_⟩
    walk_at "rd"
    refine ⟨_, _, rfl, .of (S11 _ _ hf5), ok.h0, ok.h1, fun H12 l12 s12 n12 h12 => ?_⟩
    have S12 := S11.trans s12
    have n12' : H5 l12 = none := S11.free n12
    clear S11 s12 n12
    walk_at "rd"
    rename_i v hv v0 v1 u hu u0 u1 l13 n13 H13 s13 h13 y hy y0 y1
    have h13' : H13 l13 = some (.lst (([0, 1, 2, 3, 4, 255, u] : List Int).map V.int)) := h13
    have hy7 : ∀ x ∈ ([0, 1, 2, 3, 4, 255, u] : List Int), 0 ≤ x ∧ x < 256 := by
      intro x hx
      simp at hx
      omega
    refine r_ixl (.of h13') (at_ints y0 (by show y < 7; omega)) ?_
    have hc := hy7 _ (getD_mem (l := [0, 1, 2, 3, 4, 255, u]) (i := y.toNat) (by show y.toNat < 7; omega))
    generalize ([0, 1, 2, 3, 4, 255, u] : List Int).getD y.toNat 0 = c at hc
    clear h13 h13' hy7
    walk_at "rd"
    refine r_setl (s13 _ _ h12) (ixN_ok v0 (by rw [List.length_map]; show v < 16; omega)) ?_
    generalize hH : upd _ _ _ = H14
    have S14 : Same H5 H14 := Sg.Same.old (S12.trans s13) n12' hH
    have h14 : H14 l12 = some (.lst (((encI f).set v.toNat c).map V.int)) := by rw [← hH, upd_same, set_ints]
    clear hH S12 s13 h12
    walk_at "rd"
    refine ⟨l12, _, rfl, .of h14, by rw [List.length_set]; rfl, fun x hx => ?_, fun H15 s15 => ?_⟩
    · rcases List.mem_or_eq_of_mem_set hx with h | h
      · exact enc_bytes ok x h
      · rw [h]; exact hc
    have S15 := S14.trans s15
    clear S14 s15 h14
    walk_at "rd"
    refine ⟨a, ns, _, rfl, S15.seq hS5, h63, by decide, by decide, fun n3 hn3 => ?_⟩
    walk_at "rd"
    rename_i l16 n16 H16 s16 h16
    have S16 := S15.trans s16
    have n16' : H5 l16 = none := S15.free n16
    clear S15 s16 n16
    refine r_forR (fun i σ' H' => ∃ (r : Int) (zs : List Int) (v8 : Option V), σ' = [some (.ref a), some (.ref lf), some (.ref x), some (.ref l16), some (.ref p8), some (.int n2), some (.int v), some (.int r), v8] ∧ Same H5 H' ∧ H' l16 = some (.lst (zs.map V.int)) ∧ zs.length = i ∧ (∀ x ∈ zs, 0 ≤ x ∧ x < 256)) ⟨_, [], _, rfl, S16, h16, rfl, fun _ h => by cases h⟩ ?_ ?_
    · rintro i σ' H' hi ⟨r, zs, v8, rfl, s, hl, hzl, hzb⟩
      have hi16 : i < 16 := by simpa using hi
      walk_at "rd"
      refine r_ite (fun _ => ?_) (fun _ => ?_)
      · rename_i z hz z0 z1 _
        walk_at "rd"
        refine .inr ⟨_, rfl, ?_⟩
        have hbm := byte_mul true z0 z1
        refine ⟨_, _, rfl, rfl, .inl ⟨by omega, by omega⟩, ?_⟩
        walk_at "rd"
        rename_i H17 e17 h17
        exact ⟨_, zs ++ [z * (if true = true then 1 else 0)], _, rfl, Sg.Same.old s n16' e17, by rw [h17, List.map_append]; rfl, by rw [List.length_append, hzl]; rfl, fun x hx => (List.mem_append.mp hx).elim (hzb x) fun h => by rw [List.mem_singleton.mp h]; exact hbm⟩
      · rename_i z hz z0 z1 _
        walk_at "rd"
        refine .inr ⟨_, rfl, ?_⟩
        generalize hB : decide (_ = (0 : Int)) = B
        have hbm := byte_mul B z0 z1
        refine ⟨_, _, rfl, rfl, .inl ⟨by omega, by omega⟩, ?_⟩
        walk_at "rd"
        rename_i H17 e17 h17
        exact ⟨_, zs ++ [z * (if B = true then 1 else 0)], _, rfl, Sg.Same.old s n16' e17, by rw [h17, List.map_append]; rfl, by rw [List.length_append, hzl]; rfl, fun x hx => (List.mem_append.mp hx).elim (hzb x) fun h => by rw [List.mem_singleton.mp h]; exact hbm⟩
    · rintro σ' H' ⟨r, zs, v8, rfl, s, hl, hzl, hzb⟩
      walk_at "rd"
      rename_i t ht t0 t1
      refine r_setl hl (ixN_ok (by decide) (by rw [List.length_map, hzl]; decide)) ?_
      generalize hH : upd _ _ _ = H17
      have S17 : Same H5 H17 := Sg.Same.old s n16' hH
      have h17 : H17 l16 = some (.lst ((zs.set 0 t).map V.int)) := by rw [← hH, upd_same, set_ints]; rfl
      have hb17 : ∀ x ∈ zs.set 0 t, 0 ≤ x ∧ x < 256 := by
        intro x hx
        rcases List.mem_or_eq_of_mem_set hx with h | h
        · exact hzb x h
        · rw [h]; omega
      clear hH s hl
      walk_at "rd"
      refine r_cutH ?_ (fun H18 s18 => ?_)
      · walk_at "rd"
        refine ⟨l16, _, rfl, .of h17, by rw [List.length_set, hzl]; rfl, hb17, fun H18 s18 => ?_⟩
        walk_at "rd"
        rename_i l19 n19 H19 s19 h19
        refine r_rep h19 (by decide) (by decide) (by decide) ?_
        walk_at "al"
        rename_i l20 n20 H20 s20 h20
        walk_at "rd"
        refine ⟨l20, [0, 0, 0, 0, 0, 0, 0, 0, 0, 0, 0, 0, 0, 0, 0, 0], rfl, .of h20, rfl, fun x hx => by simp at hx; omega, fun H21 s21 => ?_⟩
        walk_at "rd"
        exact ⟨rfl, s18.trans (s19.trans (s20.trans s21))⟩
      walk_at "rd"
      intro x2 dx2 nx2 nd2 ne2
      refine ⟨x2, dx2, ⟨1, 1, 0, 0, 0, 0⟩, rfl, upd_same, fun H19 fs2 k2 h19 hF2 => ⟨rfl, ?_⟩⟩
      walk_at "rd"
      refine ⟨_, _, rfl, ⟨_, _, h19, hF2⟩, fun H20 l20 s20 n20 h20 => ?_⟩
      walk_at "rd"
      rename_i l21 n21 H21 s21 h21
      refine r_eqI (ns := [1, 1, 0, 0, 0, 0]) (.of (s21 _ _ h20)) (.of h21) ?_
      walk_at "rd"
      refine r_makeN ?_
      walk_at "rd"
      refine ⟨rfl, rfl, fun x3 dx3 nx3 nd3 ne3 => ?_⟩
      refine ⟨x3, dx3, ⟨3, 1, 0, 0, 0, 9⟩, rfl, upd_same, fun H22 fs3 k3 h22 hF3 => ⟨rfl, ?_⟩⟩
      walk_at "rd"
      refine ⟨_, _, rfl, ⟨_, _, h22, hF3⟩, fun H23 l23 s23 n23 h23 => ?_⟩
      walk_at "rd"
      rename_i l24 n24 H24 s24 h24
      refine r_eqI (ns := [3, 1, 0, 0, 0, 9]) (.of (s24 _ _ h23)) (.of h24) ?_
      walk_at "rd"
      exact q _
end
theorem all_mk {l : PySem.W.OpenLaw} {w : World} {K : PySem.W.Frag} {h : Heap} {mg : Str → Option Value} {fa C_Inode f_number_octets f_number_of f_Inode___init f_Inode_is_directory f_encode_inode f_holds_inode f_decode_inode f_law_row f_law_is_integer f_law_is f_law_fields f_law_octets f_law_drawn f_law_reads f_law dT_Inode___init p_Inode_is_directory : Addr} (X : K.In h) (G : h.Ns mainGlobals mg) (hfa : mg "law" = some (.ref fa))
    {od_number_octets an_number_octets od_number_of an_number_of od_Inode___init an_Inode___init od_Inode_is_directory an_Inode_is_directory od_encode_inode an_encode_inode od_holds_inode an_holds_inode od_decode_inode an_decode_inode od_law_row an_law_row od_law_is_integer an_law_is_integer od_law_is an_law_is od_law_fields an_law_fields od_law_octets an_law_octets od_law_drawn an_law_drawn od_law_reads an_law_reads od_law an_law : Option Addr} {sl_number_octets sl_number_of sl_Inode___init sl_Inode_is_directory sl_encode_inode sl_holds_inode sl_decode_inode sl_law_row sl_law_is_integer sl_law_is sl_law_fields sl_law_octets sl_law_drawn sl_law_reads sl_law : Array (Option Value)} {oc_number_octets kV_number_octets dc_number_octets pm_number_octets cd_number_octets ct_number_octets oc_number_of kV_number_of dc_number_of pm_number_of cd_number_of ct_number_of oc_Inode___init kV_Inode___init dc_Inode___init pm_Inode___init cd_Inode___init ct_Inode___init oc_Inode_is_directory kV_Inode_is_directory dc_Inode_is_directory pm_Inode_is_directory cd_Inode_is_directory ct_Inode_is_directory oc_encode_inode kV_encode_inode dc_encode_inode pm_encode_inode cd_encode_inode ct_encode_inode oc_holds_inode kV_holds_inode dc_holds_inode pm_holds_inode cd_holds_inode ct_holds_inode oc_decode_inode kV_decode_inode dc_decode_inode pm_decode_inode cd_decode_inode ct_decode_inode oc_law_row kV_law_row dc_law_row pm_law_row cd_law_row ct_law_row oc_law_is_integer kV_law_is_integer dc_law_is_integer pm_law_is_integer cd_law_is_integer ct_law_is_integer oc_law_is kV_law_is dc_law_is pm_law_is cd_law_is ct_law_is oc_law_fields kV_law_fields dc_law_fields pm_law_fields cd_law_fields ct_law_fields oc_law_octets kV_law_octets dc_law_octets pm_law_octets cd_law_octets ct_law_octets oc_law_drawn kV_law_drawn dc_law_drawn pm_law_drawn cd_law_drawn ct_law_drawn oc_law_reads kV_law_reads dc_law_reads pm_law_reads cd_law_reads ct_law_reads oc_law kV_law dc_law pm_law cd_law ct_law : Value}
    {dd_Inode___init : Option Addr} {dn_Inode___init : Nat} {dsl_Inode___init : Array (Option Value)}
    {pR_Inode_is_directory : List Value}
    {t_DIRECTORY t_FILE t_INODE_OCTETS t_LINK dtok_Inode___init_0 dtok_Inode___init_1 dtok_Inode___init_2 dtok_Inode___init_3 dtok_Inode___init_4 : Tok}
    (mC_Inode : PySem.W.nsIn K mainGlobals "Inode" = some (some (.ref C_Inode)))
    (pg_Inode : PySem.W.plainGet K C_Inode Str.empty = true)
    (hd_Inode : PySem.W.hasDictIn K C_Inode = true)
    (po_Inode : PySem.W.plainOver K C_Inode = true)
    (sa_Inode : PySem.W.findIn K (.ref C_Inode) "__setattr__" = some (some (.builtin "object.__setattr__")))
    (mk_Inode : PySem.W.makesIn K C_Inode = true)
    (kc_Inode : PySem.W.keepIn K (.ref C_Inode) = true)
    (na_Inode_kind : PySem.W.findIn K (.ref C_Inode) "kind" = some none)
    (na_Inode_links : PySem.W.findIn K (.ref C_Inode) "links" = some none)
    (na_Inode_size : PySem.W.findIn K (.ref C_Inode) "size" = some none)
    (na_Inode_height : PySem.W.findIn K (.ref C_Inode) "height" = some none)
    (na_Inode_root : PySem.W.findIn K (.ref C_Inode) "root" = some none)
    (na_Inode_parent : PySem.W.findIn K (.ref C_Inode) "parent" = some none)
    (a_number_octets : PySem.W.nsIn K mainGlobals "number_octets" = some (some (.ref f_number_octets)))
    (l_number_octets : K.lookup f_number_octets = some ⟨oc_number_octets, od_number_octets, .func (PySem.W.fnOf "number_octets" "number_octets" (defArgs s_number_octets) (defBody s_number_octets) (defScope s_number_octets) .none kV_number_octets dc_number_octets pm_number_octets an_number_octets cd_number_octets ct_number_octets), sl_number_octets⟩)
    (c_number_octets : PySem.W.codeIn K cd_number_octets "number_octets" = true)
    (k_number_octets : PySem.W.keepIn K (.ref f_number_octets) = true)
    (a_number_of : PySem.W.nsIn K mainGlobals "number_of" = some (some (.ref f_number_of)))
    (l_number_of : K.lookup f_number_of = some ⟨oc_number_of, od_number_of, .func (PySem.W.fnOf "number_of" "number_of" (defArgs s_number_of) (defBody s_number_of) (defScope s_number_of) .none kV_number_of dc_number_of pm_number_of an_number_of cd_number_of ct_number_of), sl_number_of⟩)
    (c_number_of : PySem.W.codeIn K cd_number_of "number_of" = true)
    (k_number_of : PySem.W.keepIn K (.ref f_number_of) = true)
    (a_Inode___init : PySem.W.findIn K (.ref C_Inode) "__init__" = some (some (.ref f_Inode___init)))
    (i_Inode___init : PySem.W.isFn K (.ref f_Inode___init) = true)
    (l_Inode___init : K.lookup f_Inode___init = some ⟨oc_Inode___init, od_Inode___init, .func (PySem.W.fnOf "__init__" "Inode.__init__" (defArgs s_Inode___init) (defBody s_Inode___init) (defScope s_Inode___init) (.ref dT_Inode___init) kV_Inode___init dc_Inode___init pm_Inode___init an_Inode___init cd_Inode___init ct_Inode___init), sl_Inode___init⟩)
    (dl_Inode___init : K.lookup dT_Inode___init = some ⟨.type "tuple", dd_Inode___init, .seq #[Value.int 1 dtok_Inode___init_0, Value.int 0 dtok_Inode___init_1, Value.int 0 dtok_Inode___init_2, Value.int 0 dtok_Inode___init_3, Value.int 0 dtok_Inode___init_4] dn_Inode___init, dsl_Inode___init⟩)
    (c_Inode___init : PySem.W.codeIn K cd_Inode___init "Inode.__init__" = true)
    (k_Inode___init : PySem.W.keepIn K (.ref f_Inode___init) = true)
    (a_Inode_is_directory : PySem.W.findIn K (.ref C_Inode) "is_directory" = some (some (.ref p_Inode_is_directory)))
    (pg_Inode_is_directory : PySem.W.specialIn K (.ref p_Inode_is_directory) "__get__" = some (some (.builtin "property.__get__")))
    (pt_Inode_is_directory : PySem.W.takesIn K (.ref p_Inode_is_directory) = some true)
    (pc_Inode_is_directory : PySem.W.recIn K p_Inode_is_directory "property" = some (.ref f_Inode_is_directory :: pR_Inode_is_directory))
    (l_Inode_is_directory : K.lookup f_Inode_is_directory = some ⟨oc_Inode_is_directory, od_Inode_is_directory, .func (PySem.W.fnOf "is_directory" "Inode.is_directory" (defArgs s_Inode_is_directory) (defBody s_Inode_is_directory) (defScope s_Inode_is_directory) .none kV_Inode_is_directory dc_Inode_is_directory pm_Inode_is_directory an_Inode_is_directory cd_Inode_is_directory ct_Inode_is_directory), sl_Inode_is_directory⟩)
    (c_Inode_is_directory : PySem.W.codeIn K cd_Inode_is_directory "Inode.is_directory" = true)
    (k_Inode_is_directory : PySem.W.keepIn K (.ref f_Inode_is_directory) = true)
    (a_encode_inode : PySem.W.nsIn K mainGlobals "encode_inode" = some (some (.ref f_encode_inode)))
    (l_encode_inode : K.lookup f_encode_inode = some ⟨oc_encode_inode, od_encode_inode, .func (PySem.W.fnOf "encode_inode" "encode_inode" (defArgs s_encode_inode) (defBody s_encode_inode) (defScope s_encode_inode) .none kV_encode_inode dc_encode_inode pm_encode_inode an_encode_inode cd_encode_inode ct_encode_inode), sl_encode_inode⟩)
    (c_encode_inode : PySem.W.codeIn K cd_encode_inode "encode_inode" = true)
    (k_encode_inode : PySem.W.keepIn K (.ref f_encode_inode) = true)
    (a_holds_inode : PySem.W.nsIn K mainGlobals "holds_inode" = some (some (.ref f_holds_inode)))
    (l_holds_inode : K.lookup f_holds_inode = some ⟨oc_holds_inode, od_holds_inode, .func (PySem.W.fnOf "holds_inode" "holds_inode" (defArgs s_holds_inode) (defBody s_holds_inode) (defScope s_holds_inode) .none kV_holds_inode dc_holds_inode pm_holds_inode an_holds_inode cd_holds_inode ct_holds_inode), sl_holds_inode⟩)
    (c_holds_inode : PySem.W.codeIn K cd_holds_inode "holds_inode" = true)
    (k_holds_inode : PySem.W.keepIn K (.ref f_holds_inode) = true)
    (a_decode_inode : PySem.W.nsIn K mainGlobals "decode_inode" = some (some (.ref f_decode_inode)))
    (l_decode_inode : K.lookup f_decode_inode = some ⟨oc_decode_inode, od_decode_inode, .func (PySem.W.fnOf "decode_inode" "decode_inode" (defArgs s_decode_inode) (defBody s_decode_inode) (defScope s_decode_inode) .none kV_decode_inode dc_decode_inode pm_decode_inode an_decode_inode cd_decode_inode ct_decode_inode), sl_decode_inode⟩)
    (c_decode_inode : PySem.W.codeIn K cd_decode_inode "decode_inode" = true)
    (k_decode_inode : PySem.W.keepIn K (.ref f_decode_inode) = true)
    (a_law_row : PySem.W.nsIn K mainGlobals "_law_row" = some (some (.ref f_law_row)))
    (l_law_row : K.lookup f_law_row = some ⟨oc_law_row, od_law_row, .func (PySem.W.fnOf "_law_row" "_law_row" (defArgs s_law_row) (defBody s_law_row) (defScope s_law_row) .none kV_law_row dc_law_row pm_law_row an_law_row cd_law_row ct_law_row), sl_law_row⟩)
    (c_law_row : PySem.W.codeIn K cd_law_row "_law_row" = true)
    (k_law_row : PySem.W.keepIn K (.ref f_law_row) = true)
    (a_law_is_integer : PySem.W.nsIn K mainGlobals "_law_is_integer" = some (some (.ref f_law_is_integer)))
    (l_law_is_integer : K.lookup f_law_is_integer = some ⟨oc_law_is_integer, od_law_is_integer, .func (PySem.W.fnOf "_law_is_integer" "_law_is_integer" (defArgs s_law_is_integer) (defBody s_law_is_integer) (defScope s_law_is_integer) .none kV_law_is_integer dc_law_is_integer pm_law_is_integer an_law_is_integer cd_law_is_integer ct_law_is_integer), sl_law_is_integer⟩)
    (c_law_is_integer : PySem.W.codeIn K cd_law_is_integer "_law_is_integer" = true)
    (k_law_is_integer : PySem.W.keepIn K (.ref f_law_is_integer) = true)
    (a_law_is : PySem.W.nsIn K mainGlobals "_law_is" = some (some (.ref f_law_is)))
    (l_law_is : K.lookup f_law_is = some ⟨oc_law_is, od_law_is, .func (PySem.W.fnOf "_law_is" "_law_is" (defArgs s_law_is) (defBody s_law_is) (defScope s_law_is) .none kV_law_is dc_law_is pm_law_is an_law_is cd_law_is ct_law_is), sl_law_is⟩)
    (c_law_is : PySem.W.codeIn K cd_law_is "_law_is" = true)
    (k_law_is : PySem.W.keepIn K (.ref f_law_is) = true)
    (a_law_fields : PySem.W.nsIn K mainGlobals "_law_fields" = some (some (.ref f_law_fields)))
    (l_law_fields : K.lookup f_law_fields = some ⟨oc_law_fields, od_law_fields, .func (PySem.W.fnOf "_law_fields" "_law_fields" (defArgs s_law_fields) (defBody s_law_fields) (defScope s_law_fields) .none kV_law_fields dc_law_fields pm_law_fields an_law_fields cd_law_fields ct_law_fields), sl_law_fields⟩)
    (c_law_fields : PySem.W.codeIn K cd_law_fields "_law_fields" = true)
    (k_law_fields : PySem.W.keepIn K (.ref f_law_fields) = true)
    (a_law_octets : PySem.W.nsIn K mainGlobals "_law_octets" = some (some (.ref f_law_octets)))
    (l_law_octets : K.lookup f_law_octets = some ⟨oc_law_octets, od_law_octets, .func (PySem.W.fnOf "_law_octets" "_law_octets" (defArgs s_law_octets) (defBody s_law_octets) (defScope s_law_octets) .none kV_law_octets dc_law_octets pm_law_octets an_law_octets cd_law_octets ct_law_octets), sl_law_octets⟩)
    (c_law_octets : PySem.W.codeIn K cd_law_octets "_law_octets" = true)
    (k_law_octets : PySem.W.keepIn K (.ref f_law_octets) = true)
    (a_law_drawn : PySem.W.nsIn K mainGlobals "_law_drawn" = some (some (.ref f_law_drawn)))
    (l_law_drawn : K.lookup f_law_drawn = some ⟨oc_law_drawn, od_law_drawn, .func (PySem.W.fnOf "_law_drawn" "_law_drawn" (defArgs s_law_drawn) (defBody s_law_drawn) (defScope s_law_drawn) .none kV_law_drawn dc_law_drawn pm_law_drawn an_law_drawn cd_law_drawn ct_law_drawn), sl_law_drawn⟩)
    (c_law_drawn : PySem.W.codeIn K cd_law_drawn "_law_drawn" = true)
    (k_law_drawn : PySem.W.keepIn K (.ref f_law_drawn) = true)
    (a_law_reads : PySem.W.nsIn K mainGlobals "_law_reads" = some (some (.ref f_law_reads)))
    (l_law_reads : K.lookup f_law_reads = some ⟨oc_law_reads, od_law_reads, .func (PySem.W.fnOf "_law_reads" "_law_reads" (defArgs s_law_reads) (defBody s_law_reads) (defScope s_law_reads) .none kV_law_reads dc_law_reads pm_law_reads an_law_reads cd_law_reads ct_law_reads), sl_law_reads⟩)
    (c_law_reads : PySem.W.codeIn K cd_law_reads "_law_reads" = true)
    (k_law_reads : PySem.W.keepIn K (.ref f_law_reads) = true)
    (a_law : PySem.W.nsIn K mainGlobals "law" = some (some (.ref f_law)))
    (l_law : K.lookup f_law = some ⟨oc_law, od_law, .func (PySem.W.fnOf "law" "law" (defArgs s_law) (defBody s_law) (defScope s_law) .none kV_law dc_law pm_law an_law cd_law ct_law), sl_law⟩)
    (c_law : PySem.W.codeIn K cd_law "law" = true)
    (k_law : PySem.W.keepIn K (.ref f_law) = true)
    (q_DIRECTORY : PySem.W.nsIn K mainGlobals "DIRECTORY" = some (some (.int 2 t_DIRECTORY)))
    (q_FILE : PySem.W.nsIn K mainGlobals "FILE" = some (some (.int 1 t_FILE)))
    (q_INODE_OCTETS : PySem.W.nsIn K mainGlobals "INODE_OCTETS" = some (some (.int 16 t_INODE_OCTETS)))
    (q_LINK : PySem.W.nsIn K mainGlobals "LINK" = some (some (.int 3 t_LINK)))
    (n_any : PySem.W.nsIn K mainGlobals "any" = some none)
    (n_bool : PySem.W.nsIn K mainGlobals "bool" = some none)
    (n_int : PySem.W.nsIn K mainGlobals "int" = some none)
    (n_isinstance : PySem.W.nsIn K mainGlobals "isinstance" = some none)
    (n_len : PySem.W.nsIn K mainGlobals "len" = some none)
    (n_list : PySem.W.nsIn K mainGlobals "list" = some none)
    (n_min : PySem.W.nsIn K mainGlobals "min" = some none)
    (n_range : PySem.W.nsIn K mainGlobals "range" = some none)
    (n_reversed : PySem.W.nsIn K mainGlobals "reversed" = some none)
    : ∃ fd : FuncData, (∀ (s : Shared) (v : Value), BindsTo s fd ⟨[v], []⟩ [("script", v)]) ∧ ∀ base : Heap, K.In base → base.Ns mainGlobals mg → FnOk l.prog w K mg base CX0 5 fa fd ["script"] (spLaw K) := by
  have e := hfa.symm.trans (PySem.W.mg_of X G a_law)
  cases e
  have F_number_octets := fun_mk (st := s_number_octets) l_number_octets c_number_octets k_number_octets
  have b_number_octets := F_number_octets.binds (ps := ["number", "count"]) fun _ _ _ _ _ _ us hl => match us, hl with | [_, _], _ => rfl
  have F_number_of := fun_mk (st := s_number_of) l_number_of c_number_of k_number_of
  have b_number_of := F_number_of.binds (ps := ["octets"]) fun _ _ _ _ _ _ us hl => match us, hl with | [_], _ => rfl
  have F_Inode___init : FunD K "__init__" "Inode.__init__" (defArgs s_Inode___init) (defBody s_Inode___init) (defScope s_Inode___init) [V.int 1, V.int 0, V.int 0, V.int 0, V.int 0] [] f_Inode___init _ := ⟨⟨_, _, _, _, _, _, _, _, _, _, rfl, l_Inode___init, c_Inode___init, .inr ⟨by simp, _, _, _, _, rfl, dl_Inode___init, rfl, (.cons ⟨_, rfl⟩ (.cons ⟨_, rfl⟩ (.cons ⟨_, rfl⟩ (.cons ⟨_, rfl⟩ (.cons ⟨_, rfl⟩ .nil)))))⟩, .inl rfl⟩, k_Inode___init⟩
  obtain ⟨ds_Inode___init_2, v_Inode___init_2, b_Inode___init_2⟩ := F_Inode___init.binds1 (ps := ["self", "kind", "links", "size", "height", "root", "parent"]) 2 0 (by simp) rfl fun _ _ _ _ _ _ _ us its hl hi => match us, its, hl, hi with | [_, _], [_, _, _, _, _], _, _ => ⟨_, rfl, rfl⟩
  obtain ⟨ds_Inode___init_7, v_Inode___init_7, b_Inode___init_7⟩ := F_Inode___init.binds1 (ps := ["self", "kind", "links", "size", "height", "root", "parent"]) 7 5 (by simp) rfl fun _ _ _ _ _ _ _ us its hl hi => match us, its, hl, hi with | [_, _, _, _, _, _, _], [_, _, _, _, _], _, _ => ⟨_, rfl, rfl⟩
  cases v_Inode___init_7
  obtain ⟨_, kb_Inode___init_2_links_size_height_root_parent⟩ := F_Inode___init.kbindsD (ps := ["self", "kind", "links", "size", "height", "root", "parent"]) 2 ["links", "size", "height", "root", "parent"] (fun us its ws => (us ++ ws)) (by simp) (fun r1 r2 r4 => (r1.append r4)) fun _ _ _ _ _ _ _ us its ws l1 l2 l3 => match us, its, ws, l1, l2, l3 with | [_, _], [_, _, _, _, _], [_, _, _, _, _], _, _, _ => ⟨_, rfl, rfl⟩
  obtain ⟨_, kb_Inode___init_2_parent⟩ := F_Inode___init.kbindsD (ps := ["self", "kind", "links", "size", "height", "root", "parent"]) 2 ["parent"] (fun us its ws => (((((us ++ ((its.drop 0).take 1)) ++ ((its.drop 1).take 1)) ++ ((its.drop 2).take 1)) ++ ((its.drop 3).take 1)) ++ ((ws.drop 0).take 1))) (by simp) (fun r1 r2 r4 => (((((r1.append ((r2.drop 0).take 1)).append ((r2.drop 1).take 1)).append ((r2.drop 2).take 1)).append ((r2.drop 3).take 1)).append ((r4.drop 0).take 1))) fun _ _ _ _ _ _ _ us its ws l1 l2 l3 => match us, its, ws, l1, l2, l3 with | [_, _], [_, _, _, _, _], [_], _, _, _ => ⟨_, rfl, rfl⟩
  have F_Inode_is_directory := fun_mk (st := s_Inode_is_directory) l_Inode_is_directory c_Inode_is_directory k_Inode_is_directory
  have b_Inode_is_directory := F_Inode_is_directory.binds (ps := ["self"]) fun _ _ _ _ _ _ us hl => match us, hl with | [_], _ => rfl
  have F_encode_inode := fun_mk (st := s_encode_inode) l_encode_inode c_encode_inode k_encode_inode
  have b_encode_inode := F_encode_inode.binds (ps := ["inode"]) fun _ _ _ _ _ _ us hl => match us, hl with | [_], _ => rfl
  have F_holds_inode := fun_mk (st := s_holds_inode) l_holds_inode c_holds_inode k_holds_inode
  have b_holds_inode := F_holds_inode.binds (ps := ["octets"]) fun _ _ _ _ _ _ us hl => match us, hl with | [_], _ => rfl
  have F_decode_inode := fun_mk (st := s_decode_inode) l_decode_inode c_decode_inode k_decode_inode
  have b_decode_inode := F_decode_inode.binds (ps := ["octets"]) fun _ _ _ _ _ _ us hl => match us, hl with | [_], _ => rfl
  have F_law_row := fun_mk (st := s_law_row) l_law_row c_law_row k_law_row
  have b_law_row := F_law_row.binds (ps := ["script", "k"]) fun _ _ _ _ _ _ us hl => match us, hl with | [_, _], _ => rfl
  have F_law_is_integer := fun_mk (st := s_law_is_integer) l_law_is_integer c_law_is_integer k_law_is_integer
  have b_law_is_integer := F_law_is_integer.binds (ps := ["actual"]) fun _ _ _ _ _ _ us hl => match us, hl with | [_], _ => rfl
  have F_law_is := fun_mk (st := s_law_is) l_law_is c_law_is k_law_is
  have b_law_is := F_law_is.binds (ps := ["actual", "due"]) fun _ _ _ _ _ _ us hl => match us, hl with | [_, _], _ => rfl
  have F_law_fields := fun_mk (st := s_law_fields) l_law_fields c_law_fields k_law_fields
  have b_law_fields := F_law_fields.binds (ps := ["inode"]) fun _ _ _ _ _ _ us hl => match us, hl with | [_], _ => rfl
  have F_law_octets := fun_mk (st := s_law_octets) l_law_octets c_law_octets k_law_octets
  have b_law_octets := F_law_octets.binds (ps := ["fields"]) fun _ _ _ _ _ _ us hl => match us, hl with | [_], _ => rfl
  have F_law_drawn := fun_mk (st := s_law_drawn) l_law_drawn c_law_drawn k_law_drawn
  have b_law_drawn := F_law_drawn.binds (ps := ["script"]) fun _ _ _ _ _ _ us hl => match us, hl with | [_], _ => rfl
  have F_law_reads := fun_mk (st := s_law_reads) l_law_reads c_law_reads k_law_reads
  have b_law_reads := F_law_reads.binds (ps := ["octets"]) fun _ _ _ _ _ _ us hl => match us, hl with | [_], _ => rfl
  have F_law := fun_mk (st := s_law) l_law c_law k_law
  have b_law := F_law.binds (ps := ["script"]) fun _ _ _ _ _ _ us hl => match us, hl with | [_], _ => rfl
  let T : Txt K mg := {
    a_number_octets := f_number_octets,
    fd_number_octets := _,
    F_number_octets := F_number_octets,
    b_number_octets := b_number_octets,
    m_number_octets := PySem.W.mg_of X G a_number_octets,
    a_number_of := f_number_of,
    fd_number_of := _,
    F_number_of := F_number_of,
    b_number_of := b_number_of,
    m_number_of := PySem.W.mg_of X G a_number_of,
    a_Inode___init := f_Inode___init,
    fd_Inode___init := _,
    F_Inode___init := F_Inode___init,
    b_Inode___init := b_Inode___init_7,
    kg_Inode___init_2_links_size_height_root_parent := _,
    kb_Inode___init_2_links_size_height_root_parent := kb_Inode___init_2_links_size_height_root_parent,
    kg_Inode___init_2_parent := _,
    kb_Inode___init_2_parent := kb_Inode___init_2_parent,
    ds_Inode___init_2 := ds_Inode___init_2,
    v_Inode___init_2 := v_Inode___init_2,
    b_Inode___init_2 := b_Inode___init_2,
    a_Inode_is_directory := f_Inode_is_directory,
    fd_Inode_is_directory := _,
    F_Inode_is_directory := F_Inode_is_directory,
    b_Inode_is_directory := b_Inode_is_directory,
    p_Inode_is_directory := p_Inode_is_directory,
    pr_Inode_is_directory := ⟨a_Inode_is_directory, pg_Inode_is_directory, pt_Inode_is_directory, ⟨_, pc_Inode_is_directory⟩⟩,
    a_encode_inode := f_encode_inode,
    fd_encode_inode := _,
    F_encode_inode := F_encode_inode,
    b_encode_inode := b_encode_inode,
    m_encode_inode := PySem.W.mg_of X G a_encode_inode,
    a_holds_inode := f_holds_inode,
    fd_holds_inode := _,
    F_holds_inode := F_holds_inode,
    b_holds_inode := b_holds_inode,
    m_holds_inode := PySem.W.mg_of X G a_holds_inode,
    a_decode_inode := f_decode_inode,
    fd_decode_inode := _,
    F_decode_inode := F_decode_inode,
    b_decode_inode := b_decode_inode,
    m_decode_inode := PySem.W.mg_of X G a_decode_inode,
    a_law_row := f_law_row,
    fd_law_row := _,
    F_law_row := F_law_row,
    b_law_row := b_law_row,
    m_law_row := PySem.W.mg_of X G a_law_row,
    a_law_is_integer := f_law_is_integer,
    fd_law_is_integer := _,
    F_law_is_integer := F_law_is_integer,
    b_law_is_integer := b_law_is_integer,
    m_law_is_integer := PySem.W.mg_of X G a_law_is_integer,
    a_law_is := f_law_is,
    fd_law_is := _,
    F_law_is := F_law_is,
    b_law_is := b_law_is,
    m_law_is := PySem.W.mg_of X G a_law_is,
    a_law_fields := f_law_fields,
    fd_law_fields := _,
    F_law_fields := F_law_fields,
    b_law_fields := b_law_fields,
    m_law_fields := PySem.W.mg_of X G a_law_fields,
    a_law_octets := f_law_octets,
    fd_law_octets := _,
    F_law_octets := F_law_octets,
    b_law_octets := b_law_octets,
    m_law_octets := PySem.W.mg_of X G a_law_octets,
    a_law_drawn := f_law_drawn,
    fd_law_drawn := _,
    F_law_drawn := F_law_drawn,
    b_law_drawn := b_law_drawn,
    m_law_drawn := PySem.W.mg_of X G a_law_drawn,
    a_law_reads := f_law_reads,
    fd_law_reads := _,
    F_law_reads := F_law_reads,
    b_law_reads := b_law_reads,
    m_law_reads := PySem.W.mg_of X G a_law_reads,
    a_law := fa,
    fd_law := _,
    F_law := F_law,
    b_law := b_law,
    m_law := PySem.W.mg_of X G a_law,
    A_Inode := C_Inode,
    m_Inode := PySem.W.mg_of X G mC_Inode,
    cl_Inode := ⟨pg_Inode, hd_Inode, po_Inode, sa_Inode⟩,
    M_Inode := ⟨mk_Inode, a_Inode___init, i_Inode___init, kc_Inode⟩,
    na_Inode_kind := na_Inode_kind,
    na_Inode_links := na_Inode_links,
    na_Inode_size := na_Inode_size,
    na_Inode_height := na_Inode_height,
    na_Inode_root := na_Inode_root,
    na_Inode_parent := na_Inode_parent,
    t_DIRECTORY := t_DIRECTORY,
    c_DIRECTORY := PySem.W.mg_of X G q_DIRECTORY,
    r_DIRECTORY := ⟨_, rfl⟩,
    t_FILE := t_FILE,
    c_FILE := PySem.W.mg_of X G q_FILE,
    r_FILE := ⟨_, rfl⟩,
    t_INODE_OCTETS := t_INODE_OCTETS,
    c_INODE_OCTETS := PySem.W.mg_of X G q_INODE_OCTETS,
    r_INODE_OCTETS := ⟨_, rfl⟩,
    t_LINK := t_LINK,
    c_LINK := PySem.W.mg_of X G q_LINK,
    r_LINK := ⟨_, rfl⟩,
    n_any := PySem.W.mg_none_of X G n_any,
    n_bool := PySem.W.mg_none_of X G n_bool,
    n_int := PySem.W.mg_none_of X G n_int,
    n_isinstance := PySem.W.mg_none_of X G n_isinstance,
    n_len := PySem.W.mg_none_of X G n_len,
    n_list := PySem.W.mg_none_of X G n_list,
    n_min := PySem.W.mg_none_of X G n_min,
    n_range := PySem.W.mg_none_of X G n_range,
    n_reversed := PySem.W.mg_none_of X G n_reversed }
  exact ⟨_, fun s v => .of_eq rfl, fun base _ _ => ok_law T⟩
theorem walk {l : PySem.W.OpenLaw} {q : Program} {loose : List Str} {XP : (Str → Option Value) → Heap → Prop} {YP : World → Heap → Prop} {d : DefRec} {K : Params → PySem.W.Frag} (hn : l.most = some 63) (hdf : d.params.defaults = [])
    (hY : ∀ (w : World) (h : Heap), YP w h → (K w.params).In h)
    (F : ∀ (w : World) (mg : Str → Option Value) (fa : Addr) (h : Heap), (K w.params).In h → h.Ns mainGlobals mg → mg d.name = some (.ref fa) →
      ∃ fd : FuncData, (∀ (s : Shared) (u : Value), BindsTo s fd ⟨[u], []⟩ [("script", u)]) ∧ ∀ base : Heap, (K w.params).In base → base.Ns mainGlobals mg → FnOk l.prog w (K w.params) mg base CX0 5 fa fd ["script"] (spLaw (K w.params))) :
    PySem.W.WalkO q loose XP YP l.row.toRowW d [] (fun f vs => PySem.call f vs) :=
  L2.walk_of (n := 63) (k := 5) (x := "script") (CX := fun _ => CX0) (sp := fun w => spLaw (K w.params)) hn (by decide) hdf ⟨rfl, by decide, by decide⟩ hY F (fun _ _ a ns hl hO hS => ⟨a, ns, rfl, hS, hl, fun _ => rfl⟩) fun _ _ _ _ _ z => z
end Sg

open PySem PySem.W PyProof.Rows in
set_option maxRecDepth 100000 in
set_option maxHeartbeats 0 in
theorem PySem.Challenge.cw_segmentfs_k47_inodes_as_octets_holds : PySem.Challenge.rw_segmentfs_k47_inodes_as_octets.Holds := by
  w_on; o_law; k_head; (case hw => w_witness2)
  k_fill
  refine Sg.walk (l := PySem.Challenge.rw_segmentfs_k47_inodes_as_octets) rfl rfl (fun w h Y => PySem.W.kIn_of Y) ?F
  case F =>
    intro w mg fa h KX G hmg
    refine' Sg.all_mk KX G hmg ?mC_Inode ?pg_Inode ?hd_Inode ?po_Inode ?sa_Inode ?mk_Inode ?kc_Inode ?na_Inode_kind ?na_Inode_links ?na_Inode_size ?na_Inode_height ?na_Inode_root ?na_Inode_parent ?a_number_octets ?l_number_octets ?c_number_octets ?k_number_octets ?a_number_of ?l_number_of ?c_number_of ?k_number_of ?a_Inode___init ?i_Inode___init ?l_Inode___init ?dl_Inode___init ?c_Inode___init ?k_Inode___init ?a_Inode_is_directory ?pg_Inode_is_directory ?pt_Inode_is_directory ?pc_Inode_is_directory ?l_Inode_is_directory ?c_Inode_is_directory ?k_Inode_is_directory ?a_encode_inode ?l_encode_inode ?c_encode_inode ?k_encode_inode ?a_holds_inode ?l_holds_inode ?c_holds_inode ?k_holds_inode ?a_decode_inode ?l_decode_inode ?c_decode_inode ?k_decode_inode ?a_law_row ?l_law_row ?c_law_row ?k_law_row ?a_law_is_integer ?l_law_is_integer ?c_law_is_integer ?k_law_is_integer ?a_law_is ?l_law_is ?c_law_is ?k_law_is ?a_law_fields ?l_law_fields ?c_law_fields ?k_law_fields ?a_law_octets ?l_law_octets ?c_law_octets ?k_law_octets ?a_law_drawn ?l_law_drawn ?c_law_drawn ?k_law_drawn ?a_law_reads ?l_law_reads ?c_law_reads ?k_law_reads ?a_law ?l_law ?c_law ?k_law ?q_DIRECTORY ?q_FILE ?q_INODE_OCTETS ?q_LINK ?n_any ?n_bool ?n_int ?n_isinstance ?n_len ?n_list ?n_min ?n_range ?n_reversed
    (case mC_Inode => k_is)
    (case pg_Inode => k_is)
    (case hd_Inode => k_is)
    (case po_Inode => k_is)
    (case sa_Inode => k_is)
    (case mk_Inode => k_is)
    (case kc_Inode => k_is)
    (case na_Inode_kind => k_is)
    (case na_Inode_links => k_is)
    (case na_Inode_size => k_is)
    (case na_Inode_height => k_is)
    (case na_Inode_root => k_is)
    (case na_Inode_parent => k_is)
    (case a_number_octets => k_is)
    (case l_number_octets => k_is)
    (case c_number_octets => k_is)
    (case k_number_octets => k_is)
    (case a_number_of => k_is)
    (case l_number_of => k_is)
    (case c_number_of => k_is)
    (case k_number_of => k_is)
    (case a_Inode___init => k_is)
    (case i_Inode___init => k_is)
    (case l_Inode___init => k_is)
    (case dl_Inode___init => k_is)
    (case c_Inode___init => k_is)
    (case k_Inode___init => k_is)
    (case a_Inode_is_directory => k_is)
    (case pg_Inode_is_directory => k_is)
    (case pt_Inode_is_directory => k_is)
    (case pc_Inode_is_directory => k_is)
    (case l_Inode_is_directory => k_is)
    (case c_Inode_is_directory => k_is)
    (case k_Inode_is_directory => k_is)
    (case a_encode_inode => k_is)
    (case l_encode_inode => k_is)
    (case c_encode_inode => k_is)
    (case k_encode_inode => k_is)
    (case a_holds_inode => k_is)
    (case l_holds_inode => k_is)
    (case c_holds_inode => k_is)
    (case k_holds_inode => k_is)
    (case a_decode_inode => k_is)
    (case l_decode_inode => k_is)
    (case c_decode_inode => k_is)
    (case k_decode_inode => k_is)
    (case a_law_row => k_is)
    (case l_law_row => k_is)
    (case c_law_row => k_is)
    (case k_law_row => k_is)
    (case a_law_is_integer => k_is)
    (case l_law_is_integer => k_is)
    (case c_law_is_integer => k_is)
    (case k_law_is_integer => k_is)
    (case a_law_is => k_is)
    (case l_law_is => k_is)
    (case c_law_is => k_is)
    (case k_law_is => k_is)
    (case a_law_fields => k_is)
    (case l_law_fields => k_is)
    (case c_law_fields => k_is)
    (case k_law_fields => k_is)
    (case a_law_octets => k_is)
    (case l_law_octets => k_is)
    (case c_law_octets => k_is)
    (case k_law_octets => k_is)
    (case a_law_drawn => k_is)
    (case l_law_drawn => k_is)
    (case c_law_drawn => k_is)
    (case k_law_drawn => k_is)
    (case a_law_reads => k_is)
    (case l_law_reads => k_is)
    (case c_law_reads => k_is)
    (case k_law_reads => k_is)
    (case a_law => k_is)
    (case l_law => k_is)
    (case c_law => k_is)
    (case k_law => k_is)
    (case q_DIRECTORY => k_is)
    (case q_FILE => k_is)
    (case q_INODE_OCTETS => k_is)
    (case q_LINK => k_is)
    (case n_any => k_is)
    (case n_bool => k_is)
    (case n_int => k_is)
    (case n_isinstance => k_is)
    (case n_len => k_is)
    (case n_list => k_is)
    (case n_min => k_is)
    (case n_range => k_is)
    (case n_reversed => k_is)

