import PyProof.Rows.All
import Wide.All
import OpenK.AllK
import Wide.FinOn
import HandS.ForMost
import HandS.IsInst
import HandS.Style
import HandS.Wide
import HandS.Codes
import HandS.NoneIn
import HandS.Defaults
import HandS.TupMul
import HandS.Zip
import HandS.SetFor
import HandS.SetKeys
import HandS.Walk
import HandS.Codes
import HandS.Property
import HandS.MakeKw
import HandS.More
import HandS.Dict
import HandS.Iter
import HandS.WordsDict
import KE.GoesEnum
import PySem.Challenge.RW_segmentfs_k35_set_blocks_of_a_tree
set_option Elab.async false
set_option maxRecDepth 100000
set_option maxHeartbeats 4000000
/-! what every text of mine begins with: heaps that grow, and a rule for each head that a reading has -/
namespace Sg
open PySem L2
theorem sz : sizeLine = 16777216 := by decide
theorem Same.of_new {H H' : Hp} {p : Addr} {o : HO} (e : upd H p o = H') (h : H p = none) : Same H H' := fun b u q => by
  rw [← e, upd_ne (ne_of_none q h)]; exact q
theorem at_new {H H' : Hp} {p : Addr} {o : HO} (e : upd H p o = H') : H' p = some o := by rw [← e]; exact upd_same
theorem Same.tup {K : PySem.W.Frag} {H H' : Hp} {a : Addr} {xs : List V} (e : Same H H') (h : SqT K H a xs) : SqT K H' a xs := by
  rcases h with (h | ⟨o, h⟩) | h
  · exact .inl (.inl (e _ _ h))
  · exact .inl (.inr ⟨o, e _ _ h⟩)
  · exact .inr h
/-- an object that is younger than H0 is changed -/
theorem Same.old {H0 H H' : Hp} {p : Addr} {o : HO} (s : Same H0 H) (h : H0 p = none) (e : upd H p o = H') : Same H0 H' := fun b u q => by
  rw [← e, upd_ne (ne_of_none q h)]; exact s _ _ q
theorem at_keep {H H' : Hp} {l a : Addr} {o o' ol : HO} (e : upd H l o' = H') (h : H a = some o) (h' : H l = some ol) (d : o ≠ ol) : H' a = some o := by
  rw [← e, upd_ne (ne_of h h' d)]; exact h
theorem lk_eq {f : Str} {v : V} {fs : List (Str × V)} : (putF f v fs).lookup f = some v := by rw [lookup_putF, if_pos rfl]
theorem lk_ne {f g : Str} {v x : V} {fs : List (Str × V)} (h : ¬ g = f) (q : fs.lookup g = some v) : (putF f x fs).lookup g = some v := by rw [lookup_putF, if_neg h]; exact q
theorem lk_no {f g : Str} {x : V} {fs : List (Str × V)} (h : ¬ g = f) (q : fs.lookup g = none) : (putF f x fs).lookup g = none := by rw [lookup_putF, if_neg h]; exact q
theorem putF_len {f : Str} {v : V} : ∀ {fs : List (Str × V)} {n : Nat}, fs.length ≤ n → (putF f v fs).length ≤ n + 1
  | [], n, _ => by simp [putF]
  | (g, x) :: r, n, h => by
    unfold putF
    split
    · simp at h ⊢; omega
    · cases n with
      | zero => simp at h
      | succ n =>
        simp at h ⊢
        exact putF_len h
theorem to_ite {A B : Prop} {b : Bool} (h1 : b = true → A) (h2 : b = false → B) : if b = true then A else B := by
  cases b with
  | true => exact iteT (h1 rfl)
  | false => exact iteF (h2 rfl)
theorem iteT' {A B : Prop} (h : A) : if (true : Bool) = true then A else B := iteT h
theorem iteF' {A B : Prop} (h : B) : if (false : Bool) = true then A else B := iteF h
theorem r_iteb {A B : Prop} {b : Bool} (hb : b = true) (h : A) : if b = true then A else B := to_ite (fun _ => h) fun z => by rw [hb] at z; cases z
theorem r_iteB {A B : Prop} {b : Bool} (hb : b = false) (h : B) : if b = true then A else B := to_ite (fun z => by rw [hb] at z; cases z) fun _ => h
theorem r_ite {A B c : Prop} [Decidable c] (h1 : c → A) (h2 : ¬ c → B) : if decide c = true then A else B :=
  to_ite (fun h => h1 (of_decide_eq_true h)) (fun h => h2 (of_decide_eq_false h))
theorem r_iteN {A B c : Prop} [Decidable c] (h1 : ¬ c → A) (h2 : c → B) : if (!decide c) = true then A else B :=
  to_ite (fun h => h1 (by simpa using h)) (fun h => h2 (by simpa using h))
theorem r_iteD {A B c : Prop} [Decidable c] (hc : c) (h : A) : if decide c = true then A else B := r_ite (fun _ => h) fun z => absurd hc z
theorem r_iteDn {A B c : Prop} [Decidable c] (hc : ¬ c) (h : B) : if decide c = true then A else B := r_ite (fun z => absurd z hc) fun _ => h
theorem r_iteND {A B c : Prop} [Decidable c] (hc : ¬ c) (h : A) : if (!decide c) = true then A else B := r_iteN (fun _ => h) fun z => absurd z hc
theorem r_iteNDn {A B c : Prop} [Decidable c] (hc : c) (h : B) : if (!decide c) = true then A else B := r_iteN (fun z => absurd hc z) fun _ => h
/-- the continuations of a reading, by name -/
def kTest (QB : Bool → Hp → Prop) : V → Hp → Prop := fun x H => ∃ k, x = .bl k ∧ QB k H
def kFld (K : PySem.W.Frag) (f : Str) (Q : V → Hp → Prop) : V → Hp → Prop := fun x H => ∃ a C dx fs v, x = .ref a ∧ H a = some (.ins C dx fs) ∧ Cls K C ∧ NoAttr K C f ∧ fs.lookup f = some v ∧ Q v H
def kSfld (K : PySem.W.Frag) (D : Ends) (σ : L2.St) (f : Str) (y : V) : V → Hp → Prop := fun x H => ∃ a C dx fs, x = .ref a ∧ H a = some (.ins C dx fs) ∧ Cls K C ∧ NoAttr K C f ∧ fs.length < 1000 ∧
  D.nx σ (upd H a (.ins C dx (putF f y fs)))
def kMeth (C : Addr) (m : Str) (sp : Sp) (dvs : List V) (E : XK) (σ : L2.St) (t : TA) (Q : V → Hp → Prop) : V → Hp → Prop := fun x H => ∃ a dx fs, x = .ref a ∧ H a = some (.ins C dx fs) ∧ fs.lookup m = none ∧ t σ H fun vs H2 => sp (x :: (vs ++ dvs)) H2 Q E
def kTup (Q : V → Hp → Prop) : List V → Hp → Prop := fun xs H => xs.length ≤ sizeLine ∧ ∀ p, H p = none → Q (.ref p) (upd H p (.tup xs))
def kLst (Q : V → Hp → Prop) : List V → Hp → Prop := fun xs H => xs.length ≤ sizeLine ∧ ∀ p, H p = none → Q (.ref p) (upd H p (.lst xs))
def rLen (K : PySem.W.Frag) : List V → Hp → (V → Hp → Prop) → Prop := fun xs H Q => ∃ p ys, xs = [.ref p] ∧ (SqL K H p ys ∨ SqT K H p ys) ∧ Q (.int ys.length) H
theorem c_len {X : Cx} : CallR X (.builtin "len") (rLen X.K) := call_len_seq
def rInt : List V → Hp → (V → Hp → Prop) → Prop := fun xs H Q => (∃ i, xs = [.int i] ∧ Q (.int i) H) ∨ ∃ k, xs = [.bl k] ∧ Q (.int (if k then 1 else 0)) H
theorem c_int {X : Cx} : CallR X (.type "int") rInt := call_int1
def rListOf (K : PySem.W.Frag) : List V → Hp → (V → Hp → Prop) → Prop := fun xs H Q => ∃ p ys, xs = [.ref p] ∧ (SqL K H p ys ∨ SqT K H p ys) ∧ ∀ l, H l = none → Q (.ref l) (upd H l (.lst ys))
theorem c_list {X : Cx} : CallR X (.type "list") (rListOf X.K) := call_list_of
def rTupOf (K : PySem.W.Frag) : List V → Hp → (V → Hp → Prop) → Prop := fun xs H Q => ∃ p ys, xs = [.ref p] ∧ ((SqL K H p ys ∧ ∀ l, H l = none → Q (.ref l) (upd H l (.tup ys))) ∨ (SqT K H p ys ∧ Q (.ref p) H))
theorem c_tuple {X : Cx} : CallR X (.type "tuple") (rTupOf X.K) := call_tuple_of
/-! the same rules within a comprehension: the written part by its own name -/
section
variable {X : Cx}
theorem c_listK (K : PySem.W.Frag) (h : X.K = K) : CallR X (.type "list") (rListOf K) := by subst h; exact c_list
theorem c_tupleK (K : PySem.W.Frag) (h : X.K = K) : CallR X (.type "tuple") (rTupOf K) := by subst h; exact c_tuple
theorem c_lenK (K : PySem.W.Frag) (h : X.K = K) : CallR X (.builtin "len") (rLen K) := by subst h; exact c_len
theorem ix_listK (K : PySem.W.Frag) (h : X.K = K) : IxR X (rIxL K) := by subst h; exact ix_list
theorem ix_tupK (K : PySem.W.Frag) (h : X.K = K) : IxR X (rIxT K) := by subst h; exact ix_tup
theorem op_in_seqK (K : PySem.W.Frag) (h : X.K = K) : OpR X (compareOp .In) (rIn K false) := by subst h; exact op_in_seq
theorem op_notIn_seqK (K : PySem.W.Frag) (h : X.K = K) : OpR X (compareOp .NotIn) (rIn K true) := by subst h; exact op_notIn_seq
theorem pe_fldK (K : PySem.W.Frag) (h : X.K = K) {e : Expr} {f : Str} {pos : Pos} {ta : TE} (he : PE X e ta) (hb : attributeBase e f X.env (eval e X.env) = eval e X.env) : PE X (.Attribute e f pos) (tFld K ta f) := by subst h; exact pe_fld he hb
end
section
variable {σ : L2.St} {H : Hp} {D : Ends} {t u : TS} {te ta tb tc : TE} {g : TG} {c ct cu : TT} {Q : VK} {QB : Bool → Hp → Prop} {QS : L2.St → Hp → Prop} {QA : List V → Hp → Prop} {v x y : V} {K : PySem.W.Frag} {a p l : Addr} {xs ys : List V} {i j : Int} {b : Bool}
theorem r_seq (h : t { D with nx := u D } σ H) : tSeq t u D σ H := h
theorem r_cut (Mid : L2.St → Hp → Prop) (h1 : t { D with nx := Mid } σ H) (h2 : ∀ σ' H', Mid σ' H' → u D σ' H') : C8.tCut t u D σ H := ⟨Mid, h1, h2⟩
/-- a test with nothing kept behind it -/
theorem r_cutS (h1 : t { D with nx := fun σ' H' => σ = σ' ∧ H = H' } σ H) (h2 : u D σ H) : C8.tCut t u D σ H := ⟨_, h1, fun _ _ ⟨e1, e2⟩ => by subst e1; subst e2; exact h2⟩
/-- .. but a heap that grew -/
theorem r_cutH (h1 : t { D with nx := fun σ' H' => σ = σ' ∧ L2.Same H H' } σ H) (h2 : ∀ H', L2.Same H H' → u D σ H') : C8.tCut t u D σ H := ⟨_, h1, fun _ _ ⟨e1, e2⟩ => by subst e1; exact h2 _ e2⟩
theorem r_asg (h : te σ H fun x H1 => g x σ H1 D.nx) : tAsg te g D σ H := h
theorem r_drop (h : te σ H fun _ H1 => D.nx σ H1) : tDrop te D σ H := h
theorem r_ret (h : te σ H D.rt) : tRet te D σ H := h
theorem r_ifs (h : c σ H fun b H1 => if b = true then t D σ H1 else u D σ H1) : tIfS c t u D σ H := h
theorem r_next (h : D.nx σ H) : tNext D σ H := h
theorem r_gname {n : Nat} (h : QS (σ.set n (some v)) H) : gName n v σ H QS := h
theorem r_gtup {n : Nat} {t : TGs} (hx : SqT K H a xs) (hl : xs.length = n) (h : t xs σ H QS) : gTup K n t (.ref a) σ H QS := ⟨a, xs, rfl, hx, hl, h⟩
theorem r_gunl {n : Nat} {t : TGs} (hx : SqL K H a xs) (hl : xs.length = n) (h : t xs σ H QS) : gUnl K n t (.ref a) σ H QS := ⟨a, xs, rfl, hx, hl, h⟩
theorem r_chain {r r' : R2} (h : ta σ H fun x H1 => tb σ H1 fun y H2 => r x y H2 fun z H3 => ∃ k, z = .bl k ∧ (if k = true then tc σ H3 fun w' H4 => r' y w' H4 Q else Q (.bl false) H3)) : tChain r r' ta tb tc σ H Q := h
theorem r_sfldL {C dx : Addr} {fs : List (Str × V)} {f : Str} (h : H a = some (.ins C dx fs)) (hc : Cls K C) (hn : NoAttr K C f) (hl : fs.length < 1000) (q : D.nx σ (upd H a (.ins C dx (putF f y fs)))) : kSfld K D σ f y (.ref a) H := ⟨a, C, dx, fs, rfl, h, hc, hn, hl, q⟩
theorem r_gmap {α : Type} {f : α → V} {y : α} {r : List α} {t : TG} {u : TGs} (h : t (f y) σ H fun σ' H' => u (List.map f r) σ' H' QS) : gCons t u (List.map f (y :: r)) σ H QS := ⟨_, _, rfl, h⟩
theorem r_gmapn {α : Type} {f : α → V} (h : QS σ H) : gNil (List.map f []) σ H QS := ⟨rfl, h⟩
theorem r_gnil (h : QS σ H) : gNil [] σ H QS := ⟨rfl, h⟩
theorem r_gcons {t : TG} {u : TGs} {r : List V} (h : t v σ H fun σ' H' => u r σ' H' QS) : gCons t u (v :: r) σ H QS := ⟨v, r, rfl, h⟩
theorem r_gsub {t : TSet} (h : ta σ H fun o H1 => tb σ H1 fun i H2 => t o i v H2 fun H3 => QS σ H3) : gSub ta tb t v σ H QS := h
theorem r_setl {k : Int} {n : Nat} {R : Hp → Prop} (h1 : H p = some (.lst xs)) (h2 : ixN xs.length k = some n) (q : R (upd H p (.lst (xs.set n v)))) : rSetL (.ref p) (.int k) v H R := ⟨p, xs, k, n, rfl, rfl, h1, h2, q⟩
theorem r_var {n : Nat} (h : σ[n]? = some (some v)) (q : Q v H) : tVar n σ H Q := ⟨v, h, q⟩
theorem r_c (q : Q v H) : tC v σ H Q := q
theorem r_op {r : R2} (h : ta σ H fun x H1 => tb σ H1 fun y H2 => r x y H2 Q) : tOp r ta tb σ H Q := h
theorem r_un {r : V → Hp → VK → Prop} (h : ta σ H fun x H1 => r x H1 Q) : tUn r ta σ H Q := h
theorem r_rI {C : Int → Int → Prop} {g : Int → Int → V} (hc : C i j) (q : Q (g i j) H) : rI C g (.int i) (.int j) H Q := ⟨i, j, rfl, rfl, hc, q⟩
theorem r_mod (hc : 0 < j) (q : ∀ z : Int, z = i % j → 0 ≤ z → z < j → Q (.int z) H) : rI (fun _ j => 0 < j) (fun i j => .int (i % j)) (.int i) (.int j) H Q :=
  ⟨i, j, rfl, rfl, hc, q _ rfl (Int.emod_nonneg i (by omega)) (Int.emod_lt_of_pos i hc)⟩
theorem r_rI0 {g : Int → Int → V} (q : Q (g i j) H) : rI0 g (.int i) (.int j) H Q := ⟨i, j, rfl, rfl, q⟩
theorem r_rU {g : Int → V} (q : Q (g i) H) : rU g (.int i) H Q := ⟨i, rfl, q⟩
theorem r_eq (hs : scal x y = true) (q : Q (.bl (decide (x = y))) H) : rEq x y H Q := ⟨hs, q⟩
theorem r_ne (hs : scal x y = true) (q : Q (.bl (!decide (x = y))) H) : rNe x y H Q := ⟨hs, q⟩
theorem r_eqi (q : Q (.bl (decide (i = j))) H) : rEq (.int i) (.int j) H Q := ⟨rfl, by
  rw [show decide (V.int i = V.int j) = decide (i = j) from by by_cases e : i = j <;> simp [e]]; exact q⟩
theorem r_nei (q : Q (.bl (!decide (i = j))) H) : rNe (.int i) (.int j) H Q := ⟨rfl, by
  rw [show decide (V.int i = V.int j) = decide (i = j) from by by_cases e : i = j <;> simp [e]]; exact q⟩
theorem r_eqs {s t : Str} (q : Q (.bl (decide (s = t))) H) : rEq (.str s) (.str t) H Q := ⟨rfl, by
  rw [show decide (V.str s = V.str t) = decide (s = t) from by by_cases e : s = t <;> simp [e]]; exact q⟩
theorem r_nes {s t : Str} (q : Q (.bl (!decide (s = t))) H) : rNe (.str s) (.str t) H Q := ⟨rfl, by
  rw [show decide (V.str s = V.str t) = decide (s = t) from by by_cases e : s = t <;> simp [e]]; exact q⟩
theorem r_adds {s t : Str} (hz : s.length + t.length ≤ 1000000) (q : Q (.str (s ++ t)) H) : (fun (x y : V) (H : Hp) (Q : VK) => ∃ i j, x = .str i ∧ y = .str j ∧ i.length + j.length ≤ sizeLine ∧ Q (.str (i ++ j)) H) (.str s) (.str t) H Q := ⟨s, t, rfl, rfl, by rw [sz]; omega, q⟩
theorem r_nonR {A B : Prop} (h : A) : if (!decide (V.ref a = V.non)) = true then A else B := iteT' h
theorem r_nonN {A B : Prop} (h : B) : if (!decide (V.non = V.non)) = true then A else B := iteF' h
theorem r_isR {A B : Prop} (h : B) : if decide (V.ref a = V.non) = true then A else B := iteF' h
theorem r_isNN {A B : Prop} (h : A) : if decide (V.non = V.non) = true then A else B := iteT' h
theorem r_nonI {A B : Prop} (h : A) : if (!decide (V.int i = V.non)) = true then A else B := iteT' h
theorem r_isI {A B : Prop} (h : B) : if decide (V.int i = V.non) = true then A else B := iteF' h
theorem r_eqb {a b : Bool} (q : Q (.bl (decide (a = b))) H) : rEq (.bl a) (.bl b) H Q := ⟨rfl, by
  rw [show decide (V.bl a = V.bl b) = decide (a = b) from by by_cases e : a = b <;> simp [e]]; exact q⟩
theorem r_isS {A B : Prop} {z : Str} (h : B) : if decide (V.str z = V.non) = true then A else B := iteF' h
theorem r_nonS {A B : Prop} {z : Str} (h : A) : if (!decide (V.str z = V.non)) = true then A else B := iteT' h
theorem r_nil (q : QA [] H) : tNil σ H QA := q
theorem r_cons {tr : TA} (h : ta σ H fun x H1 => tr σ H1 fun xs H2 => QA (x :: xs) H2) : tCons ta tr σ H QA := h
theorem r_cb {r : List V → Hp → VK → Prop} {t : TA} (h : t σ H fun vs H1 => r vs H1 Q) : tCB r t σ H Q := h
theorem r_call {sp : Sp} {dvs : List V} {E : XK} {t : TA} (h : t σ H fun vs H1 => sp (vs ++ dvs) H1 Q E) : tCall sp dvs E t σ H Q := h
theorem r_make {C : Addr} {sp : Sp} {dvs : List V} {E : XK} {t : TA} (h : t σ H fun vs H1 => ∀ x dx, H1 x = none → H1 dx = none → dx ≠ x →
  sp (.ref x :: (vs ++ dvs)) (upd (upd H1 dx (.own x)) x (.ins C dx [])) (fun v H2 => v = .non ∧ Q (.ref x) H2) E) : tMake C sp dvs E t σ H Q := h
theorem r_meth {C : Addr} {m : Str} {sp : Sp} {dvs : List V} {E : XK} {t : TA} (h : ta σ H (kMeth C m sp dvs E σ t Q)) : tMeth C m sp dvs E ta t σ H Q := h
theorem r_methL {C : Addr} {dx : Addr} {fs : List (Str × V)} {m : Str} {sp : Sp} {dvs : List V} {E : XK} {t : TA} (h : H a = some (.ins C dx fs)) (hl : fs.lookup m = none) (q : t σ H fun vs H2 => sp (.ref a :: (vs ++ dvs)) H2 Q E) : kMeth C m sp dvs E σ t Q (.ref a) H := ⟨a, dx, fs, rfl, h, hl, q⟩
theorem r_fld {f : Str} (h : ta σ H (kFld K f Q)) : tFld K ta f σ H Q := h
theorem r_fldL {C dx : Addr} {fs : List (Str × V)} {f : Str} (h : H a = some (.ins C dx fs)) (hc : Cls K C) (hn : NoAttr K C f) (hl : fs.lookup f = some v) (q : Q v H) : kFld K f Q (.ref a) H := ⟨a, C, dx, fs, v, rfl, h, hc, hn, hl, q⟩
theorem r_sfld {f : Str} (h : tb σ H fun y H1 => ta σ H1 (kSfld K D σ f y)) : sFld K ta tb f D σ H := h
theorem r_test (h : te σ H (kTest QB)) : tTest te σ H QB := h
theorem r_tB (h : te σ H (kTest QB)) : tB te σ H QB := h
theorem r_exb (q : QB b H) : kTest QB (.bl b) H := ⟨b, rfl, q⟩
theorem r_and (h : ct σ H fun c H1 => if c = true then cu σ H1 QB else QB false H1) : tAnd ct cu σ H QB := h
theorem r_or (h : ct σ H fun c H1 => if c = true then QB true H1 else cu σ H1 QB) : tOr ct cu σ H QB := h
theorem r_not (h : ct σ H fun c H1 => QB (!c) H1) : tNot ct σ H QB := h
theorem r_andV (h : ta σ H fun x H1 => ∃ c, x = .bl c ∧ if c = true then tb σ H1 Q else Q (.bl false) H1) : tAndV ta tb σ H Q := h
theorem r_orV (h : ta σ H fun x H1 => ∃ c, x = .bl c ∧ if c = true then Q (.bl true) H1 else tb σ H1 Q) : tOrV ta tb σ H Q := h
theorem r_exbP {A : Bool → Prop} (q : A b) : ∃ c, V.bl b = .bl c ∧ A c := ⟨b, rfl, q⟩
theorem r_notV (h : ta σ H fun x H1 => ∃ c, x = .bl c ∧ Q (.bl (!c)) H1) : tNotV ta σ H Q := h
theorem r_tif (h : c σ H fun b H1 => if b = true then ta σ H1 Q else tb σ H1 Q) : tIf c ta tb σ H Q := h
theorem r_isN (h : ta σ H fun x H1 => Q (.bl (decide (x = .non))) H1) : tIsN ta σ H Q := h
theorem r_notN (h : ta σ H fun x H1 => Q (.bl (!decide (x = .non))) H1) : tNotN ta σ H Q := h
theorem r_tup {t : TA} (h : t σ H (kTup Q)) : tTup t σ H Q := h
theorem r_lst {t : TA} (h : t σ H (kLst Q)) : tLst t σ H Q := h
theorem r_ktup (hl : xs.length ≤ sizeLine) (h : ∀ p, H p = none → Q (.ref p) (upd H p (.tup xs))) : kTup Q xs H := ⟨hl, h⟩
theorem r_klst (hl : xs.length ≤ sizeLine) (h : ∀ p, H p = none → Q (.ref p) (upd H p (.lst xs))) : kLst Q xs H := ⟨hl, h⟩
theorem r_ixl (h : SqL K H p xs) (e : atI xs i = some v) (q : Q v H) : rIxL K (.ref p) (.int i) H Q := ⟨p, xs, i, v, rfl, rfl, h, e, q⟩
theorem r_ixt (h : SqT K H p xs) (e : atI xs i = some v) (q : Q v H) : rIxT K (.ref p) (.int i) H Q := ⟨p, xs, i, v, rfl, rfl, h, e, q⟩
theorem r_int (q : Q (.int i) H) : rInt [V.int i] H Q := .inl ⟨i, rfl, q⟩
theorem r_lenl (h : SqL K H p xs) (q : Q (.int xs.length) H) : rLen K [V.ref p] H Q := ⟨p, xs, rfl, .inl h, q⟩
theorem r_lent (h : SqT K H p xs) (q : Q (.int xs.length) H) : rLen K [V.ref p] H Q := ⟨p, xs, rfl, .inr h, q⟩
theorem r_listl (h : SqL K H p xs) (q : ∀ l, H l = none → Q (.ref l) (upd H l (.lst xs))) : rListOf K [V.ref p] H Q := ⟨p, xs, rfl, .inl h, q⟩
theorem r_listt (h : SqT K H p xs) (q : ∀ l, H l = none → Q (.ref l) (upd H l (.lst xs))) : rListOf K [V.ref p] H Q := ⟨p, xs, rfl, .inr h, q⟩
theorem r_tupl (h : SqL K H p xs) (q : ∀ l, H l = none → Q (.ref l) (upd H l (.tup xs))) : rTupOf K [V.ref p] H Q := ⟨p, xs, rfl, .inl ⟨h, q⟩⟩
theorem r_tupt (h : SqT K H p xs) (q : Q (.ref p) H) : rTupOf K [V.ref p] H Q := ⟨p, xs, rfl, .inr ⟨h, q⟩⟩
theorem r_in {neg : Bool} (h : SqL K H p xs ∨ SqT K H p xs) (fx : flatV x = true) (fs : xs.all flatV = true) (q : Q (.bl (if neg = true then !inV x xs else inV x xs)) H) : rIn K neg x (.ref p) H Q := ⟨p, xs, rfl, h, fx, fs, q⟩
theorem r_bm {T : String} {r : V → List V → Hp → VK → Prop} {t : TA} (h : ta σ H fun x H1 => tyV K T x H1 ∧ t σ H1 fun xs H2 => r x xs H2 Q) : tBM K T r ta t σ H Q := h
theorem r_bm0 {T : String} {r : V → List V → Hp → VK → Prop} (h : ta σ H fun x H1 => tyV K T x H1 ∧ r x [] H1 Q) : tBM0 K T r ta σ H Q := h
theorem r_tyl {A : Prop} (h : SqL K H l xs) (q : A) : tyV K "list" (.ref l) H ∧ A := ⟨.inl ⟨rfl, _, h⟩, q⟩
theorem r_app (h : H l = some (.lst xs)) (hl : xs.length < sizeLine) (q : Q .non (upd H l (.lst (xs ++ [v])))) : rAppend (.ref l) [v] H Q := ⟨l, xs, v, rfl, rfl, h, hl, q⟩
theorem r_isi {c : V} {t u : Value} (hc : ClsV c u) (ht : TyX K H x t) (hk : PySem.W.kitOne K t u = some b) (q : Q (.bl b) H) : rIsi K [x, c] H Q := ⟨x, c, t, u, b, rfl, hc, ht, hk, q⟩
theorem r_isb {a b : Bool} (q : Q (.bl (decide (a = b))) H) : rIsB (.bl a) (.bl b) H Q := ⟨a, b, rfl, rfl, q⟩
theorem r_notb {a b : Bool} (q : Q (.bl (!decide (a = b))) H) : rNotB (.bl a) (.bl b) H Q := ⟨a, b, rfl, rfl, q⟩
theorem r_eqd {d e : PyData} (h1 : Dp K H x d) (h2 : Dp K H y e) (s1 : SeqAt.shaped d = true) (s2 : SeqAt.shaped e = true) (q : Q (.bl (PyData.eqv d e)) H) : rEqD K x y H Q := ⟨d, e, h1, h2, s1, s2, q⟩
theorem r_ned {d e : PyData} (h1 : Dp K H x d) (h2 : Dp K H y e) (s1 : SeqAt.shaped d = true) (s2 : SeqAt.shaped e = true) (q : Q (.bl (!PyData.eqv d e)) H) : rNeD K x y H Q := ⟨d, e, h1, h2, s1, s2, q⟩
theorem r_rep {k : Int} (h : H l = some (.lst xs)) (h1 : -(2 ^ 63) ≤ k) (h2 : k < 2 ^ 63) (hz : xs.length * k.toNat ≤ sizeLine) (q : ∀ p, H p = none → Q (.ref p) (upd H p (.lst (List.replicate k.toNat xs).flatten))) : rRep (.ref l) (.int k) H Q := ⟨l, k, xs, rfl, rfl, h, h1, h2, hz, q⟩
theorem r_rep1 {k : Int} (h : H l = some (.lst [v])) (h1 : -1000000 ≤ k) (h2 : k ≤ 1000000) (q : ∀ p, H p = none → Q (.ref p) (upd H p (.lst (List.replicate k.toNat v)))) : rRep (.ref l) (.int k) H Q := ⟨l, k, [v], rfl, rfl, h, by omega, by omega, by rw [sz]; show 1 * _ ≤ _; omega, by
  rw [show (List.replicate k.toNat [v]).flatten = List.replicate k.toNat v from by
    generalize k.toNat = n
    induction n with
    | zero => rfl
    | succ n ih => rw [List.replicate_succ, List.flatten_cons, ih, List.replicate_succ]; rfl]
  exact q⟩
theorem r_cat (h : H l = some (.lst xs)) (h' : H p = some (.lst ys)) (hz : xs.length + ys.length ≤ sizeLine) (q : ∀ r, H r = none → Q (.ref r) (upd H r (.lst (xs ++ ys)))) : rCat (.ref l) (.ref p) H Q := ⟨l, p, xs, ys, rfl, rfl, h, h', hz, q⟩
theorem r_aug {n : Nat} {ti : TIp} (h : σ[n]? = some (some x)) (q : te σ H fun y H1 => ti x y H1 fun z H2 => D.nx (σ.set n (some z)) H2) : tAug n te ti D σ H := ⟨x, h, q⟩
theorem r_ipI {f : Int → Int → Int} (q : Q (.int (f i j)) H) : ipI f (.int i) (.int j) H Q := ⟨i, j, rfl, rfl, q⟩
theorem r_sorted {ns : List Int} (h : SqL K H a (ns.map V.int)) (h64 : ns.length < 64) (q : ∀ (ns' : List Int) (p : Addr), ns'.Perm ns → ns'.Pairwise (· ≤ ·) → H p = none → Q (.ref p) (upd H p (.lst (ns'.map V.int)))) : rSorted K [.ref a] H Q := ⟨a, ns, rfl, h, h64, q⟩
end
/-! slices, texts -/
def kPart (Q : Option Int → Hp → Prop) : V → Hp → Prop := fun x H => ∃ i, x = .int i ∧ Q (some i) H
section
variable {σ : L2.St} {H : Hp} {te : TE} {tl th : TO} {Q : V → Hp → Prop} {QO : Option Int → Hp → Prop} {K : PySem.W.Frag} {a : Addr} {xs : List V} {lo hi : Option Int} {i : Int} {z : Str}
theorem r_sl {r : V → Option Int → Option Int → Hp → VK → Prop} (h : te σ H fun x H1 => tl σ H1 fun l H2 => th σ H2 fun u H3 => r x l u H3 Q) : tSl r te tl th σ H Q := h
theorem r_noP (q : QO none H) : tNoPart σ H QO := q
theorem r_part (h : te σ H (kPart QO)) : tPart te σ H QO := h
theorem r_kPart (q : QO (some i) H) : kPart QO (.int i) H := ⟨i, rfl, q⟩
theorem r_slS (hl : z.length ≤ 1000000) (q : Q (.str (cutS z lo hi)) H) : rSlS (.str z) lo hi H Q := ⟨z, rfl, by rw [sz]; omega, q⟩
theorem r_slL (h : SqL K H a xs) (q : ∀ p, H p = none → Q (.ref p) (upd H p (.lst (cutV xs lo hi)))) : rSlL K (.ref a) lo hi H Q := ⟨a, xs, rfl, h, q⟩
end
/-! loops and comprehensions -/
def kLc (g : TG) (tt : TT) (te : TE) (vs : List Nat) (σ : L2.St) (Q : V → Hp → Prop) : It → Hp → Prop := fun J H1 => ∀ D, H1 D = none → ∃ W : Nat → Nat → Hp → Prop, (∃ m, W 0 m (upd H1 D (.lst []))) ∧ ∀ i m H, W i m H →
  (J.stop i H ∧ Q (.ref D) H) ∨ (J.go i H ∧ ∃ Nx : Hp → Prop, (∀ H', Nx H' → ∃ m', m' < m ∧ W (i + 1) m' H') ∧ ∀ x H', J.yld i H x H' → g x (wipe σ vs) H' fun σ2 H2 => wipe σ2 vs = wipe σ vs ∧ tt σ2 H2 fun b H3 =>
    if b = true then te σ2 H3 fun y H4 => ∃ acc, H4 D = some (.lst acc) ∧ acc.length < sizeLine ∧ Nx (upd H4 D (.lst (acc ++ [y]))) else Nx H3)
def kR1 (R : It → Hp → Prop) : List V → Hp → Prop := fun vs H1 => ∃ j : Int, vs = [.int j] ∧ -(2 ^ 62) ≤ j ∧ j < 2 ^ 62 ∧ R (Itr 0 j.toNat) H1
def kR2 (R : It → Hp → Prop) : List V → Hp → Prop := fun vs H1 => ∃ i j : Int, vs = [.int i, .int j] ∧ (-(2 ^ 62) ≤ i ∧ i < 2 ^ 62 ∧ -(2 ^ 62) ≤ j ∧ j < 2 ^ 62) ∧ R (Itr i (j - i).toNat) H1
def kIl (K : PySem.W.Frag) (R : It → Hp → Prop) : V → Hp → Prop := fun x H1 => ∃ a, x = .ref a ∧ (∃ xs, SqL K H1 a xs) ∧ R (Itl K a) H1
def kIt (K : PySem.W.Frag) (R : It → Hp → Prop) : V → Hp → Prop := fun x H1 => ∃ a, x = .ref a ∧ (∃ xs, SqT K H1 a xs) ∧ R (Itt K a) H1
def kFor (g : TG) (tb : TS) (D : Ends) (σ : L2.St) : It → Hp → Prop := fun J H1 => ∃ W : Nat → Nat → L2.St → Hp → Prop, (∃ m, W 0 m σ H1) ∧ ∀ i m σ H, W i m σ H →
  (J.stop i H ∧ D.nx σ H) ∨ (J.go i H ∧ ∃ N : L2.St → Hp → Prop, (∀ σ' H', N σ' H' → ∃ m', m' < m ∧ W (i + 1) m' σ' H') ∧ ∀ x H', J.yld i H x H' → g x σ H' fun σ2 H2 => tb { D with nx := N, ct := N, bk := D.nx } σ2 H2)
section
variable {σ : L2.St} {H : Hp} {D : Ends} {te : TE} {ta : TA} {g : TG} {tt : TT} {tb : TS} {wi : TI} {vs : List Nat} {Q : V → Hp → Prop} {R : It → Hp → Prop} {K : PySem.W.Frag} {a : Addr} {xs : List V} {i j : Int}
theorem r_lc (h : wi σ H (kLc g tt te vs σ Q)) : tLc wi g tt te vs σ H Q := h
theorem r_for (h : wi σ H (kFor g tb D σ)) : tFor wi g tb D σ H := h
theorem r_irng1 (h : ta σ H (kR1 R)) : iRng1 ta σ H R := h
theorem r_irng2 (h : ta σ H (kR2 R)) : iRng2 ta σ H R := h
theorem r_ilist (h : te σ H (kIl K R)) : iList K te σ H R := h
theorem r_itup (h : te σ H (kIt K R)) : iTup K te σ H R := h
theorem r_kR1 (h1 : -(2 ^ 62) ≤ j) (h2 : j < 2 ^ 62) (h : R (Itr 0 j.toNat) H) : kR1 R [.int j] H := ⟨j, rfl, h1, h2, h⟩
theorem r_kR2 (h1 : -(2 ^ 62) ≤ i ∧ i < 2 ^ 62 ∧ -(2 ^ 62) ≤ j ∧ j < 2 ^ 62) (h : R (Itr i (j - i).toNat) H) : kR2 R [.int i, .int j] H := ⟨i, j, rfl, h1, h⟩
theorem r_kIl (h1 : SqL K H a xs) (h : R (Itl K a) H) : kIl K R (.ref a) H := ⟨a, rfl, ⟨_, h1⟩, h⟩
theorem r_kIt (h1 : SqT K H a xs) (h : R (Itt K a) H) : kIt K R (.ref a) H := ⟨a, rfl, ⟨_, h1⟩, h⟩
theorem r_forR {lo : Int} {n : Nat} (Pv : Nat → L2.St → Hp → Prop) (h0 : Pv 0 σ H)
    (hs : ∀ i σ H, i < n → Pv i σ H → g (.int (lo + i)) σ H fun σ2 H2 => tb { D with nx := Pv (i + 1), ct := Pv (i + 1), bk := D.nx } σ2 H2) (hd : ∀ σ H, Pv n σ H → D.nx σ H) : kFor g tb D σ (Itr lo n) H := for_range Pv h0 hs hd
theorem r_forL (Pv : Nat → L2.St → Hp → Prop) (h0 : Pv 0 σ H) (hl : ∀ i σ H, i ≤ xs.length → Pv i σ H → SqL K H a xs)
    (hs : ∀ i x σ H, xs[i]? = some x → Pv i σ H → g x σ H fun σ2 H2 => tb { D with nx := Pv (i + 1), ct := Pv (i + 1), bk := D.nx } σ2 H2) (hd : ∀ σ H, Pv xs.length σ H → D.nx σ H) : kFor g tb D σ (Itl K a) H := for_list Pv h0 hl hs hd
theorem r_forT (Pv : Nat → L2.St → Hp → Prop) (h0 : Pv 0 σ H) (hl : ∀ i σ H, i ≤ xs.length → Pv i σ H → SqT K H a xs)
    (hs : ∀ i x σ H, xs[i]? = some x → Pv i σ H → g x σ H fun σ2 H2 => tb { D with nx := Pv (i + 1), ct := Pv (i + 1), bk := D.nx } σ2 H2) (hd : ∀ σ H, Pv xs.length σ H → D.nx σ H) : kFor g tb D σ (Itt K a) H := for_tup Pv h0 hl hs hd
/-- [e for x in range], e an int -/
theorem r_lcI {lo : Int} {n slot : Nat} (P : Nat → Int → Prop) (hn : n ≤ 100000) (hv : vs = [slot])
    (hs : ∀ (i : Nat) (H' : Hp), i < n → L2.Same H H' → ∀ R : V → Hp → Prop, (∀ z : Int, P i z → R (.int z) H') → te ((wipe σ vs).set slot (some (.int (lo + i)))) H' R)
    (q : ∀ (H' : Hp) (l : Addr) (zs : List Int), L2.Same H H' → H l = none → H' l = some (.lst (zs.map V.int)) → zs.length = n → (∀ (i : Nat) (z : Int), zs[i]? = some z → P i z) → Q (.ref l) H') :
    kLc (gName slot) tYes te vs σ Q (Itr lo n) H := by
  intro L hL
  have hw : ∀ (τ : L2.St) (x : V), wipe (τ.set slot (some x)) [slot] = wipe τ [slot] := fun τ x => by simp [wipe, List.set_set]
  have hw2 : wipe (wipe σ vs) vs = wipe σ vs := by subst hv; simp [wipe, List.set_set]
  refine lc_range (fun i H' => ∃ zs : List Int, zs.length = i ∧ H' L = some (.lst (zs.map V.int)) ∧ L2.Same H H' ∧ ∀ (k : Nat) (z : Int), zs[k]? = some z → P k z) ⟨[], rfl, upd_same, fun b o e => by rw [upd_ne (ne_of_none e hL)]; exact e, fun k z e => by simp at e⟩ ?_ ?_
  · rintro i H' hi ⟨zs, el, eL, s, hp⟩
    refine ⟨?_, ?_⟩
    · subst hv
      rw [hw]
      exact hw2
    · show te ((wipe σ vs).set slot (some (.int (lo + i)))) H' _
      refine hs i H' hi s _ fun z hz => ⟨_, eL, ?_, zs ++ [z], ?_, ?_, ?_, ?_⟩
      · rw [List.length_map, el]
        exact Nat.lt_of_lt_of_le (Nat.lt_of_lt_of_le hi hn) (by decide)
      · rw [List.length_append, el]; rfl
      · rw [upd_same, List.map_append]; rfl
      · intro b o e
        rw [upd_ne (ne_of_none e hL)]
        exact s _ _ e
      · intro k y e
        rw [List.getElem?_append] at e
        split at e
        · exact hp k y e
        · rename_i hk
          have ek : k = zs.length := by
            have := (List.getElem?_eq_some_iff.mp e).1
            simp at this
            omega
          subst ek
          simp at e
          rw [el, ← e]
          exact hz
  · rintro H' ⟨zs, el, eL, s, hp⟩
    exact q H' L zs s hL eL el hp
end
/-! named readings for texts, the lesser and the greater of two -/
def rLenS : List V → Hp → VK → Prop := fun xs H Q => ∃ z, xs = [.str z] ∧ z.length ≤ sizeLine ∧ Q (.int z.length) H
theorem c_lenS {X : Cx} : CallR X (.builtin "len") rLenS := call_len_str
def rMin2 : List V → Hp → VK → Prop := fun xs H Q => ∃ i j, xs = [.int i, .int j] ∧ Q (.int (if j < i then j else i)) H
theorem c_min2 {X : Cx} (hc : X.calm = true) : CallR X (.builtin "min") rMin2 := call_min2 hc
def rMax2 : List V → Hp → VK → Prop := fun xs H Q => ∃ i j, xs = [.int i, .int j] ∧ Q (.int (if j > i then j else i)) H
theorem c_max2 {X : Cx} (hc : X.calm = true) : CallR X (.builtin "max") rMax2 := call_max2 hc
def rAddT : R2 := fun x y H Q => ∃ i j, x = .str i ∧ y = .str j ∧ i.length + j.length ≤ sizeLine ∧ Q (.str (i ++ j)) H
theorem op_addT {X : Cx} : OpR X (binaryOp .Add) rAddT := op_add_str
section
variable {H : Hp} {Q : V → Hp → Prop} {z y : Str} {i j : Int}
theorem r_lenS (hl : z.length ≤ 1000000) (q : Q (.int z.length) H) : rLenS [.str z] H Q := ⟨z, rfl, by rw [sz]; omega, q⟩
theorem r_min2 (q : ∀ m : Int, m ≤ i → m ≤ j → m = i ∨ m = j → Q (.int m) H) : rMin2 [.int i, .int j] H Q := ⟨i, j, rfl, by split <;> exact q _ (by omega) (by omega) (by omega)⟩
theorem r_max2 (q : ∀ m : Int, i ≤ m → j ≤ m → m = i ∨ m = j → Q (.int m) H) : rMax2 [.int i, .int j] H Q := ⟨i, j, rfl, by split <;> exact q _ (by omega) (by omega) (by omega)⟩
theorem r_addT (hl : z.length + y.length ≤ 1000000) (q : Q (.str (z ++ y)) H) : rAddT (.str z) (.str y) H Q := ⟨z, y, rfl, rfl, by rw [sz]; omega, q⟩
end
def kIstr (R : It → Hp → Prop) : V → Hp → Prop := fun x H1 => ∃ z, x = .str z ∧ R (Its z) H1
theorem r_istr {te : TE} {σ : L2.St} {H : Hp} {R : It → Hp → Prop} (h : te σ H (kIstr R)) : iStr te σ H R := h
theorem r_kIs {z : Str} {H : Hp} {R : It → Hp → Prop} (h : R (Its z) H) : kIstr R (.str z) H := ⟨z, rfl, h⟩
end Sg
/-! data behind values, as the heap grows -/
namespace Sg
open PySem L2
mutual
theorem Dp.mono {K : PySem.W.Frag} {H H' : Hp} (s : L2.Same H H') : ∀ (d : PyData) (v : V), Dp K H v d → Dp K H' v d
  | .none, _, h => by cases h; exact .non
  | .bool b, _, h => by cases h; exact .bl b
  | .int i, _, h => by cases h; exact .int i
  | .str x, _, h => by cases h; exact .str x
  | .list ds, _, h => by
    cases h with
    | lst hs ha => exact .lst (L2.Same.seq s hs) (DpAll.mono s ds _ ha)
  | .tuple ds, _, h => by
    cases h with
    | tup hs ha => exact .tup (Sg.Same.tup s hs) (DpAll.mono s ds _ ha)
  | .dict _, _, h => by cases h
theorem DpAll.mono {K : PySem.W.Frag} {H H' : Hp} (s : L2.Same H H') : ∀ (ds : List PyData) (vs : List V), DpAll K H vs ds → DpAll K H' vs ds
  | [], _, h => by cases h; exact .nil
  | d :: ds, _, h => by
    cases h with
    | cons h1 h2 => exact .cons (Dp.mono s d _ h1) (DpAll.mono s ds _ h2)
end
theorem DpAll.ints {K : PySem.W.Frag} {H : Hp} : ∀ ns : List Int, DpAll K H (ns.map V.int) (ns.map PyData.int)
  | [] => .nil
  | n :: ns => .cons (.int n) (DpAll.ints ns)
theorem DpAll.at {K : PySem.W.Frag} {H : Hp} : ∀ {vs : List V} {ds : List PyData}, DpAll K H vs ds → ∀ (i : Nat) (v : V), vs[i]? = some v → ∃ d, ds[i]? = some d ∧ Dp K H v d
  | _, _, .nil, i, v, e => by simp at e
  | _, _, .cons h t, 0, v, e => by simp at e; subst e; exact ⟨_, rfl, h⟩
  | _, _, .cons h t, i + 1, v, e => by
    obtain ⟨d, e1, h1⟩ := DpAll.at t i v (by simpa using e)
    exact ⟨d, by simpa using e1, h1⟩
theorem DpAll.length {K : PySem.W.Frag} {H : Hp} : ∀ {vs : List V} {ds : List PyData}, DpAll K H vs ds → vs.length = ds.length
  | _, _, .nil => rfl
  | _, _, .cons _ t => by simp [DpAll.length t]
/-- data that can be compared, at most n deep -/
def Fl (n : Nat) (d : PyData) : Prop := d.canLay0 = true ∧ d.depth ≤ n
theorem Fl.int (i : Int) (n : Nat) : Fl n (.int i) := ⟨by simp [PyData.canLay0], by simp [PyData.depth]⟩
theorem Fl.non (n : Nat) : Fl n .none := ⟨by simp [PyData.canLay0], by simp [PyData.depth]⟩
theorem Fl.bool (b : Bool) (n : Nat) : Fl n (.bool b) := ⟨by simp [PyData.canLay0], by simp [PyData.depth]⟩
theorem Fl.all {n : Nat} : ∀ {ds : List PyData}, (∀ d ∈ ds, Fl n d) → PyData.canLayAll0 ds = true ∧ PyData.depthAll ds ≤ n
  | [], _ => ⟨by simp [PyData.canLayAll0], by simp [PyData.depthAll]⟩
  | d :: ds, h => by
    obtain ⟨h1, h2⟩ := h d List.mem_cons_self
    obtain ⟨h3, h4⟩ := Fl.all (ds := ds) fun x hx => h x (List.mem_cons_of_mem _ hx)
    refine ⟨by simp [PyData.canLayAll0, h1, h3], ?_⟩
    simp only [PyData.depthAll]
    exact Nat.max_le.mpr ⟨h2, h4⟩
theorem Fl.tup {n : Nat} {ds : List PyData} (h : ∀ d ∈ ds, Fl n d) : Fl (n + 1) (.tuple ds) := by
  obtain ⟨h1, h2⟩ := Fl.all h
  exact ⟨by simp [PyData.canLay0, h1], by simp only [PyData.depth]; omega⟩
theorem Fl.lst {n : Nat} {ds : List PyData} (h : ∀ d ∈ ds, Fl n d) : Fl (n + 1) (.list ds) := by
  obtain ⟨h1, h2⟩ := Fl.all h
  exact ⟨by simp [PyData.canLay0, h1], by simp only [PyData.depth]; omega⟩
theorem Fl.mono {n m : Nat} {d : PyData} (h : Fl n d) (hm : n ≤ m) : Fl m d := ⟨h.1, Nat.le_trans h.2 hm⟩
theorem Fl.ints (ns : List Int) : Fl 1 (.tuple (ns.map PyData.int)) := Fl.tup fun d hd => by
  obtain ⟨i, _, rfl⟩ := List.mem_map.mp hd
  exact Fl.int i 0
theorem Fl.intl (ns : List Int) : Fl 1 (.list (ns.map PyData.int)) := Fl.lst fun d hd => by
  obtain ⟨i, _, rfl⟩ := List.mem_map.mp hd
  exact Fl.int i 0
theorem Fl.nil {n : Nat} : ∀ d ∈ ([] : List PyData), Fl n d := fun d h => by cases h
theorem Fl.cons {n : Nat} {d : PyData} {ds : List PyData} (h : Fl n d) (t : ∀ x ∈ ds, Fl n x) : ∀ x ∈ d :: ds, Fl n x := fun x hx => by
  rcases List.mem_cons.mp hx with rfl | hx
  · exact h
  · exact t x hx
theorem Fl.mapi {n : Nat} {ns : List Int} : ∀ d ∈ ns.map PyData.int, Fl n d := fun d hd => by
  obtain ⟨i, _, rfl⟩ := List.mem_map.mp hd
  exact Fl.int i n
theorem Fl.shaped {n : Nat} {d : PyData} (h : Fl n d) (hn : n ≤ 64 := by decide) : SeqAt.shaped d = true := by
  unfold SeqAt.shaped
  rw [h.1, decide_eq_true (Nat.le_trans h.2 hn)]
  rfl
theorem Fl.self {n : Nat} {d : PyData} (h : Fl n d) : PyData.eqv d d = true := SeqAt.eqv_refl d h.1
/-! lists of ints -/
theorem ixN_ok {n : Nat} {k : Int} (h0 : 0 ≤ k) (h1 : k < n) : ixN n k = some k.toNat := by unfold ixN; rw [if_pos h0, if_pos h1]
theorem at_ints {ts : List Int} {k : Int} (h0 : 0 ≤ k) (h1 : k < ts.length) : atI (ts.map V.int) k = some (.int (ts.getD k.toNat 0)) := by
  obtain ⟨n, rfl⟩ := Int.eq_ofNat_of_zero_le h0
  have hn : n < ts.length := by omega
  refine atI_nat ?_
  rw [List.getElem?_map, List.getElem?_eq_getElem hn, List.getD_eq_getElem?_getD, Int.toNat_natCast, List.getElem?_eq_getElem hn]
  rfl
theorem rep_ints (n : Nat) (z : Int) : (List.replicate n [V.int z]).flatten = (List.replicate n z).map V.int := by
  induction n with
  | zero => rfl
  | succ n ih => rw [List.replicate_succ, List.flatten_cons, ih, List.replicate_succ, List.map_cons]; rfl
theorem set_ints (ts : List Int) (n : Nat) (z : Int) : (ts.map V.int).set n (.int z) = (ts.set n z).map V.int := by rw [List.map_set]
theorem eqv_ints {as bs : List Int} : PyData.eqv (.list (as.map PyData.int)) (.list (bs.map PyData.int)) = decide (as = bs) := by
  rw [PyData.eqv]
  induction as generalizing bs with
  | nil => cases bs <;> simp [PyData.eqvAll]
  | cons a as ih =>
    cases bs with
    | nil => simp [PyData.eqvAll]
    | cons b bs =>
      rw [List.map_cons, List.map_cons, PyData.eqvAll, ih, PyData.eqv]
      by_cases e : a = b
      · subst e; simp
      · simp [e]
theorem Dp.ints {K : PySem.W.Frag} {H : Hp} {a : Addr} {ns : List Int} (h : SqL K H a (ns.map V.int)) : Dp K H (.ref a) (.list (ns.map PyData.int)) := .lst h (DpAll.ints ns)
theorem Fl.intlS (ns : List Int) : SeqAt.shaped (.list (ns.map PyData.int)) = true := (Fl.intl ns).shaped
/-! a comprehension over a list, its items anything -/
/-- the heap without the list that grows -/
def hid (D : Addr) (H : Hp) : Hp := fun b => if b = D then none else H b
theorem hid_ne {D b : Addr} {H : Hp} (h : b ≠ D) : hid D H b = H b := by unfold hid; rw [if_neg h]
theorem hid_at {D : Addr} {H : Hp} : hid D H D = none := by unfold hid; rw [if_pos rfl]
theorem hid_same {D : Addr} {H : Hp} : L2.Same (hid D H) H := fun b o e => by
  by_cases hb : b = D
  · rw [hb, hid_at] at e; cases e
  · rw [hid_ne hb] at e; exact e
theorem of_hid {D b : Addr} {H : Hp} {o : HO} (e : hid D H b = some o) : b ≠ D ∧ H b = some o := by
  by_cases hb : b = D
  · rw [hb, hid_at] at e; cases e
  · rw [hid_ne hb] at e; exact ⟨hb, e⟩
theorem same_hid {D : Addr} {H H' : Hp} (s : L2.Same H H') (n : H D = none) : L2.Same H (hid D H') := fun b o e => by
  rw [hid_ne (ne_of_none e n)]; exact s _ _ e
theorem hid_upd {D : Addr} {H : Hp} {o : HO} : hid D (upd H D o) = hid D H := by
  funext b
  by_cases hb : b = D
  · rw [hb, hid_at, hid_at]
  · rw [hid_ne hb, hid_ne hb, upd_ne hb]
theorem hid_none {D : Addr} {H : Hp} (n : H D = none) : hid D H = H := by
  funext b
  by_cases hb : b = D
  · rw [hb, hid_at, n]
  · rw [hid_ne hb]
theorem r_lcL {K : PySem.W.Frag} {a : Addr} {xs : List V} {slot : Nat} {vs : List Nat} {te : TE} {σ : L2.St} {H : Hp} {Q : V → Hp → Prop} (P : Nat → List V → Hp → Prop) (hx : SqL K H a xs) (hn : xs.length ≤ 100000) (hv : vs = [slot])
    (h0 : P 0 [] H)
    (hs : ∀ (i : Nat) (x : V) (acc : List V) (H0 H' : Hp), xs[i]? = some x → L2.Same H H0 → P i acc H0 → L2.Same H0 H' → ∀ R : V → Hp → Prop,
      (∀ (v : V) (H'' : Hp), L2.Same H' H'' → (∀ D, H0 D = none → H' D ≠ none → P (i + 1) (acc ++ [v]) (hid D H'')) → R v H'') → te ((wipe σ vs).set slot (some x)) H' R)
    (q : ∀ (H' : Hp) (l : Addr) (acc : List V), L2.Same H H' → H l = none → H' l = some (.lst acc) → acc.length = xs.length → P xs.length acc (hid l H') → Q (.ref l) H') :
    kLc (gName slot) tYes te vs σ Q (Itl K a) H := by
  intro L hL
  have hw : ∀ (τ : L2.St) (x : V), wipe (τ.set slot (some x)) [slot] = wipe τ [slot] := fun τ x => by simp [wipe, List.set_set]
  have hw2 : wipe (wipe σ vs) vs = wipe σ vs := by subst hv; simp [wipe, List.set_set]
  refine lc_list (xs := xs) (fun i H' => ∃ acc : List V, acc.length = i ∧ H' L = some (.lst acc) ∧ L2.Same H H' ∧ P i acc (hid L H')) ⟨[], rfl, upd_same, fun b o e => by rw [upd_ne (ne_of_none e hL)]; exact e, by rw [hid_upd, hid_none hL]; exact h0⟩ ?_ ?_ ?_
  · rintro i H' hi ⟨acc, _, _, s, _⟩
    exact s.seq hx
  · rintro i x H' hi ⟨acc, el, eL, s, hp⟩
    refine ⟨?_, ?_⟩
    · subst hv
      rw [hw]
      exact hw2
    · show te ((wipe σ vs).set slot (some x)) H' _
      refine hs i x acc (hid L H') H' hi (same_hid s hL) hp hid_same _ fun v H'' s2 hP => ⟨acc, s2 _ _ eL, ?_, acc ++ [v], ?_, upd_same, ?_, ?_⟩
      · have := (List.getElem?_eq_some_iff.mp hi).1
        rw [el, sz]
        omega
      · rw [List.length_append, el]; rfl
      · intro b o e
        rw [upd_ne (ne_of_none e hL)]
        exact s2 _ _ (s _ _ e)
      · rw [hid_upd]
        exact hP L hid_at (by rw [eL]; intro z; cases z)
  · rintro H' ⟨acc, el, eL, s, hp⟩
    exact q H' L acc s hL eL el hp
end Sg
namespace Sg
open PySem L2
def top (i : Nat) : Stmt := PySem.Challenge.pw_segmentfs_k35_set_blocks_of_a_tree.main.body.getD i (.Pass ⟨0, 0, 0, 0⟩)
abbrev s_least_height : Stmt := top 4
abbrev s_span_of : Stmt := top 5
abbrev s_block_id : Stmt := top 6
abbrev s_set_block : Stmt := top 7
abbrev s_raise_tree : Stmt := top 8
abbrev s_way_to : Stmt := top 9
abbrev s_put_new : Stmt := top 10
abbrev s_index_of : Stmt := top 11
abbrev s_set_item : Stmt := top 12
abbrev s_Layout___init : Stmt := inClass (top 19) 0
abbrev s_parts_of : Stmt := top 20
abbrev s_PlainFile___init : Stmt := inClass (top 22) 0
abbrev s_Store___init : Stmt := inClass (top 24) 0
abbrev s_Store_get : Stmt := inClass (top 24) 1
abbrev s_Store_put : Stmt := inClass (top 24) 2
abbrev s_Store_new_id : Stmt := inClass (top 24) 4
abbrev s_Store_block_count : Stmt := inClass (top 24) 6
abbrev s_law_row : Stmt := top 26
abbrev s_law_is_integer : Stmt := top 27
abbrev s_law_layout : Stmt := top 28
abbrev s_law_power : Stmt := top 29
abbrev s_law_height : Stmt := top 30
abbrev s_law_take : Stmt := top 31
abbrev s_law_set : Stmt := top 32
abbrev s_law_payload : Stmt := top 33
abbrev s_law_same : Stmt := top 34
abbrev s_law_number : Stmt := top 35
abbrev s_law_octets : Stmt := top 36
abbrev s_law : Stmt := top 37
abbrev n_least_height : List Str := ["layout", "number", "height", "span"]
theorem sc_least_height : FnScope n_least_height ["layout", "number"] (defScope s_least_height) := ⟨rfl, rfl, rfl, by decide +kernel, rfl, by decide +kernel, by decide +kernel⟩
abbrev n_span_of : List Str := ["layout", "height", "span", "_"]
theorem sc_span_of : FnScope n_span_of ["layout", "height"] (defScope s_span_of) := ⟨rfl, rfl, rfl, by decide +kernel, rfl, by decide +kernel, by decide +kernel⟩
abbrev n_block_id : List Str := ["store", "file", "number", "span", "ident", "rest"]
theorem sc_block_id : FnScope n_block_id ["store", "file", "number"] (defScope s_block_id) := ⟨rfl, rfl, rfl, by decide +kernel, rfl, by decide +kernel, by decide +kernel⟩
abbrev n_set_block : List Str := ["store", "file", "number", "octets", "payload", "ident", "below", "parent", "item"]
theorem sc_set_block : FnScope n_set_block ["store", "file", "number", "octets"] (defScope s_set_block) := ⟨rfl, rfl, rfl, by decide +kernel, rfl, by decide +kernel, by decide +kernel⟩
abbrev n_raise_tree : List Str := ["store", "file", "height"]
theorem sc_raise_tree : FnScope n_raise_tree ["store", "file", "height"] (defScope s_raise_tree) := ⟨rfl, rfl, rfl, by decide +kernel, rfl, by decide +kernel, by decide +kernel⟩
abbrev n_way_to : List Str := ["store", "file", "number", "way", "ident", "span", "rest", "item"]
theorem sc_way_to : FnScope n_way_to ["store", "file", "number"] (defScope s_way_to) := ⟨rfl, rfl, rfl, by decide +kernel, rfl, by decide +kernel, by decide +kernel⟩
abbrev n_put_new : List Str := ["store", "payload", "ident"]
theorem sc_put_new : FnScope n_put_new ["store", "payload"] (defScope s_put_new) := ⟨rfl, rfl, rfl, by decide +kernel, rfl, by decide +kernel, by decide +kernel⟩
abbrev n_index_of : List Str := ["layout", "item", "below", "items"]
theorem sc_index_of : FnScope n_index_of ["layout", "item", "below"] (defScope s_index_of) := ⟨rfl, rfl, rfl, by decide +kernel, rfl, by decide +kernel, by decide +kernel⟩
abbrev n_set_item : List Str := ["store", "ident", "item", "below", "items"]
theorem sc_set_item : FnScope n_set_item ["store", "ident", "item", "below"] (defScope s_set_item) := ⟨rfl, rfl, rfl, by decide +kernel, rfl, by decide +kernel, by decide +kernel⟩
abbrev n_Layout___init : List Str := ["self", "segments", "segment_blocks", "block_size"]
theorem sc_Layout___init : FnScope n_Layout___init ["self", "segments", "segment_blocks", "block_size"] (defScope s_Layout___init) := ⟨rfl, rfl, rfl, by decide +kernel, rfl, by decide +kernel, by decide +kernel⟩
abbrev n_parts_of : List Str := ["number", "size"]
theorem sc_parts_of : FnScope n_parts_of ["number", "size"] (defScope s_parts_of) := ⟨rfl, rfl, rfl, by decide +kernel, rfl, by decide +kernel, by decide +kernel⟩
abbrev n_PlainFile___init : List Str := ["self", "size", "height", "root"]
theorem sc_PlainFile___init : FnScope n_PlainFile___init ["self", "size", "height", "root"] (defScope s_PlainFile___init) := ⟨rfl, rfl, rfl, by decide +kernel, rfl, by decide +kernel, by decide +kernel⟩
abbrev n_Store___init : List Str := ["self", "layout", "blocks"]
theorem sc_Store___init : FnScope n_Store___init ["self", "layout", "blocks"] (defScope s_Store___init) := ⟨rfl, rfl, rfl, by decide +kernel, rfl, by decide +kernel, by decide +kernel⟩
abbrev n_Store_get : List Str := ["self", "ident"]
theorem sc_Store_get : FnScope n_Store_get ["self", "ident"] (defScope s_Store_get) := ⟨rfl, rfl, rfl, by decide +kernel, rfl, by decide +kernel, by decide +kernel⟩
abbrev n_Store_put : List Str := ["self", "ident", "payload"]
theorem sc_Store_put : FnScope n_Store_put ["self", "ident", "payload"] (defScope s_Store_put) := ⟨rfl, rfl, rfl, by decide +kernel, rfl, by decide +kernel, by decide +kernel⟩
abbrev n_Store_new_id : List Str := ["self"]
theorem sc_Store_new_id : FnScope n_Store_new_id ["self"] (defScope s_Store_new_id) := ⟨rfl, rfl, rfl, by decide +kernel, rfl, by decide +kernel, by decide +kernel⟩
abbrev n_Store_block_count : List Str := ["self"]
theorem sc_Store_block_count : FnScope n_Store_block_count ["self"] (defScope s_Store_block_count) := ⟨rfl, rfl, rfl, by decide +kernel, rfl, by decide +kernel, by decide +kernel⟩
abbrev n_law_row : List Str := ["script", "k", "cell", "low", "high"]
theorem sc_law_row : FnScope n_law_row ["script", "k"] (defScope s_law_row) := ⟨rfl, rfl, rfl, by decide +kernel, rfl, by decide +kernel, by decide +kernel⟩
abbrev n_law_is_integer : List Str := ["actual"]
theorem sc_law_is_integer : FnScope n_law_is_integer ["actual"] (defScope s_law_is_integer) := ⟨rfl, rfl, rfl, by decide +kernel, rfl, by decide +kernel, by decide +kernel⟩
abbrev n_law_layout : List Str := ["number", "menu", "sizes"]
theorem sc_law_layout : FnScope n_law_layout ["number"] (defScope s_law_layout) := ⟨rfl, rfl, rfl, by decide +kernel, rfl, by decide +kernel, by decide +kernel⟩
abbrev n_law_power : List Str := ["fan", "level", "power", "k"]
theorem sc_law_power : FnScope n_law_power ["fan", "level"] (defScope s_law_power) := ⟨rfl, rfl, rfl, by decide +kernel, rfl, by decide +kernel, by decide +kernel⟩
abbrev n_law_height : List Str := ["fan", "number", "height", "k"]
theorem sc_law_height : FnScope n_law_height ["fan", "number"] (defScope s_law_height) := ⟨rfl, rfl, rfl, by decide +kernel, rfl, by decide +kernel, by decide +kernel⟩
abbrev n_law_take : List Str := ["cells", "used", "key", "ident", "k"]
theorem sc_law_take : FnScope n_law_take ["cells", "used", "key"] (defScope s_law_take) := ⟨rfl, rfl, rfl, by decide +kernel, rfl, by decide +kernel, by decide +kernel⟩
abbrev n_law_set : List Str := ["cells", "used", "data", "tree", "number", "octets", "height", "level", "key"]
theorem sc_law_set : FnScope n_law_set ["cells", "used", "data", "tree", "number", "octets"] (defScope s_law_set) := ⟨rfl, rfl, rfl, by decide +kernel, rfl, by decide +kernel, by decide +kernel⟩
abbrev n_law_payload : List Str := ["cells", "data", "fan", "key", "slot"]
theorem sc_law_payload : FnScope n_law_payload ["cells", "data", "fan", "key"] (defScope s_law_payload) := ⟨rfl, rfl, rfl, by decide +kernel, rfl, by decide +kernel, by decide +kernel⟩
abbrev n_law_same : List Str := ["store", "file", "cells", "used", "data", "tree", "key"]
theorem sc_law_same : FnScope n_law_same ["store", "file", "cells", "used", "data", "tree"] (defScope s_law_same) := ⟨rfl, rfl, rfl, by decide +kernel, rfl, by decide +kernel, by decide +kernel⟩
abbrev n_law_number : List Str := ["number", "fan", "data", "rest"]
theorem sc_law_number : FnScope n_law_number ["number", "fan", "data"] (defScope s_law_number) := ⟨rfl, rfl, rfl, by decide +kernel, rfl, by decide +kernel, by decide +kernel⟩
abbrev n_law_octets : List Str := ["number", "size"]
theorem sc_law_octets : FnScope n_law_octets ["number", "size"] (defScope s_law_octets) := ⟨rfl, rfl, rfl, by decide +kernel, rfl, by decide +kernel, by decide +kernel⟩
abbrev n_law : List Str := ["script", "number", "layout", "foreign", "used", "k", "ident", "store", "size", "file", "cells", "data", "tree", "place", "octets", "passed"]
theorem sc_law : FnScope n_law ["script"] (defScope s_law) := ⟨rfl, rfl, rfl, by decide +kernel, rfl, by decide +kernel, by decide +kernel⟩
structure Txt (K : PySem.W.Frag) (mg : Str → Option Value) where
  a_least_height : Addr
  fd_least_height : FuncData
  a_span_of : Addr
  fd_span_of : FuncData
  a_block_id : Addr
  fd_block_id : FuncData
  a_set_block : Addr
  fd_set_block : FuncData
  a_raise_tree : Addr
  fd_raise_tree : FuncData
  a_way_to : Addr
  fd_way_to : FuncData
  a_put_new : Addr
  fd_put_new : FuncData
  a_index_of : Addr
  fd_index_of : FuncData
  a_set_item : Addr
  fd_set_item : FuncData
  a_Layout___init : Addr
  fd_Layout___init : FuncData
  a_parts_of : Addr
  fd_parts_of : FuncData
  a_PlainFile___init : Addr
  fd_PlainFile___init : FuncData
  a_Store___init : Addr
  fd_Store___init : FuncData
  a_Store_get : Addr
  fd_Store_get : FuncData
  a_Store_put : Addr
  fd_Store_put : FuncData
  a_Store_new_id : Addr
  fd_Store_new_id : FuncData
  a_Store_block_count : Addr
  fd_Store_block_count : FuncData
  a_law_row : Addr
  fd_law_row : FuncData
  a_law_is_integer : Addr
  fd_law_is_integer : FuncData
  a_law_layout : Addr
  fd_law_layout : FuncData
  a_law_power : Addr
  fd_law_power : FuncData
  a_law_height : Addr
  fd_law_height : FuncData
  a_law_take : Addr
  fd_law_take : FuncData
  a_law_set : Addr
  fd_law_set : FuncData
  a_law_payload : Addr
  fd_law_payload : FuncData
  a_law_same : Addr
  fd_law_same : FuncData
  a_law_number : Addr
  fd_law_number : FuncData
  a_law_octets : Addr
  fd_law_octets : FuncData
  a_law : Addr
  fd_law : FuncData
  A_Layout : Addr
  A_PlainFile : Addr
  A_Store : Addr
  a_BLOCK_SIZES : Addr
  t_DATA : Tok
  t_NODE : Tok
  t_SUMMARY_HEAD : Tok
  F_least_height : Fun K "least_height" "least_height" s_least_height a_least_height fd_least_height
  b_least_height : Binds K fd_least_height ["layout", "number"] []
  m_least_height : mg "least_height" = some (.ref a_least_height)
  F_span_of : Fun K "span_of" "span_of" s_span_of a_span_of fd_span_of
  b_span_of : Binds K fd_span_of ["layout", "height"] []
  m_span_of : mg "span_of" = some (.ref a_span_of)
  F_block_id : Fun K "block_id" "block_id" s_block_id a_block_id fd_block_id
  b_block_id : Binds K fd_block_id ["store", "file", "number"] []
  m_block_id : mg "block_id" = some (.ref a_block_id)
  F_set_block : Fun K "set_block" "set_block" s_set_block a_set_block fd_set_block
  b_set_block : Binds K fd_set_block ["store", "file", "number", "octets"] []
  m_set_block : mg "set_block" = some (.ref a_set_block)
  F_raise_tree : Fun K "_raise_tree" "_raise_tree" s_raise_tree a_raise_tree fd_raise_tree
  b_raise_tree : Binds K fd_raise_tree ["store", "file", "height"] []
  m_raise_tree : mg "_raise_tree" = some (.ref a_raise_tree)
  F_way_to : Fun K "_way_to" "_way_to" s_way_to a_way_to fd_way_to
  b_way_to : Binds K fd_way_to ["store", "file", "number"] []
  m_way_to : mg "_way_to" = some (.ref a_way_to)
  F_put_new : Fun K "_put_new" "_put_new" s_put_new a_put_new fd_put_new
  b_put_new : Binds K fd_put_new ["store", "payload"] []
  m_put_new : mg "_put_new" = some (.ref a_put_new)
  F_index_of : Fun K "_index_of" "_index_of" s_index_of a_index_of fd_index_of
  b_index_of : Binds K fd_index_of ["layout", "item", "below"] []
  m_index_of : mg "_index_of" = some (.ref a_index_of)
  F_set_item : Fun K "_set_item" "_set_item" s_set_item a_set_item fd_set_item
  b_set_item : Binds K fd_set_item ["store", "ident", "item", "below"] []
  m_set_item : mg "_set_item" = some (.ref a_set_item)
  F_Layout___init : Fun K "__init__" "Layout.__init__" s_Layout___init a_Layout___init fd_Layout___init
  b_Layout___init : Binds K fd_Layout___init ["self", "segments", "segment_blocks", "block_size"] []
  F_parts_of : Fun K "parts_of" "parts_of" s_parts_of a_parts_of fd_parts_of
  b_parts_of : Binds K fd_parts_of ["number", "size"] []
  m_parts_of : mg "parts_of" = some (.ref a_parts_of)
  F_PlainFile___init : FunD K "__init__" "PlainFile.__init__" (defArgs s_PlainFile___init) (defBody s_PlainFile___init) (defScope s_PlainFile___init) [V.int 0, V.int 0, V.int 0] [] a_PlainFile___init fd_PlainFile___init
  b_PlainFile___init : Binds K fd_PlainFile___init ["self", "size", "height", "root"] []
  F_Store___init : Fun K "__init__" "Store.__init__" s_Store___init a_Store___init fd_Store___init
  b_Store___init : Binds K fd_Store___init ["self", "layout", "blocks"] []
  F_Store_get : Fun K "get" "Store.get" s_Store_get a_Store_get fd_Store_get
  b_Store_get : Binds K fd_Store_get ["self", "ident"] []
  me_Store_get : Meth K A_Store "get" a_Store_get
  F_Store_put : Fun K "put" "Store.put" s_Store_put a_Store_put fd_Store_put
  b_Store_put : Binds K fd_Store_put ["self", "ident", "payload"] []
  me_Store_put : Meth K A_Store "put" a_Store_put
  F_Store_new_id : Fun K "new_id" "Store.new_id" s_Store_new_id a_Store_new_id fd_Store_new_id
  b_Store_new_id : Binds K fd_Store_new_id ["self"] []
  me_Store_new_id : Meth K A_Store "new_id" a_Store_new_id
  F_Store_block_count : Fun K "block_count" "Store.block_count" s_Store_block_count a_Store_block_count fd_Store_block_count
  b_Store_block_count : Binds K fd_Store_block_count ["self"] []
  p_Store_block_count : Addr
  pr_Store_block_count : PropOf K A_Store "block_count" p_Store_block_count a_Store_block_count
  F_law_row : Fun K "_law_row" "_law_row" s_law_row a_law_row fd_law_row
  b_law_row : Binds K fd_law_row ["script", "k"] []
  m_law_row : mg "_law_row" = some (.ref a_law_row)
  F_law_is_integer : Fun K "_law_is_integer" "_law_is_integer" s_law_is_integer a_law_is_integer fd_law_is_integer
  b_law_is_integer : Binds K fd_law_is_integer ["actual"] []
  m_law_is_integer : mg "_law_is_integer" = some (.ref a_law_is_integer)
  F_law_layout : Fun K "_law_layout" "_law_layout" s_law_layout a_law_layout fd_law_layout
  b_law_layout : Binds K fd_law_layout ["number"] []
  m_law_layout : mg "_law_layout" = some (.ref a_law_layout)
  F_law_power : Fun K "_law_power" "_law_power" s_law_power a_law_power fd_law_power
  b_law_power : Binds K fd_law_power ["fan", "level"] []
  m_law_power : mg "_law_power" = some (.ref a_law_power)
  F_law_height : Fun K "_law_height" "_law_height" s_law_height a_law_height fd_law_height
  b_law_height : Binds K fd_law_height ["fan", "number"] []
  m_law_height : mg "_law_height" = some (.ref a_law_height)
  F_law_take : Fun K "_law_take" "_law_take" s_law_take a_law_take fd_law_take
  b_law_take : Binds K fd_law_take ["cells", "used", "key"] []
  m_law_take : mg "_law_take" = some (.ref a_law_take)
  F_law_set : Fun K "_law_set" "_law_set" s_law_set a_law_set fd_law_set
  b_law_set : Binds K fd_law_set ["cells", "used", "data", "tree", "number", "octets"] []
  m_law_set : mg "_law_set" = some (.ref a_law_set)
  F_law_payload : Fun K "_law_payload" "_law_payload" s_law_payload a_law_payload fd_law_payload
  b_law_payload : Binds K fd_law_payload ["cells", "data", "fan", "key"] []
  m_law_payload : mg "_law_payload" = some (.ref a_law_payload)
  F_law_same : Fun K "_law_same" "_law_same" s_law_same a_law_same fd_law_same
  b_law_same : Binds K fd_law_same ["store", "file", "cells", "used", "data", "tree"] []
  m_law_same : mg "_law_same" = some (.ref a_law_same)
  F_law_number : Fun K "_law_number" "_law_number" s_law_number a_law_number fd_law_number
  b_law_number : Binds K fd_law_number ["number", "fan", "data"] []
  m_law_number : mg "_law_number" = some (.ref a_law_number)
  F_law_octets : Fun K "_law_octets" "_law_octets" s_law_octets a_law_octets fd_law_octets
  b_law_octets : Binds K fd_law_octets ["number", "size"] []
  m_law_octets : mg "_law_octets" = some (.ref a_law_octets)
  F_law : Fun K "law" "law" s_law a_law fd_law
  b_law : Binds K fd_law ["script"] []
  m_law : mg "law" = some (.ref a_law)
  m_Layout : mg "Layout" = some (.ref A_Layout)
  cl_Layout : Cls K A_Layout
  M_Layout : Mk K A_Layout a_Layout___init
  na_Layout_segments : NoAttr K A_Layout "segments"
  na_Layout_segment_blocks : NoAttr K A_Layout "segment_blocks"
  na_Layout_block_size : NoAttr K A_Layout "block_size"
  na_Layout_payload : NoAttr K A_Layout "payload"
  na_Layout_limit : NoAttr K A_Layout "limit"
  na_Layout_last_id : NoAttr K A_Layout "last_id"
  na_Layout_fan : NoAttr K A_Layout "fan"
  na_Layout_region_blocks : NoAttr K A_Layout "region_blocks"
  na_Layout_device_blocks : NoAttr K A_Layout "device_blocks"
  m_PlainFile : mg "PlainFile" = some (.ref A_PlainFile)
  cl_PlainFile : Cls K A_PlainFile
  M_PlainFile : Mk K A_PlainFile a_PlainFile___init
  na_PlainFile_size : NoAttr K A_PlainFile "size"
  na_PlainFile_height : NoAttr K A_PlainFile "height"
  na_PlainFile_root : NoAttr K A_PlainFile "root"
  m_Store : mg "Store" = some (.ref A_Store)
  cl_Store : Cls K A_Store
  M_Store : Mk K A_Store a_Store___init
  na_Store_layout : NoAttr K A_Store "layout"
  na_Store_blocks : NoAttr K A_Store "blocks"
  na_Store__least_candidate : NoAttr K A_Store "_least_candidate"
  c_BLOCK_SIZES : mg "BLOCK_SIZES" = some (.ref a_BLOCK_SIZES)
  r_BLOCK_SIZES : RelV (.ref a_BLOCK_SIZES) (.ref a_BLOCK_SIZES)
  v_BLOCK_SIZES : ∀ H : Hp, SqT K H a_BLOCK_SIZES [.int 64, .int 128, .int 256]
  c_DATA : mg "DATA" = some (.int 3 t_DATA)
  r_DATA : RelV (.int 3) (.int 3 t_DATA)
  c_NODE : mg "NODE" = some (.int 4 t_NODE)
  r_NODE : RelV (.int 4) (.int 4 t_NODE)
  c_SUMMARY_HEAD : mg "SUMMARY_HEAD" = some (.int 16 t_SUMMARY_HEAD)
  r_SUMMARY_HEAD : RelV (.int 16) (.int 16 t_SUMMARY_HEAD)
  n_bool : mg "bool" = none
  n_dict : mg "dict" = none
  n_int : mg "int" = none
  n_isinstance : mg "isinstance" = none
  n_len : mg "len" = none
  n_list : mg "list" = none
  n_max : mg "max" = none
  n_range : mg "range" = none
  n_reversed : mg "reversed" = none
  n_sorted : mg "sorted" = none
  n_tuple : mg "tuple" = none
end Sg
namespace Sg
open PySem L2
local macro_rules | `(tactic| walk_at "size") => `(tactic| first | ((simp only [List.length_append, List.length_cons, List.length_nil, List.length_map, Sg.sz]) <;> omega) | (rw [Sg.sz]; simp <;> omega))
local macro_rules | `(tactic| walk_at "side") => `(tactic| first | with_reducible rfl | with_reducible assumption | (show (_ : Int) < _; omega) | omega | (simp only [List.length_map]; omega) | assumption | rfl | decide | exact Or.inr ⟨by decide, by decide⟩ | exact Or.inl ⟨by decide, by decide⟩ | exact Or.inr ⟨by omega, by omega⟩ | exact Or.inl ⟨by omega, by omega⟩ | exact ⟨by omega, by omega⟩ | exact ⟨by decide, by decide, by decide⟩ | (simp; done))
local macro_rules | `(tactic| walk_at "hp") => `(tactic| first | assumption | (refine' L2.SqT.of ?h1; (case h1 => walk_at "hp")) | (refine' L2.SqL.of ?h1; (case h1 => walk_at "hp")) | (refine' Sg.Same.tup ?h1 ?h2; (case h1 => assumption); (case h2 => walk_at "hp")) | (refine' L2.Same.seq ?h1 ?h2; (case h1 => assumption); (case h2 => walk_at "hp")) | (refine' (show L2.Same _ _ from ?h1) _ _ ?h2; (case h1 => assumption); (case h2 => walk_at "hp")) | (refine' Sg.at_keep ?he ?h1 ?h2 ?h3; (case he => assumption); (case h1 => walk_at "hp"); (case h2 => walk_at "hp"); (case h3 => (intro z; cases z))))
local macro_rules | `(tactic| walk_at "al") => `(tactic| (intro p hn; generalize hH : upd _ _ _ = H'; have hs := Sg.Same.of_new hH hn; have ho := Sg.at_new hH; clear hH))
local macro_rules | `(tactic| walk_at "sm1") => `(tactic| first | (refine' L2.Same.trans ?ha ?hb; (case hb => assumption)) | (refine' Sg.Same.old ?ha ?hb ?hc; (case hc => assumption); (case hb => walk_at "nn")))
local macro_rules | `(tactic| walk_at "sm") => `(tactic| first | exact L2.Same.refl _ | assumption | (walk_at "sm1"; walk_at "sm"))
local macro_rules | `(tactic| walk_at "nn") => `(tactic| first | assumption | ((refine' L2.Same.free ?ha ?hb; (case hb => assumption)); walk_at "sm"))
local macro_rules | `(tactic| walk_at "dp") => `(tactic| first | assumption | exact L2.Dp.int _ | exact L2.Dp.non | exact L2.Dp.bl _ | exact L2.Dp.str _ | (refine' L2.Dp.tup ?ha ?hb; (case ha => walk_at "hp"); (case hb => walk_at "dpa")) | (refine' L2.Dp.lst ?ha ?hb; (case ha => walk_at "hp"); (case hb => walk_at "dpa")))
local macro_rules | `(tactic| walk_at "dpa") => `(tactic| first | assumption | exact L2.DpAll.nil | exact Sg.DpAll.ints _ | (refine' L2.DpAll.cons ?ha ?hb; (case ha => walk_at "dp"); (case hb => walk_at "dpa")))
local macro_rules | `(tactic| walk_at "fl") => `(tactic| first | assumption | exact Sg.Fl.int _ _ | exact Sg.Fl.non _ | exact Sg.Fl.bool _ _ | (refine' Sg.Fl.tup ?ha; (case ha => walk_at "fla")) | (refine' Sg.Fl.lst ?ha; (case ha => walk_at "fla")))
local macro_rules | `(tactic| walk_at "fla") => `(tactic| first | assumption | exact Sg.Fl.nil | exact Sg.Fl.mapi | (refine' Sg.Fl.cons ?ha ?hb; (case ha => walk_at "fl"); (case hb => walk_at "fla")))
local macro_rules | `(tactic| walk_at "tyx") => `(tactic| first | exact L2.TyX.base (L2.TyOf.int _) | exact L2.TyX.base (L2.TyOf.bl _) | exact L2.TyX.base L2.TyOf.non | exact L2.TyX.base (L2.TyOf.str _) | (refine' L2.TyX.base (L2.TyOf.tup ?ha); (case ha => walk_at "hp")) | (refine' L2.TyX.base (L2.TyOf.lst ?ha); (case ha => walk_at "hp")) | (refine' L2.TyX.base (L2.TyOf.frz ?ha); (case ha => walk_at "hp")))
local macro_rules | `(tactic| walk_at "up") => `(tactic| (generalize hH : upd _ _ _ = H'; have ho := Sg.at_new hH))
local macro_rules | `(tactic| walk_at "lk") => `(tactic| first | with_reducible assumption | with_reducible exact Sg.lk_eq | (refine' Sg.lk_ne ?ha ?hb; (case ha => decide +kernel); (case hb => walk_at "lk")) | (refine' Sg.lk_no ?ha ?hb; (case ha => decide +kernel); (case hb => walk_at "lk")) | rfl)
local macro_rules | `(tactic| walk_at "few") => `(tactic| first | assumption | omega | decide | (refine' Nat.lt_of_le_of_lt (Sg.putF_len ?ha) ?hb; (case ha => walk_at "fewi"); (case hb => decide)))
local macro_rules | `(tactic| walk_at "fewi") => `(tactic| first | assumption | (refine' Sg.putF_len ?ha; (case ha => walk_at "fewi")) | exact Nat.le_refl _)
local macro_rules | `(tactic| walk_at "rd1") => `(tactic| with_reducible (first | refine' Sg.r_seq ?_ | refine' Sg.r_asg ?_ | refine' Sg.r_gname ?_ | (refine' Sg.r_var (by with_unfolding_all rfl) ?_) | refine' Sg.r_c ?_ | refine' Sg.r_op ?_ | refine' Sg.r_un ?_ | refine' Sg.r_cb ?_ | refine' Sg.r_cons ?_ | refine' Sg.r_nil ?_ | (refine' Sg.r_mod ?hc ?_; (case hc => (with_unfolding_all walk_at "side")); (intro z hz z0 z1)) | (refine' Sg.r_rI ?hc ?_; (case hc => (with_unfolding_all walk_at "side"))) | refine' Sg.r_rI0 ?_ | refine' Sg.r_rU ?_ | refine' Sg.r_int ?_ | refine' Sg.r_eqi ?_ | refine' Sg.r_nei ?_ | (refine' Sg.r_ixl ?h ?e ?_; (case h => (with_unfolding_all walk_at "hp")); (case e => (with_unfolding_all rfl))) | (refine' Sg.r_ixt ?h ?e ?_; (case h => (with_unfolding_all walk_at "hp")); (case e => (with_unfolding_all rfl))) | (refine' Sg.r_lenl ?h ?_; (case h => (with_unfolding_all walk_at "hp"))) | (refine' Sg.r_lent ?h ?_; (case h => (with_unfolding_all walk_at "hp"))) | refine' Sg.r_test ?_ | refine' Sg.r_exb ?_ | refine' Sg.r_tB ?_ | refine' Sg.r_exbP ?_ | refine' Sg.r_ifs ?_ | refine' Sg.r_and ?_ | refine' Sg.r_or ?_ | refine' Sg.r_not ?_ | refine' Sg.r_andV ?_ | refine' Sg.r_orV ?_ | refine' Sg.r_notV ?_ | refine' Sg.r_tif ?_ | refine' Sg.r_isN ?_ | refine' Sg.r_notN ?_ | refine' Sg.r_ret ?_ | refine' Sg.r_drop ?_ | refine' Sg.r_next ?_ | refine' Sg.r_call ?_ | refine' Sg.r_make ?_ | refine' Sg.r_meth ?_ | refine' Sg.r_fld ?_ | refine' Sg.r_sfld ?_ | refine' Sg.r_chain ?_ | (refine' Sg.r_fldL ?h ?hc ?hn ?hl ?_; (case h => (with_unfolding_all walk_at "hp")); (case hc => assumption); (case hn => assumption); (case hl => (with_unfolding_all walk_at "lk"))) | (refine' Sg.r_sfldL ?h ?hc ?hn ?hl ?_; (case h => (with_unfolding_all walk_at "hp")); (case hc => assumption); (case hn => assumption); (case hl => (with_unfolding_all walk_at "few")); (with_unfolding_all walk_at "up")) | (refine' Sg.r_gunl ?h ?hl ?_; (case h => (with_unfolding_all walk_at "hp")); (case hl => (with_unfolding_all walk_at "side"))) | (refine' Sg.r_gtup ?h ?hl ?_; (case h => (with_unfolding_all walk_at "hp")); (case hl => (with_unfolding_all walk_at "side"))) | (refine' Sg.r_methL ?h ?hl ?_; (case h => (with_unfolding_all walk_at "hp")); (case hl => (with_unfolding_all walk_at "lk"))) | refine' Sg.r_tup ?_ | refine' Sg.r_lst ?_ | (refine' Sg.r_ktup ?hl ?_; (case hl => (with_unfolding_all first | exact Nat.le_of_ble_eq_true rfl | decide)); (with_unfolding_all walk_at "al")) | (refine' Sg.r_klst ?hl ?_; (case hl => (with_unfolding_all first | exact Nat.le_of_ble_eq_true rfl | decide)); (with_unfolding_all walk_at "al")) | (refine' Sg.r_listl ?h ?_; (case h => (with_unfolding_all walk_at "hp")); (with_unfolding_all walk_at "al")) | (refine' Sg.r_listt ?h ?_; (case h => (with_unfolding_all walk_at "hp")); (with_unfolding_all walk_at "al")) | (refine' Sg.r_tupl ?h ?_; (case h => (with_unfolding_all walk_at "hp")); (with_unfolding_all walk_at "al")) | (refine' Sg.r_tupt ?h ?_; (case h => (with_unfolding_all walk_at "hp"))) | (refine' Sg.r_in (.inr ?h) ?fx ?fs ?_; (case h => (with_unfolding_all walk_at "hp")); (case fx => (with_unfolding_all rfl)); (case fs => (with_unfolding_all rfl))) | (refine' Sg.r_in (.inl ?h) ?fx ?fs ?_; (case h => (with_unfolding_all walk_at "hp")); (case fx => (with_unfolding_all rfl)); (case fs => (with_unfolding_all rfl))) | (refine' Sg.r_sorted ?h ?h64 ?_; (case h => (with_unfolding_all walk_at "hp")); (case h64 => (with_unfolding_all walk_at "side")); (intro ns' p perm rising; revert p; (with_unfolding_all walk_at "al"))) | (refine' Sg.r_app ?h ?hl ?_; (case h => (with_unfolding_all walk_at "hp")); (case hl => (with_unfolding_all walk_at "size")); (with_unfolding_all walk_at "up")) | refine' Sg.r_lc ?_ | refine' Sg.r_for ?_ | refine' Sg.r_irng1 ?_ | refine' Sg.r_irng2 ?_ | refine' Sg.r_ilist ?_ | refine' Sg.r_itup ?_ | (refine' Sg.r_kR1 ?h1 ?h2 ?_; (case h1 => (with_unfolding_all walk_at "side")); (case h2 => (with_unfolding_all walk_at "side"))) | (refine' Sg.r_kR2 ?h1 ?_; (case h1 => (with_unfolding_all refine ⟨?_, ?_, ?_, ?_⟩ <;> walk_at "side"))) | (refine' Sg.r_kIl ?h ?_; (case h => (with_unfolding_all walk_at "hp"))) | (refine' Sg.r_kIt ?h ?_; (case h => (with_unfolding_all walk_at "hp"))) | refine' Sg.r_bm ?_ | refine' Sg.r_bm0 ?_ | (refine' Sg.r_tyl ?h ?_; (case h => (with_unfolding_all walk_at "hp"))) | refine' Sg.r_nonR ?_ | refine' Sg.r_nonN ?_ | refine' Sg.r_isR ?_ | refine' Sg.r_isNN ?_ | refine' Sg.r_nonI ?_ | refine' Sg.r_isI ?_ | refine' L2.iteT ?_ | refine' L2.iteF ?_ | refine' Sg.r_gcons ?_ | refine' Sg.r_gnil ?_ | refine' Sg.r_gsub ?_ | refine' Sg.r_isb ?_ | refine' Sg.r_notb ?_ | (refine' Sg.r_aug (by with_unfolding_all rfl) ?_) | refine' Sg.r_ipI ?_ | (refine' Sg.r_isi (b := true) (L2.ClsV.ty _) ?ht ?hk ?_; (case ht => (with_unfolding_all walk_at "tyx")); (case hk => (with_unfolding_all exact L2.kit_ty (by decide +kernel)))) | (refine' Sg.r_isi (b := false) (L2.ClsV.ty _) ?ht ?hk ?_; (case ht => (with_unfolding_all walk_at "tyx")); (case hk => (with_unfolding_all exact L2.kit_ty (by decide +kernel)))) | refine' Sg.r_gmap ?_ | refine' Sg.r_gmapn ?_ | (refine' Sg.r_iteb ?hb ?_; (case hb => (with_unfolding_all rfl))) | (refine' Sg.r_iteB ?hb ?_; (case hb => (with_unfolding_all rfl)))))
local macro_rules | `(tactic| walk_at "rd") => `(tactic| repeat walk_at "rd1")
local macro_rules | `(tactic| walk_at "rdo") => `(tactic| repeat (first | walk_at "rd1" | (with_reducible refine' Sg.r_iteD ?hc ?_; (case hc => first | assumption | omega)) | (with_reducible refine' Sg.r_iteDn ?hc ?_; (case hc => first | assumption | omega)) | (with_reducible refine' Sg.r_iteND ?hc ?_; (case hc => first | assumption | omega)) | (with_reducible refine' Sg.r_iteNDn ?hc ?_; (case hc => first | assumption | omega))))
local macro_rules | `(tactic| walk_at "rd1") => `(tactic| with_reducible (first | refine' Sg.r_istr ?_ | refine' Sg.r_kIs ?_ | refine' Sg.r_eqb ?_ | refine' Sg.r_isS ?_ | refine' Sg.r_nonS ?_ | refine' Sg.r_eqs ?_ | refine' Sg.r_nes ?_ | refine' Sg.r_sl ?_ | refine' Sg.r_noP ?_ | refine' Sg.r_part ?_ | refine' Sg.r_kPart ?_ | (refine' Sg.r_slL ?h ?_; (case h => (with_unfolding_all walk_at "hp")); (with_unfolding_all walk_at "al"))))
local macro_rules | `(tactic| walk_at "szle") => `(tactic| (rw [Sg.sz]; (try simp only [List.length_map, List.length_append, List.length_cons, List.length_nil, List.length_replicate]); omega))
local macro_rules | `(tactic| walk_at "rd1") => `(tactic| with_reducible (first | (refine' Sg.r_cat ?h ?h' ?hz ?_; (case h => (with_unfolding_all walk_at "hp")); (case h' => (with_unfolding_all walk_at "hp")); (case hz => (with_unfolding_all walk_at "szle")); (with_unfolding_all walk_at "al")) | (refine' Sg.r_rep1 ?h ?h1 ?h2 ?_; (case h => (with_unfolding_all walk_at "hp")); (case h1 => omega); (case h2 => omega); (with_unfolding_all walk_at "al"))))
local macro_rules | `(tactic| walk_at "rd1") => `(tactic| with_reducible (first | (refine' Sg.r_lenS ?hl ?_; (case hl => omega)) | (refine' Sg.r_min2 ?_; (intro m hm1 hm2 hm3)) | (refine' Sg.r_max2 ?_; (intro m hm1 hm2 hm3)) | (refine' Sg.r_addT ?hl ?_; (case hl => omega))))
local macro_rules | `(tactic| walk_at "ca1") => `(tactic| fail)
local macro_rules | `(tactic| walk_at "pr") => `(tactic| first | assumption | omega | walk_at "hp" | exact L2.upd_same | rfl | trivial | decide)
local macro_rules | `(tactic| walk_at "it1") => `(tactic| with_reducible (first | (refine' Sg.r_iteD ?hc ?_; (case hc => first | assumption | omega)) | (refine' Sg.r_iteDn ?hc ?_; (case hc => first | assumption | omega)) | (refine' Sg.r_iteND ?hc ?_; (case hc => first | assumption | omega)) | (refine' Sg.r_iteNDn ?hc ?_; (case hc => first | assumption | omega))))
local macro_rules | `(tactic| walk_at "go1") => `(tactic| first | walk_at "rd1" | walk_at "rx1" | walk_at "ca1" | walk_at "it1")
local macro_rules | `(tactic| walk_at "go") => `(tactic| repeat walk_at "go1")
local macro_rules | `(tactic| walk_at "gs") => `(tactic| repeat' (first | walk_at "go1" | with_reducible refine' Sg.r_ite (fun _ => ?_) (fun _ => ?_) | with_reducible refine' Sg.r_iteN (fun _ => ?_) (fun _ => ?_)))
-- imports: HandS.NoneIn HandS.Defaults HandS.TupMul HandS.Zip HandS.SetFor HandS.SetKeys HandS.Walk HandS.Codes HandS.Property HandS.MakeKw HandS.More HandS.Dict HandS.Iter HandS.WordsDict KE.GoesEnum
-- auto
section
variable {P : Program} {w : World} {K : PySem.W.Frag} {mg : Str → Option Value} {base : Heap}
theorem made_same {H H1 : Hp} {x dx : Addr} {o : HO} (nx : H x = none) (nd : H dx = none) (k : ∀ q, q ≠ x → H1 q = upd (upd H dx (.own x)) x o q) : Same H H1 := fun b u e => by
  rw [k b (ne_of_none e nx), upd_ne (ne_of_none e nx), upd_ne (ne_of_none e nd)]
  exact e

/-! ### numbers drawn from the script (the cell of an empty script is its number) -/
def sp_row (K : PySem.W.Frag) : Sp := fun vs H Q _ => ∃ (a : Addr) (ns : List Int) (k : Int), vs = [.ref a, .int k] ∧ SqL K H a (ns.map V.int) ∧ ns.length ≤ 63 ∧ 0 ≤ k ∧ k ≤ 1000 ∧ ∀ z : Int, 0 ≤ z → Q (.int z) H
theorem ok_law_row (T : Txt K mg) : FnOk P w K mg base CX0 1 T.a_law_row T.fd_law_row ["script", "k"] (sp_row K) := by
  refine T.F_law_row.ok sc_law_row (fun vs H Q E h => ?_) (fun cdv A outer s H vs Q E hr h => ?_)
  · obtain ⟨a, ns, k, rfl, _⟩ := h
    rfl
  · refine ⟨_, (pss_cons (ps_set (i := 2) sc_law_row.nd rfl (Or.inl rfl) (pv 1))
       (C8.pss_cut (ps_if (pt_cmpR op_gt (pe_callB (c_len) (by rfl) T.n_len (by decide +kernel) (pa_cons (pv 0) pa_nil)) pe_int (nomark _))
       (pss_one (ps_set (i := 2) sc_law_row.nd rfl (Or.inl rfl) (pe_callTy c_int (by rfl) T.n_int (by decide +kernel) (pa_cons (pe_ix ix_list (pv 0) (pe_op op_mod (pv 1) (pe_callB (c_len) (by rfl) T.n_len (by decide +kernel) (pa_cons (pv 0) pa_nil))) (fun _ _ => rfl)) pa_nil))))
       pss_nil)
       (C8.pss_cut (ps_if (pt_cmpR op_lt (pv 2) pe_int (nomark _))
       (pss_one (ps_set (i := 2) sc_law_row.nd rfl (Or.inl rfl) (pe_op op_sub (pe_op op_mul (pe_un un_neg pe_int) (pv 2)) pe_int)))
       pss_nil)
       (C8.pss_cut (ps_if (PW.pt (pw_and (pt_cmpR op_lt (pv 1) (pe_callB (c_len) (by rfl) T.n_len (by decide +kernel) (pa_cons (pv 0) pa_nil)) (nomark _)) (pw_and1 (pt_cmpR op_ge (pv 2) (pe_op op_pow pe_int pe_int) (nomark _)))))
       (pss_one (ps_ret (pv 2)))
       pss_nil)
       (pss_cons (ps_set (i := 3) sc_law_row.nd rfl (Or.inl rfl) (pe_op op_mod (pe_callTy c_int (by rfl) T.n_int (by decide +kernel) (pa_cons (pe_op op_add (pe_op op_add (pe_op op_mul (pv 2) pe_int) (pe_op op_mul (pv 1) pe_int)) pe_int) pa_nil)) pe_int))
       (pss_cons (ps_set (i := 4) sc_law_row.nd rfl (Or.inl rfl) (pe_op op_mod (pe_callTy c_int (by rfl) T.n_int (by decide +kernel) (pa_cons (pe_op op_add (pe_op op_add (pe_op op_add (pe_op op_mul (pv 3) pe_int) (pv 2)) (pe_op op_mul (pv 1) pe_int)) pe_int) pa_nil)) pe_int))
       (pss_cons (ps_set (i := 3) sc_law_row.nd rfl (Or.inl rfl) (pe_op op_mod (pe_callTy c_int (by rfl) T.n_int (by decide +kernel) (pa_cons (pe_op op_add (pe_op op_add (pe_op op_mul (pv 3) pe_int) (pe_op op_mul (pv 4) pe_int)) (pv 1)) pa_nil)) pe_int))
       (pss_one (ps_ret (pe_op op_add (pe_op op_mul (pv 4) pe_int) (pv 3))))))))))), ?_⟩
    try dsimp only [cxOf, Cx.nox, Cx.wish]
    obtain ⟨a, ns, k, rfl, hS, h63, k0, k1, q⟩ := h
    walk_at "rd"
    refine r_cut (fun σ' H' => ∃ z : Int, σ' = [some (.ref a), some (.int k), some (.int z), none, none] ∧ H = H') ?_ ?_
    · walk_at "rd"
      refine r_ite (fun hlen => ?_) (fun _ => ?_)
      · rw [List.length_map] at hlen
        walk_at "rd"
        rename_i z hz z0 z1
        rw [List.length_map] at z1
        refine r_ixl hS (v := .int (ns.getD z.toNat 0)) ?_ ?_
        · obtain ⟨n, rfl⟩ := Int.eq_ofNat_of_zero_le z0
          refine atI_nat ?_
          have hn : n < ns.length := by omega
          rw [List.getElem?_map, List.getElem?_eq_getElem hn, List.getD_eq_getElem?_getD, Int.toNat_natCast, List.getElem?_eq_getElem hn]
          rfl
        · walk_at "rd"
          exact ⟨_, rfl, rfl⟩
      · exact ⟨_, rfl, rfl⟩
    · rintro _ _ ⟨z, rfl, rfl⟩
      walk_at "rd"
      refine r_cut (fun σ' H' => ∃ z : Int, 0 ≤ z ∧ σ' = [some (.ref a), some (.int k), some (.int z), none, none] ∧ H = H') ?_ ?_
      · walk_at "rd"
        refine r_ite (fun _ => ?_) (fun _ => ?_)
        · walk_at "rd"
          exact ⟨_, by omega, rfl, rfl⟩
        · exact ⟨_, by omega, rfl, rfl⟩
      · rintro _ _ ⟨y, y0, rfl, rfl⟩
        walk_at "rd"
        refine r_cutS ?_ ?_
        · walk_at "rd"
          refine r_ite (fun _ => ?_) (fun _ => ?_)
          · walk_at "rd"
            refine r_ite (fun _ => ?_) (fun _ => ?_)
            · walk_at "rd"
              exact q _ y0
            · exact ⟨rfl, rfl⟩
          · walk_at "rd"
            exact ⟨rfl, rfl⟩
        · walk_at "rd"
          exact q _ (by omega)

def sp_parts_of : Sp := fun vs H Q _ => ∃ n s : Int, vs = [.int n, .int s] ∧ 0 < s ∧ s < 1073741824 ∧ Q (.int ((n + s - 1) / s)) H
theorem ok_parts_of (T : Txt K mg) : FnOk P w K mg base CX0 1 T.a_parts_of T.fd_parts_of ["number", "size"] sp_parts_of := by
  refine T.F_parts_of.ok sc_parts_of (fun vs H Q E h => ?_) (fun cdv A outer s H vs Q E hr h => ?_)
  · obtain ⟨n, s, rfl, _⟩ := h
    rfl
  · refine ⟨_, (pss_one (ps_ret (pe_op op_fdiv (pe_op op_sub (pe_op op_add (pv 0) (pv 1)) pe_int) (pv 1)))), ?_⟩
    try dsimp only [cxOf, Cx.nox, Cx.wish]
    obtain ⟨n, s, rfl, h1, h2, q⟩ := h
    walk_at "rd"
    exact q
/-! ### layouts -/
/-- the numbers of a layout -/
structure Lay where
  seg : Int
  blk : Int
  size : Int
  pay : Int
  lim : Int
  last : Int
  fan : Int
  reg : Int
  dev : Int
def layOf (s b z : Int) : Lay := ⟨s, b, z, b - 1, (s - 2) * (b - 1), (s - 2) * (b - 1) + (b - 1), z / 2, (2 * (4 * ((s - 2) * (b - 1) + (b - 1)) + 6 + s) + z - 1) / z, 2 * ((2 * (4 * ((s - 2) * (b - 1) + (b - 1)) + 6 + s) + z - 1) / z) + s * b⟩
/-- three sizes that a layout can have -/
structure Fits (s b z : Int) : Prop where
  s0 : 4 ≤ s
  s1 : s ≤ 16
  b0 : 16 ≤ b
  b1 : b ≤ 32
  zz : z = 64 ∨ z = 128 ∨ z = 256
  fit : 16 + 2 * (b - 1) + ((s - 2) * (b - 1) + (b - 1) + 8 - 1) / 8 ≤ z
/-- the fields of a layout -/
structure LayFs (L : Lay) (fs : List (Str × V)) : Prop where
  seg : fs.lookup ("segments" : Str) = some (V.int L.seg)
  blk : fs.lookup ("segment_blocks" : Str) = some (V.int L.blk)
  size : fs.lookup ("block_size" : Str) = some (V.int L.size)
  pay : fs.lookup ("payload" : Str) = some (V.int L.pay)
  lim : fs.lookup ("limit" : Str) = some (V.int L.lim)
  last : fs.lookup ("last_id" : Str) = some (V.int L.last)
  fan : fs.lookup ("fan" : Str) = some (V.int L.fan)
  reg : fs.lookup ("region_blocks" : Str) = some (V.int L.reg)
  dev : fs.lookup ("device_blocks" : Str) = some (V.int L.dev)
def LayAt (C : Addr) (L : Lay) (H : Hp) (p : Addr) : Prop := ∃ dx fs, H p = some (.ins C dx fs) ∧ LayFs L fs
theorem LayAt.mono {C : Addr} {L : Lay} {H H' : Hp} {p : Addr} (s : Same H H') (h : LayAt C L H p) : LayAt C L H' p := by
  obtain ⟨dx, fs, h1, h2⟩ := h
  exact ⟨dx, fs, s _ _ h1, h2⟩
def sp_layout (C : Addr) : Sp := fun vs H Q _ => ∃ (p dx : Addr) (s b z : Int), vs = [.ref p, .int s, .int b, .int z] ∧ H p = some (.ins C dx []) ∧ Fits s b z ∧
  ∀ H' fs, (∀ q, q ≠ p → H' q = H q) → H' p = some (.ins C dx fs) → LayFs (layOf s b z) fs → Q .non H'
theorem in_sizes {z : Int} (h : z = 64 ∨ z = 128 ∨ z = 256) : (!inV (V.int z) [V.int 64, V.int 128, V.int 256]) = false := by
  rcases h with rfl | rfl | rfl <;> decide
theorem keep1 {H H1 H' : Hp} {p : Addr} {o : HO} (h : ∀ q, q ≠ p → H1 q = H q) (e : upd H1 p o = H') : ∀ q, q ≠ p → H' q = H q := fun q hq => by
  rw [← e, upd_ne hq]
  exact h q hq
theorem ok_Layout___init (T : Txt K mg) : FnOk P w K mg base CX0 2 T.a_Layout___init T.fd_Layout___init ["self", "segments", "segment_blocks", "block_size"] (sp_layout T.A_Layout) := by
  refine T.F_Layout___init.ok sc_Layout___init (fun vs H Q E h => ?_) (fun cdv A outer s H vs Q E hr h => ?_)
  · obtain ⟨p, dx, s, b, z, rfl, _⟩ := h
    rfl
  · refine ⟨_, (pss_cons (ps_if (pt_not (pt_chain op_le op_le pe_int (pv 1) pe_int))
       (pss_one ps_never)
       pss_nil)
       (pss_cons (ps_if (pt_not (pt_chain op_le op_le pe_int (pv 2) pe_int))
       (pss_one ps_never)
       pss_nil)
       (pss_cons (ps_if (pt_cmpR op_notIn_seq (pv 3) (pe_glob rfl T.c_BLOCK_SIZES T.r_BLOCK_SIZES) (by with_unfolding_all rfl))
       (pss_one ps_never)
       pss_nil)
       (pss_cons (ps_fld (pv 0) (pv 1) rfl)
       (pss_cons (ps_fld (pv 0) (pv 2) rfl)
       (pss_cons (ps_fld (pv 0) (pv 3) rfl)
       (pss_cons (ps_fld (pv 0) (pe_op op_sub (pv 2) pe_int) rfl)
       (pss_cons (ps_fld (pv 0) (pe_op op_mul (pe_op op_sub (pv 1) pe_int) (pe_fld (pv 0) rfl)) rfl)
       (pss_cons (ps_fld (pv 0) (pe_op op_add (pe_fld (pv 0) rfl) (pe_fld (pv 0) rfl)) rfl)
       (pss_cons (ps_fld (pv 0) (pe_op op_fdiv (pv 3) pe_int) rfl)
       (pss_cons (ps_fld (pv 0) (pe_call (ok_parts_of T) (hr.mono (by decide)) rfl T.m_parts_of T.F_parts_of.kp T.b_parts_of .nil pass0 (pa_cons (pe_op op_mul pe_int (pe_op op_add (pe_op op_add (pe_op op_mul pe_int (pe_fld (pv 0) rfl)) pe_int) (pv 1))) (pa_cons (pv 3) pa_nil))) rfl)
       (pss_cons (ps_fld (pv 0) (pe_op op_add (pe_op op_mul pe_int (pe_fld (pv 0) rfl)) (pe_op op_mul (pv 1) (pv 2))) rfl)
       (pss_one (ps_if (pt_cmpR op_gt (pe_op op_add (pe_op op_add (pe_glob rfl T.c_SUMMARY_HEAD T.r_SUMMARY_HEAD) (pe_op op_mul pe_int (pe_fld (pv 0) rfl))) (pe_call (ok_parts_of T) (hr.mono (by decide)) rfl T.m_parts_of T.F_parts_of.kp T.b_parts_of .nil pass0 (pa_cons (pe_fld (pv 0) rfl) (pa_cons pe_int pa_nil)))) (pv 3) (nomark _))
       (pss_one ps_never)
       pss_nil)))))))))))))), ?_⟩
    try dsimp only [cxOf, Cx.nox, Cx.wish]
    obtain ⟨p, dx, s, b, z, rfl, hp, hF, q⟩ := h
    obtain ⟨s0, s1, b0, b1, hz, fit⟩ := hF
    have cl := T.cl_Layout
    have na1 := T.na_Layout_segments
    have na2 := T.na_Layout_segment_blocks
    have na3 := T.na_Layout_block_size
    have na4 := T.na_Layout_payload
    have na5 := T.na_Layout_limit
    have na6 := T.na_Layout_last_id
    have na7 := T.na_Layout_fan
    have na8 := T.na_Layout_region_blocks
    have na9 := T.na_Layout_device_blocks
    walk_at "rdo"
    refine r_in (.inr (T.v_BLOCK_SIZES _)) rfl rfl ?_
    walk_at "rd"
    refine r_iteB (in_sizes hz) ?_
    walk_at "rdo"
    refine ⟨_, _, rfl, by omega, by omega, ?_⟩
    walk_at "rdo"
    refine ⟨_, _, rfl, by omega, by omega, ?_⟩
    walk_at "rdo"
    refine q _ _ ?kk (by walk_at "hp") ⟨by walk_at "lk", by walk_at "lk", by walk_at "lk", by walk_at "lk", by walk_at "lk", by walk_at "lk", by walk_at "lk", by walk_at "lk", by walk_at "lk"⟩
    case kk =>
      repeat (refine keep1 ?_ (by assumption))
      exact fun _ _ => rfl

/-- what is known of a layout's numbers -/
structure LayC (L : Lay) : Prop where
  s0 : 4 ≤ L.seg
  s1 : L.seg ≤ 16
  b0 : 16 ≤ L.blk
  b1 : L.blk ≤ 32
  z0 : 64 ≤ L.size
  z1 : L.size ≤ 256
  pay : L.pay = L.blk - 1
  lim : L.lim = (L.seg - 2) * L.pay
  lst : L.last = L.lim + L.pay
  l0 : 45 ≤ L.last
  l1 : L.last ≤ 465
  fz : 2 * L.fan = L.size
  f0 : 32 ≤ L.fan
  f1 : L.fan ≤ 128
  r0 : 2 ≤ L.reg
  r1 : L.reg ≤ 60
  dv : L.dev = 2 * L.reg + L.seg * L.blk
  d0 : 64 ≤ L.dev
  d1 : L.dev ≤ 1000
  rf0 : 4 * L.last + 6 + L.seg ≤ L.reg * L.fan
  rf1 : L.reg * L.fan ≤ 3000
theorem Fits.all {s b z : Int} (h : Fits s b z) : LayC (layOf s b z) := by
  obtain ⟨s0, s1, b0, b1, hz, _⟩ := h
  have e : (s - 2) * (b - 1) + (b - 1) = (s - 1) * (b - 1) := by
    have e : s - 1 = (s - 2) + 1 := by omega
    rw [e, Int.add_mul, Int.one_mul]
  have h1 : 3 * (b - 1) ≤ (s - 1) * (b - 1) := Int.mul_le_mul_of_nonneg_right (by omega) (by omega)
  have h2 : (s - 1) * (b - 1) ≤ 15 * (b - 1) := Int.mul_le_mul_of_nonneg_right (by omega) (by omega)
  have h3 : 4 * b ≤ s * b := Int.mul_le_mul_of_nonneg_right (by omega) (by omega)
  have h4 : s * b ≤ 16 * b := Int.mul_le_mul_of_nonneg_right (by omega) (by omega)
  have hl : (layOf s b z).last = (s - 1) * (b - 1) := e
  have hr : (layOf s b z).reg = (2 * (4 * ((s - 2) * (b - 1) + (b - 1)) + 6 + s) + z - 1) / z := rfl
  have hf : (layOf s b z).fan = z / 2 := rfl
  have hd : (layOf s b z).dev = 2 * (layOf s b z).reg + s * b := rfl
  have hs : (layOf s b z).seg = s := rfl
  rw [e] at hr
  generalize hL : layOf s b z = L at hl hr hf hd hs
  have pp : L.pay = L.blk - 1 ∧ L.lim = (L.seg - 2) * L.pay ∧ L.last = L.lim + L.pay ∧ L.blk = b ∧ L.size = z ∧ L.dev = 2 * L.reg + L.seg * L.blk := by
    subst hL
    exact ⟨rfl, rfl, rfl, rfl, rfl, rfl⟩
  obtain ⟨p1, p2, p3, p4, p5, p6⟩ := pp
  generalize (s - 1) * (b - 1) = n at h1 h2 hl hr
  generalize hsb : s * b = k at h3 h4 hd
  have key : 2 * L.fan = z ∧ 32 ≤ L.fan ∧ L.fan ≤ 128 ∧ 2 ≤ L.reg ∧ L.reg ≤ 60 ∧ 4 * L.last + 6 + L.seg ≤ L.reg * L.fan ∧ L.reg * L.fan ≤ 3000 := by
    rcases hz with rfl | rfl | rfl
    · rw [hf, show (64 : Int) / 2 = 32 from by decide]; omega
    · rw [hf, show (128 : Int) / 2 = 64 from by decide]; omega
    · rw [hf, show (256 : Int) / 2 = 128 from by decide]; omega
  obtain ⟨k1, k2, k3, k4, k5, k6, k7⟩ := key
  refine ⟨by omega, by omega, by omega, by omega, by omega, by omega, p1, p2, p3, by omega, by omega, by omega, k2, k3, k4, k5, p6, by omega, by omega, k6, k7⟩
local macro_rules | `(tactic| walk_at "pr") => `(tactic| with_reducible (refine' Sg.LayAt.mono ?h1 ?h2; (case h1 => assumption); (case h2 => walk_at "pr")))

/-! ### enumerate of a list -/
def kIe (K : PySem.W.Frag) (R : It → Hp → Prop) : List V → Hp → Prop := fun vs H1 => ∃ a xs, vs = [.ref a] ∧ SqL K H1 a xs ∧ R (Ite K a) H1
theorem r_ienum {K : PySem.W.Frag} {ta : TA} {σ : L2.St} {H : Hp} {R : It → Hp → Prop} (h : ta σ H (kIe K R)) : iEnum K ta σ H R := h
theorem r_kIe {K : PySem.W.Frag} {a : Addr} {xs : List V} {H : Hp} {R : It → Hp → Prop} (h1 : SqL K H a xs) (h : R (Ite K a) H) : kIe K R [.ref a] H := ⟨a, xs, rfl, h1, h⟩
theorem r_forE {K : PySem.W.Frag} {a : Addr} {xs : List V} {σ : L2.St} {H : Hp} {D : Ends} {g : TG} {tb : TS} (Pv : Nat → L2.St → Hp → Prop) (h0 : Pv 0 σ H) (hl : ∀ i σ H, i ≤ xs.length → Pv i σ H → SqL K H a xs)
    (hs : ∀ (i : Nat) (x : V) (σ : L2.St) (H H' : Hp) (T : Addr), xs[i]? = some x → Pv i σ H → H T = none → upd H T (.tup [.int (i : Nat), x]) = H' → g (.ref T) σ H' fun σ2 H2 => tb { D with nx := Pv (i + 1), ct := Pv (i + 1), bk := D.nx } σ2 H2)
    (hd : ∀ σ H, Pv xs.length σ H → D.nx σ H) : kFor g tb D σ (Ite K a) H :=
  for_it walk_enum Pv h0 hl (fun i x σ H H' hlt p y => by
    obtain ⟨T, z, w, e1, e2, e3, e4, e5⟩ := y
    cases e4
    rw [e1]
    exact hs i w σ H H' T e5 p e2 e3.symm) hd
def SqI (K : PySem.W.Frag) (H : Hp) (l : Addr) (ns : List Int) : Prop := SqL K H l (ns.map V.int) ∨ SqT K H l (ns.map V.int)
theorem SqI.mono {K : PySem.W.Frag} {H H' : Hp} {l : Addr} {ns : List Int} (s : Same H H') (h : SqI K H l ns) : SqI K H' l ns := h.imp (fun h => s.seq h) (fun h => Same.tup s h)
theorem inV_ints (k : Int) : ∀ ns : List Int, inV (.int k) (ns.map V.int) = decide (k ∈ ns)
  | [] => rfl
  | n :: ns => by
    have ih := inV_ints k ns
    unfold inV at ih ⊢
    rw [List.map_cons, List.any_cons, ih]
    by_cases e : k = n
    · subst e
      simp [eqV]
    · have e' : ¬ n = k := fun z => e z.symm
      simp [eqV, e, e']
theorem flat_ints : ∀ ns : List Int, (ns.map V.int).all flatV = true
  | [] => rfl
  | n :: ns => by rw [List.map_cons, List.all_cons, flat_ints ns]; rfl

theorem r_neI {K : PySem.W.Frag} {H : Hp} {a b : Addr} {ns : List Int} {Q : V → Hp → Prop} (ha : SqL K H a (ns.map V.int)) (hb : SqL K H b (ns.map V.int)) (q : Q (.bl false) H) : rNeD K (.ref a) (.ref b) H Q := by
  refine r_ned (Dp.ints ha) (Dp.ints hb) (Fl.intlS ns) (Fl.intlS ns) ?_
  rw [(Fl.intl ns).self]
  exact q
theorem r_eqI {K : PySem.W.Frag} {H : Hp} {a b : Addr} {ns : List Int} {Q : V → Hp → Prop} (ha : SqL K H a (ns.map V.int)) (hb : SqL K H b (ns.map V.int)) (q : Q (.bl true) H) : rEqD K (.ref a) (.ref b) H Q := by
  refine r_eqd (Dp.ints ha) (Dp.ints hb) (Fl.intlS ns) (Fl.intlS ns) ?_
  rw [(Fl.intl ns).self]
  exact q

/-! ### while, by a word with a measure -/
theorem r_while {c : TT} {tb : TS} {D : Ends} {σ : L2.St} {H : Hp} (Pv : Nat → L2.St → Hp → Prop) (m : Nat) (h0 : Pv m σ H)
    (hs : ∀ m σ H, Pv m σ H → c σ H fun b H1 => if b = true then ∃ N : L2.St → Hp → Prop, (∀ σ' H', N σ' H' → ∃ m', m' < m ∧ Pv m' σ' H') ∧ tb { D with nx := N, ct := N, bk := D.nx } σ H1 else D.nx σ H1) : tWhile c tb D σ H :=
  ⟨Pv, ⟨m, h0⟩, hs⟩

/-! ### reversed of a list -/
def kIv (K : PySem.W.Frag) (R : It → Hp → Prop) : List V → Hp → Prop := fun vs H1 => ∃ (a : Addr) (xs : List V), vs = [.ref a] ∧ SqL K H1 a xs ∧ R (Itv K a xs.length) H1
theorem r_irev {K : PySem.W.Frag} {ta : TA} {σ : L2.St} {H : Hp} {R : It → Hp → Prop} (h : ta σ H (kIv K R)) : iRev K ta σ H R := h
theorem r_kIv {K : PySem.W.Frag} {a : Addr} {xs : List V} {H : Hp} {R : It → Hp → Prop} (h1 : SqL K H a xs) (h : R (Itv K a xs.length) H) : kIv K R [.ref a] H := ⟨a, xs, rfl, h1, h⟩
theorem r_forV {K : PySem.W.Frag} {a : Addr} {xs : List V} {g : TG} {tb : TS} {D : Ends} {σ : L2.St} {H : Hp} (Pv : Nat → L2.St → Hp → Prop) (h0 : Pv 0 σ H) (hG : ∀ i σ H, i ≤ xs.length → Pv i σ H → SqL K H a xs)
    (hs : ∀ i x σ H, i < xs.length → xs[xs.length - 1 - i]? = some x → Pv i σ H → g x σ H fun σ2 H2 => tb { D with nx := Pv (i + 1), ct := Pv (i + 1), bk := D.nx } σ2 H2) (hd : ∀ σ H, Pv xs.length σ H → D.nx σ H) : kFor g tb D σ (Itv K a xs.length) H :=
  for_it walk_rev Pv h0 hG (fun i x σ H H' hi p ⟨e, hx⟩ => by subst e; exact hs i x σ _ hi hx p) hd

/-! ### dicts with int keys: readings by name -/
def kDI2 (y : V) (Q : V → Hp → Prop) : V → Hp → Prop := fun x H2 => ∃ a o, x = .ref a ∧ DGet H2 a y o ∧ Q (.bl o.isSome) H2
def kDI (td : TE) (σ : L2.St) (Q : V → Hp → Prop) : V → Hp → Prop := fun y H1 => td σ H1 (kDI2 y Q)
def kDN2 (y : V) (Q : V → Hp → Prop) : V → Hp → Prop := fun x H2 => ∃ a o, x = .ref a ∧ DGet H2 a y o ∧ Q (.bl (!o.isSome)) H2
def kDN (td : TE) (σ : L2.St) (Q : V → Hp → Prop) : V → Hp → Prop := fun y H1 => td σ H1 (kDN2 y Q)
def kDG2 (x : V) (Q : V → Hp → Prop) : V → Hp → Prop := fun y H2 => ∃ a v, x = .ref a ∧ DGet H2 a y (some v) ∧ Q v H2
def kDG (ty : TE) (σ : L2.St) (Q : V → Hp → Prop) : V → Hp → Prop := fun x H1 => ty σ H1 (kDG2 x Q)
def kDT2 (a : Addr) (Q : V → Hp → Prop) : V → Hp → Prop := fun y H2 => ∃ o, DGet H2 a y o ∧ Q (o.getD .non) H2
def kDT (ty : TE) (σ : L2.St) (Q : V → Hp → Prop) : V → Hp → Prop := fun x H1 => ∃ a, x = .ref a ∧ IsD H1 a ∧ ty σ H1 (kDT2 a Q)
def kDP3 (D : Ends) (σ : L2.St) (v x : V) : V → Hp → Prop := fun y H3 => ∃ a H4, x = .ref a ∧ DPut H3 a y v H4 ∧ D.nx σ H4
def kDP2 (D : Ends) (σ : L2.St) (ty : TE) (v : V) : V → Hp → Prop := fun x H2 => ty σ H2 (kDP3 D σ v x)
def kDP (D : Ends) (σ : L2.St) (td ty : TE) : V → Hp → Prop := fun v H1 => td σ H1 (kDP2 D σ ty v)
def kDD2 (D : Ends) (σ : L2.St) (x : V) : V → Hp → Prop := fun y H2 => ∃ a kvs k, x = .ref a ∧ H2 a = some (.dK kvs) ∧ y = kV k ∧ (valV kvs k).isSome = true ∧ D.nx σ (upd H2 a (.dK (dropK kvs k)))
def kDD (D : Ends) (σ : L2.St) (ty : TE) : V → Hp → Prop := fun x H1 => ty σ H1 (kDD2 D σ x)
def kDO2 (a : Addr) (Q : V → Hp → Prop) : V → Hp → Prop := fun y H2 => ∃ kvs k v, H2 a = some (.dK kvs) ∧ y = kV k ∧ valV kvs k = some v ∧ Q v (upd H2 a (.dK (dropK kvs k)))
def kDO (ty : TE) (σ : L2.St) (Q : V → Hp → Prop) : V → Hp → Prop := fun x H1 => ∃ a, x = .ref a ∧ IsD H1 a ∧ ty σ H1 (kDO2 a Q)
def kIk (R : It → Hp → Prop) : V → Hp → Prop := fun x H1 => ∃ d o, x = .ref d ∧ ((∃ kvs, H1 d = some (.frz o (.dK kvs)) ∧ R (Itk d o kvs) H1) ∨ ∃ kvs, H1 d = some (.frz o (.dT kvs)) ∧ R (Itkt d o kvs) H1)
def rLenD : List V → Hp → (V → Hp → Prop) → Prop := fun xs H Q => ∃ a kvs, xs = [V.ref a] ∧ H a = some (.dK kvs) ∧ Q (.int kvs.length) H
def rDictD : List V → Hp → (V → Hp → Prop) → Prop := fun xs H Q => ∃ (a : Addr) (kvs : List (Key × V)), xs = [.ref a] ∧ Rd H a (.dK kvs) ∧ ∀ p, H p = none → Q (.ref p) (upd H p (.dK kvs))
section
variable {σ : L2.St} {H : Hp} {D : Ends} {td ty tv : TE} {Q : V → Hp → Prop} {a : Addr} {kvs : List (Key × V)} {i : Int} {v y : V} {R : It → Hp → Prop} {o : Obj}
theorem r_din (h : ty σ H (kDI td σ Q)) : tDIn ty td σ H Q := h
theorem r_kdi (h : td σ H (kDI2 y Q)) : kDI td σ Q y H := h
theorem r_kdi2 (h : H a = some (.dK kvs)) (q : Q (.bl (valV kvs (.inl i)).isSome) H) : kDI2 (.int i) Q (.ref a) H := ⟨a, _, rfl, DGet.k (k := .inl i) h, q⟩
theorem r_kdi2f (h : H a = some (.frz o (.dK kvs))) (q : Q (.bl (valV kvs (.inl i)).isSome) H) : kDI2 (.int i) Q (.ref a) H := ⟨a, _, rfl, .inl ⟨kvs, .inl i, .inr ⟨o, h⟩, rfl, rfl⟩, q⟩
theorem r_dnotin (h : ty σ H (kDN td σ Q)) : tDNotIn ty td σ H Q := h
theorem r_kdn (h : td σ H (kDN2 y Q)) : kDN td σ Q y H := h
theorem r_kdn2 (h : H a = some (.dK kvs)) (q : Q (.bl (!(valV kvs (.inl i)).isSome)) H) : kDN2 (.int i) Q (.ref a) H := ⟨a, _, rfl, DGet.k (k := .inl i) h, q⟩
theorem r_dget (h : td σ H (kDG ty σ Q)) : tDGet td ty σ H Q := h
theorem r_kdg (h : ty σ H (kDG2 y Q)) : kDG ty σ Q y H := h
theorem r_kdg2 (h : H a = some (.dK kvs)) (e : valV kvs (.inl i) = some v) (q : Q v H) : kDG2 (.ref a) Q (.int i) H := ⟨a, v, rfl, by rw [← e]; exact DGet.k (k := .inl i) h, q⟩
theorem r_kdg2f (h : H a = some (.frz o (.dK kvs))) (e : valV kvs (.inl i) = some v) (q : Q v H) : kDG2 (.ref a) Q (.int i) H := ⟨a, v, rfl, by rw [← e]; exact .inl ⟨kvs, .inl i, .inr ⟨o, h⟩, rfl, rfl⟩, q⟩
theorem r_dget1 (h : td σ H (kDT ty σ Q)) : tDGet1 td ty σ H Q := h
theorem r_kdt (h : H a = some (.dK kvs)) (q : ty σ H (kDT2 a Q)) : kDT ty σ Q (.ref a) H := ⟨a, rfl, .inl ⟨kvs, .inl h⟩, q⟩
theorem r_kdt2 (h : H a = some (.dK kvs)) (q : Q ((valV kvs (.inl i)).getD .non) H) : kDT2 a Q (.int i) H := ⟨_, DGet.k (k := .inl i) h, q⟩
theorem r_dput (h : tv σ H (kDP D σ td ty)) : sDPut td ty tv D σ H := h
theorem r_kdp (h : td σ H (kDP2 D σ ty v)) : kDP D σ td ty v H := h
theorem r_kdp2 (h : ty σ H (kDP3 D σ v y)) : kDP2 D σ ty v y H := h
theorem r_kdp3 (h : H a = some (.dK kvs)) (hl : kvs.length ≤ 100000) (q : D.nx σ (upd H a (.dK (putK kvs (.inl i) v)))) : kDP3 D σ v (.ref a) (.int i) H := ⟨a, _, rfl, DPut.k (k := .inl i) h (by rw [sz]; omega), q⟩
theorem r_ddel (h : td σ H (kDD D σ ty)) : sDDel td ty D σ H := h
theorem r_kdd (h : ty σ H (kDD2 D σ y)) : kDD D σ ty y H := h
theorem r_kdd2 (h : H a = some (.dK kvs)) (e : (valV kvs (.inl i)).isSome = true) (q : D.nx σ (upd H a (.dK (dropK kvs (.inl i))))) : kDD2 D σ (.ref a) (.int i) H := ⟨a, kvs, .inl i, rfl, h, rfl, e, q⟩
theorem r_dpop1 (h : td σ H (kDO ty σ Q)) : tDPop1 td ty σ H Q := h
theorem r_kdo (h : H a = some (.dK kvs)) (q : ty σ H (kDO2 a Q)) : kDO ty σ Q (.ref a) H := ⟨a, rfl, .inl ⟨kvs, .inl h⟩, q⟩
theorem r_kdo2 (h : H a = some (.dK kvs)) (e : valV kvs (.inl i) = some v) (q : Q v (upd H a (.dK (dropK kvs (.inl i))))) : kDO2 a Q (.int i) H := ⟨kvs, .inl i, v, h, rfl, e, q⟩
theorem r_ikeys (h : td σ H (kIk R)) : iKeys td σ H R := h
theorem r_kIk (h : H a = some (.frz o (.dK kvs))) (q : R (Itk a o kvs) H) : kIk R (.ref a) H := ⟨a, o, rfl, .inl ⟨kvs, h, q⟩⟩
theorem r_dnew (h : ∀ p, H p = none → Q (.ref p) (upd H p (.dK []))) : tDNewK σ H Q := h
theorem r_lenD (h : H a = some (.dK kvs)) (q : Q (.int kvs.length) H) : rLenD [.ref a] H Q := ⟨a, kvs, rfl, h, q⟩
theorem r_dictD (h : H a = some (.dK kvs)) (q : ∀ p, H p = none → Q (.ref p) (upd H p (.dK kvs))) : rDictD [.ref a] H Q := ⟨a, kvs, rfl, .inl h, q⟩
theorem c_lenD {X : Cx} : CallR X (.builtin "len") rLenD := call_lenD
theorem c_dictD {X : Cx} : CallR X (.type "dict") rDictD := call_dictD
/-- a for over a locked dict with int keys -/
theorem r_forKeys {g : TG} {tb : TS} (Pv : Nat → L2.St → Hp → Prop) (h0 : Pv 0 σ H) (hG : ∀ i σ H, i ≤ kvs.length → Pv i σ H → H a = some (.frz o (.dK kvs)))
    (hs : ∀ (j : Nat) (k : Key) (v : V) (σ : L2.St) (H : Hp), kvs[j]? = some (k, v) → Pv j σ H → g (kV k) σ H fun σ2 H2 => tb { D with nx := Pv (j + 1), ct := Pv (j + 1), bk := D.nx } σ2 H2) (hd : ∀ σ H, Pv kvs.length σ H → D.nx σ H) : kFor g tb D σ (Itk a o kvs) H :=
  for_it walk_keys Pv h0 hG (fun j x σ H H' hj p ⟨e, k, v, hk, hx⟩ => by subst e; rw [hx]; exact hs j k v σ _ hk p) hd
end
/-! ### the mathematics of such dicts -/
structure Dk (kvs : List (Key × V)) (ks : List Int) : Prop where
  keys : kvs.map (·.1) = ks.map Sum.inl
  nd : ks.Nodup
theorem Dk.len {kvs : List (Key × V)} {ks : List Int} (h : Dk kvs ks) : kvs.length = ks.length := by
  have := congrArg List.length h.keys
  rwa [List.length_map, List.length_map] at this
theorem Dk.has {kvs : List (Key × V)} {ks : List Int} (h : Dk kvs ks) (i : Int) : (valV kvs (Sum.inl i : Key)).isSome = decide (i ∈ ks) := by
  rw [← valV_any]
  have e : (kvs.any fun kv => decide (kv.1 = (Sum.inl i : Key))) = (kvs.map (·.1)).any fun k => decide (k = (Sum.inl i : Key)) := by rw [List.any_map]; rfl
  rw [e, h.keys, List.any_map, Bool.eq_iff_iff]
  simp [List.any_eq_true]
theorem Dk.nil : Dk [] [] := ⟨rfl, List.nodup_nil⟩
theorem Dk.put {kvs : List (Key × V)} {ks : List Int} (h : Dk kvs ks) (i : Int) (v : V) : Dk (putK kvs (Sum.inl i) v) (if i ∈ ks then ks else ks ++ [i]) := by
  have e := h.has i
  rw [← valV_any] at e
  unfold putK
  rw [e]
  by_cases c : i ∈ ks
  · rw [if_pos c, if_pos (decide_eq_true c)]
    refine ⟨?_, h.nd⟩
    rw [← h.keys, List.map_map]
    refine List.map_congr_left fun kv _ => ?_
    show (if kv.1 = _ then (kv.1, v) else kv).1 = kv.1
    split <;> rfl
  · rw [if_neg c, if_neg (by simpa using c)]
    refine ⟨by rw [List.map_append, List.map_append, h.keys]; rfl, ?_⟩
    rw [List.nodup_append]
    refine ⟨h.nd, by simp, fun x hx y hy => ?_⟩
    rw [List.mem_singleton.mp hy]
    intro z
    exact c (z ▸ hx)
theorem Dk.drop {kvs : List (Key × V)} {ks : List Int} (h : Dk kvs ks) (i : Int) : Dk (dropK kvs (Sum.inl i)) (ks.filter fun k => decide (k ≠ i)) := by
  refine ⟨?_, h.nd.filter _⟩
  unfold dropK
  have gen : ∀ (kvs : List (Key × V)) (ks : List Int), kvs.map (·.1) = ks.map Sum.inl → (kvs.filter fun kv => decide (kv.1 ≠ (Sum.inl i : Key))).map (·.1) = (ks.filter fun k => decide (k ≠ i)).map Sum.inl := by
    intro kvs
    induction kvs with
    | nil => intro ks e; cases ks with | nil => rfl | cons k r => cases e
    | cons kv r ih =>
      intro ks e
      cases ks with
      | nil => cases e
      | cons k r' =>
        rw [List.map_cons, List.map_cons] at e
        injection e with e1 e2
        by_cases c : k = i
        · have c1 : kv.1 = (Sum.inl i : Key) := by rw [e1, c]
          rw [List.filter_cons_of_neg (by simpa using c1), List.filter_cons_of_neg (by simpa using c)]
          exact ih r' e2
        · have c1 : kv.1 ≠ (Sum.inl i : Key) := by rw [e1]; intro z; cases z; exact c rfl
          rw [List.filter_cons_of_pos (by simpa using c1), List.filter_cons_of_pos (by simpa using c), List.map_cons, List.map_cons, e1, ih r' e2]
  exact gen kvs ks h.keys
theorem Dk.val {kvs : List (Key × V)} {ks : List Int} (h : Dk kvs ks) {j : Nat} {k : Key} {v : V} (e : kvs[j]? = some (k, v)) : ∃ i : Int, ks[j]? = some i ∧ k = Sum.inl i ∧ valV kvs k = some v := by
  have e1 : (kvs.map (·.1))[j]? = some k := by rw [List.getElem?_map, e]; rfl
  rw [h.keys, List.getElem?_map] at e1
  obtain ⟨i, hi, rfl⟩ := Option.map_eq_some_iff.mp e1
  refine ⟨i, hi, rfl, ?_⟩
  have gen : ∀ (kvs : List (Key × V)) (ks : List Int) (j : Nat), kvs.map (·.1) = ks.map Sum.inl → ks.Nodup → ks[j]? = some i → kvs[j]? = some (Sum.inl i, v) → valV kvs (Sum.inl i : Key) = some v := by
    intro kvs
    induction kvs with
    | nil => intro ks j _ _ _ z; simp at z
    | cons kv r ih =>
      intro ks j e nd hi hv
      cases ks with
      | nil => cases e
      | cons k r' =>
        rw [List.map_cons, List.map_cons] at e
        injection e with e1 e2
        cases j with
        | zero =>
          simp at hi hv
          rw [valV_pos (by rw [hv]), hv]
        | succ j =>
          simp at hi hv
          have nd' := List.nodup_cons.mp nd
          have : ¬ kv.1 = (Sum.inl i : Key) := by
            rw [e1]
            intro z
            cases z
            exact nd'.1 (List.mem_of_getElem? hi)
          rw [valV_neg this]
          exact ih r' j e2 nd'.2 hi hv
  exact gen kvs ks j h.keys h.nd hi e
theorem Dk.take {kvs : List (Key × V)} {ks : List Int} (h : Dk kvs ks) (j : Nat) : Dk (kvs.take j) (ks.take j) := ⟨by rw [List.map_take, List.map_take, h.keys], h.nd.sublist (List.take_sublist ..)⟩
/-- one pair more is copied -/
theorem Dk.copy {kvs : List (Key × V)} {ks : List Int} (h : Dk kvs ks) {j : Nat} {k : Key} {v : V} (e : kvs[j]? = some (k, v)) : putK (kvs.take j) k v = kvs.take (j + 1) := by
  obtain ⟨i, hi, rfl, _⟩ := h.val e
  have h1 := (h.take j).has i
  rw [← valV_any] at h1
  have hn : i ∉ ks.take j := fun m => by
    obtain ⟨n, hn, en⟩ := List.mem_iff_getElem.mp m
    have hn' : n < j := by rw [List.length_take] at hn; omega
    rw [List.getElem_take] at en
    obtain ⟨hj, ej⟩ := List.getElem?_eq_some_iff.mp hi
    exact (List.pairwise_iff_getElem.mp h.nd) n j (by omega) hj hn' (en.trans ej.symm)
  unfold putK
  rw [h1, if_neg (by simpa using hn), List.take_add_one, e]
  rfl

/-! ### properties, calls with keywords, extend, min of two -/
def kProp (C : Addr) (sp : Sp) (dvs : List V) (E : XK) (Q : V → Hp → Prop) : V → Hp → Prop := fun x H1 => ∃ a dx fs, x = .ref a ∧ H1 a = some (.ins C dx fs) ∧ sp (.ref a :: dvs) H1 Q E
theorem r_prop {C : Addr} {sp : Sp} {dvs : List V} {E : XK} {ta : TE} {σ : L2.St} {H : Hp} {Q : V → Hp → Prop} (h : ta σ H (kProp C sp dvs E Q)) : tProp C sp dvs E ta σ H Q := h
theorem r_kprop {C a dx : Addr} {fs : List (Str × V)} {sp : Sp} {dvs : List V} {E : XK} {H : Hp} {Q : V → Hp → Prop} (h : H a = some (.ins C dx fs)) (q : sp (.ref a :: dvs) H Q E) : kProp C sp dvs E Q (.ref a) H := ⟨a, dx, fs, rfl, h, q⟩
theorem r_makeN {C : Addr} {n m : Nat} {sp : Sp} {gV : List V → List V → List V} {E : XK} {t tk : TA} {σ : L2.St} {H : Hp} {Q : V → Hp → Prop} (h : t σ H fun vs H1 => tk σ H1 fun zs H2 => vs.length = n ∧ zs.length = m ∧ ∀ x dx, H2 x = none → H2 dx = none → dx ≠ x →
    sp (gV (.ref x :: vs) zs) (upd (upd H2 dx (.own x)) x (.ins C dx [])) (fun v H3 => v = .non ∧ Q (.ref x) H3) E) : tMakeN C n m sp gV E t tk σ H Q := h
theorem r_callN {n m : Nat} {sp : Sp} {gV : List V → List V → List V} {E : XK} {t tk : TA} {σ : L2.St} {H : Hp} {Q : V → Hp → Prop} (h : t σ H fun vs H1 => tk σ H1 fun zs H2 => vs.length = n ∧ zs.length = m ∧ sp (gV vs zs) H2 Q E) : tCallN n m sp gV E t tk σ H Q := h
theorem r_ext {l b : Addr} {xs zs : List V} {H : Hp} {Q : V → Hp → Prop} (h : H l = some (.lst xs)) (hb : H b = some (.lst zs)) (hz : xs.length + zs.length ≤ 1000000) (q : Q .non (upd H l (.lst (xs ++ zs)))) : rExtend (.ref l) [.ref b] H Q :=
  ⟨l, b, xs, zs, rfl, rfl, h, hb, by rw [sz]; omega, q⟩

local macro_rules | `(tactic| walk_at "rx1") => `(tactic| with_reducible (first | refine' Sg.r_prop ?_ | (refine' Sg.r_kprop ?h ?_; (case h => (with_unfolding_all walk_at "hp"))) | refine' Sg.r_irev ?_ | (refine' Sg.r_kIv ?h ?_; (case h => (with_unfolding_all walk_at "hp"))) | refine' Sg.r_makeN ?_ | refine' Sg.r_callN ?_ | refine' Sg.r_makeSD ?_ | refine' Sg.r_callSD ?_ | refine' Sg.r_methSD ?_ | (refine' Sg.r_kmethSD ?h ?hl ?_; (case h => (with_unfolding_all walk_at "hp")); (case hl => (with_unfolding_all walk_at "lk"))) | refine' Sg.r_tryA ?_ | refine' Sg.r_din ?_ | refine' Sg.r_kdi ?_ | (refine' Sg.r_kdi2 ?h ?_; (case h => (with_unfolding_all walk_at "hp"))) | (refine' Sg.r_kdi2f ?h ?_; (case h => assumption)) | refine' Sg.r_dnotin ?_ | refine' Sg.r_kdn ?_ | (refine' Sg.r_kdn2 ?h ?_; (case h => (with_unfolding_all walk_at "hp"))) | refine' Sg.r_dget ?_ | refine' Sg.r_kdg ?_ | refine' Sg.r_dget1 ?_ | (refine' Sg.r_kdt ?h ?_; (case h => (with_unfolding_all walk_at "hp"))) | (refine' Sg.r_kdt2 ?h ?_; (case h => (with_unfolding_all walk_at "hp"))) | refine' Sg.r_dput ?_ | refine' Sg.r_kdp ?_ | refine' Sg.r_kdp2 ?_ | (refine' Sg.r_kdp3 ?h ?hl ?_; (case h => (with_unfolding_all walk_at "hp")); (case hl => (with_unfolding_all walk_at "side")); (with_unfolding_all walk_at "up")) | refine' Sg.r_ddel ?_ | refine' Sg.r_kdd ?_ | refine' Sg.r_dpop1 ?_ | (refine' Sg.r_kdo ?h ?_; (case h => (with_unfolding_all walk_at "hp"))) | refine' Sg.r_ikeys ?_ | (refine' Sg.r_kIk ?h ?_; (case h => assumption)) | (refine' Sg.r_dnew ?_; (with_unfolding_all walk_at "al")) | (refine' Sg.r_lenD ?h ?_; (case h => (with_unfolding_all walk_at "hp"))) | (refine' Sg.r_dictD ?h ?_; (case h => (with_unfolding_all walk_at "hp")); (with_unfolding_all walk_at "al"))))
local macro_rules | `(tactic| walk_at "rx") => `(tactic| repeat (first | walk_at "rd1" | walk_at "rx1"))
def IsLeast (ks : List Int) (L : Int) : Prop := 1 ≤ L ∧ L ∉ ks ∧ ∀ i, 1 ≤ i → i < L → i ∈ ks
theorem IsLeast.uniq {ks : List Int} {a b : Int} (h : IsLeast ks a) (h' : IsLeast ks b) : a = b := by
  rcases Int.lt_trichotomy a b with c | c | c
  · exact absurd (h'.2.2 a h.1 c) h.2.1
  · exact c
  · exact absurd (h.2.2 b h'.1 c) h'.2.1
theorem pigeon : ∀ (n : Nat) (ks : List Int), (∀ i : Int, 1 ≤ i → i ≤ n → i ∈ ks) → n ≤ ks.length
  | 0, _, _ => Nat.zero_le _
  | n + 1, ks, h => by
    have hm : ((n + 1 : Nat) : Int) ∈ ks := h _ (by omega) (Int.le_refl _)
    have ih := pigeon n (ks.erase ((n + 1 : Nat) : Int)) fun i h1 h2 => (List.mem_erase_of_ne (by omega)).mpr (h i h1 (by omega))
    rw [List.length_erase_of_mem hm] at ih
    have : 0 < ks.length := List.length_pos_of_mem hm
    omega
/-- all below are there -/
def Below (ks : List Int) (l : Int) : Prop := 1 ≤ l ∧ ∀ i, 1 ≤ i → i < l → i ∈ ks
theorem Below.room {ks : List Int} {l : Int} (h : Below ks l) : l ≤ ks.length + 1 := by
  have := pigeon (l - 1).toNat ks fun i h1 h2 => h.2 i h1 (by omega)
  have := h.1
  omega
theorem Below.step {ks : List Int} {l : Int} (h : Below ks l) (hm : l ∈ ks) : Below ks (l + 1) := ⟨by have := h.1; omega, fun i h1 h2 => by
  by_cases e : i = l
  · rw [e]; exact hm
  · exact h.2 i h1 (by omega)⟩
structure StoFs (fs : List (Str × V)) (lay d : Addr) (lc : Int) : Prop where
  few : fs.length ≤ 20
  lay : fs.lookup ("layout" : Str) = some (.ref lay)
  blocks : fs.lookup ("blocks" : Str) = some (.ref d)
  lc : fs.lookup ("_least_candidate" : Str) = some (.int lc)
  n1 : fs.lookup ("get" : Str) = none
  n2 : fs.lookup ("put" : Str) = none
  n3 : fs.lookup ("remove" : Str) = none
  n4 : fs.lookup ("new_id" : Str) = none
  n5 : fs.lookup ("fork" : Str) = none
def StoAt (C : Addr) (H : Hp) (s lay d : Addr) (lc : Int) : Prop := ∃ dx fs, H s = some (.ins C dx fs) ∧ StoFs fs lay d lc
theorem putF_len1 {f : Str} {x v : V} : ∀ {fs : List (Str × V)}, fs.lookup f = some v → (putF f x fs).length = fs.length
  | [], h => by simp at h
  | (g, y) :: r, h => by
    unfold putF
    by_cases e : g = f
    · rw [if_pos e]
      rfl
    · rw [if_neg e]
      rw [List.lookup_cons] at h
      have hb : (f == g) = false := by
        cases hb : f == g with
        | false => rfl
        | true => exact absurd (eq_of_beq hb).symm e
      rw [hb] at h
      rw [List.length_cons, List.length_cons, putF_len1 h]
theorem StoFs.lc' {fs : List (Str × V)} {lay d : Addr} {lc : Int} (h : StoFs fs lay d lc) (l : Int) : StoFs (putF "_least_candidate" (.int l) fs) lay d l := by
  obtain ⟨h1, h2, h3, h4, g1, g2, g3, g4, g5⟩ := h
  exact ⟨by rw [putF_len1 h4]; exact h1, by walk_at "lk", by walk_at "lk", by walk_at "lk", by walk_at "lk", by walk_at "lk", by walk_at "lk", by walk_at "lk", by walk_at "lk"⟩
def sp_sto (C : Addr) : Sp := fun vs H Q _ => ∃ (s dx lay b : Addr) (kvs : List (Key × V)), vs = [.ref s, .ref lay, .ref b] ∧ H s = some (.ins C dx []) ∧ H b = some (.dK kvs) ∧
  ∀ H' d, (∀ a o, H a = some o → a ≠ s → H' a = some o) → H d = none → H' d = some (.dK kvs) → StoAt C H' s lay d 1 → Q .non H'
theorem ok_Store___init (T : Txt K mg) : FnOk P w K mg base CX0 1 T.a_Store___init T.fd_Store___init ["self", "layout", "blocks"] (sp_sto T.A_Store) := by
  refine T.F_Store___init.ok sc_Store___init (fun vs H Q E h => ?_) (fun cdv A outer s H vs Q E hr h => ?_)
  · obtain ⟨s, dx, lay, b, kvs, rfl, _⟩ := h
    rfl
  · refine ⟨_, (pss_cons (ps_fld (pv 0) (pv 1) rfl)
       (pss_cons (ps_fld (pv 0) (pe_callTy c_dictD (by rfl) T.n_dict (by decide +kernel) (pa_cons (pv 2) pa_nil)) rfl)
       (pss_one (ps_fld (pv 0) pe_int rfl)))), ?_⟩
    try dsimp only [cxOf, Cx.nox, Cx.wish]
    obtain ⟨s, dx, lay, b, kvs, rfl, hs, hb, q⟩ := h
    have cl := T.cl_Store
    have na1 := T.na_Store_layout
    have na2 := T.na_Store_blocks
    have na3 := T.na_Store__least_candidate
    walk_at "rx"
    rename_i H1 e1 h1 d nd H2 s2 h2 H3 e3 h3 H4 e4 h4
    have hne : d ≠ s := fun z => by rw [z, h1] at nd; cases nd
    refine q _ d ?_ ?_ ?_ ⟨dx, _, h4, Sg.putF_len (Sg.putF_len (Sg.putF_len (Nat.zero_le _))), by walk_at "lk", by walk_at "lk", by walk_at "lk", by walk_at "lk", by walk_at "lk", by walk_at "lk", by walk_at "lk", by walk_at "lk"⟩
    · intro a o ha hne
      rw [← e4, upd_ne hne, ← e3, upd_ne hne]
      refine s2 _ _ ?_
      rw [← e1, upd_ne hne]
      exact ha
    · rw [← e1, upd_ne hne] at nd
      exact nd
    · rw [← e4, upd_ne hne, ← e3, upd_ne hne]
      exact h2
def sp_get (C : Addr) : Sp := fun vs H Q _ => ∃ (s lay d : Addr) (lc i : Int) (kvs : List (Key × V)), vs = [.ref s, .int i] ∧ StoAt C H s lay d lc ∧ H d = some (.dK kvs) ∧ Q ((valV kvs (.inl i)).getD .non) H
theorem ok_Store_get (T : Txt K mg) : FnOk P w K mg base CX0 1 T.a_Store_get T.fd_Store_get ["self", "ident"] (sp_get T.A_Store) := by
  refine T.F_Store_get.ok sc_Store_get (fun vs H Q E h => ?_) (fun cdv A outer s H vs Q E hr h => ?_)
  · obtain ⟨s, lay, d, lc, i, kvs, rfl, _⟩ := h
    rfl
  · refine ⟨_, (pss_one (ps_ret (pe_dget1 (hu_of hr) (pe_fld (pv 0) rfl) (pv 1) ⟨rfl, rfl, rfl, rfl⟩))), ?_⟩
    try dsimp only [cxOf, Cx.nox, Cx.wish]
    obtain ⟨s, lay, d, lc, i, kvs, rfl, ⟨dx, fs, hs, F⟩, hd, q⟩ := h
    have cl := T.cl_Store
    have na2 := T.na_Store_blocks
    have f1 := F.blocks
    walk_at "rx"
    exact q
def sp_put (C : Addr) : Sp := fun vs H Q _ => ∃ (s lay d : Addr) (lc i : Int) (v : V) (kvs : List (Key × V)), vs = [.ref s, .int i, v] ∧ StoAt C H s lay d lc ∧ H d = some (.dK kvs) ∧ kvs.length ≤ 1000 ∧ ∀ H', upd H d (.dK (putK kvs (.inl i) v)) = H' → Q .non H'
theorem ok_Store_put (T : Txt K mg) : FnOk P w K mg base CX0 1 T.a_Store_put T.fd_Store_put ["self", "ident", "payload"] (sp_put T.A_Store) := by
  refine T.F_Store_put.ok sc_Store_put (fun vs H Q E h => ?_) (fun cdv A outer s H vs Q E hr h => ?_)
  · obtain ⟨s, lay, d, lc, i, v, kvs, rfl, _⟩ := h
    rfl
  · refine ⟨_, (pss_one (ps_dput (hu_of hr) (pe_fld (pv 0) rfl) (pv 1) (pv 2) rfl)), ?_⟩
    try dsimp only [cxOf, Cx.nox, Cx.wish]
    obtain ⟨s, lay, d, lc, i, v, kvs, rfl, ⟨dx, fs, hs, F⟩, hd, hl, q⟩ := h
    have cl := T.cl_Store
    have na2 := T.na_Store_blocks
    have f1 := F.blocks
    walk_at "rx"
    rename_i H1 e1 h1
    exact q _ e1
def sp_new_id (C : Addr) : Sp := fun vs H Q _ => ∃ (s lay d : Addr) (lc : Int) (kvs : List (Key × V)) (ks : List Int), vs = [.ref s] ∧ StoAt C H s lay d lc ∧ H d = some (.dK kvs) ∧ Dk kvs ks ∧ Below ks lc ∧
  ∀ H' L, IsLeast ks L → (∀ a, a ≠ s → H' a = H a) → StoAt C H' s lay d L → Q (.int L) H'
theorem ok_Store_new_id (T : Txt K mg) : FnOk P w K mg base CX0 1 T.a_Store_new_id T.fd_Store_new_id ["self"] (sp_new_id T.A_Store) := by
  refine T.F_Store_new_id.ok sc_Store_new_id (fun vs H Q E h => ?_) (fun cdv A outer s H vs Q E hr h => ?_)
  · obtain ⟨s, lay, d, lc, kvs, ks, rfl, _⟩ := h
    rfl
  · refine ⟨_, (pss_cons (ps_while PassesOwn.never (pt_cmp (pc_din (hu_of hr) (pe_fld (pv 0) rfl) (pe_fld (pv 0) rfl)) rfl)
       (pss_one (ps_fldaug (pv 0) pe_int in_add)))
       (pss_one (ps_ret (pe_fld (pv 0) rfl)))), ?_⟩
    try dsimp only [cxOf, Cx.nox, Cx.wish]
    obtain ⟨s, lay, d, lc, kvs, ks, rfl, hS, hd, hk, hB, q⟩ := h
    have cl := T.cl_Store
    have na2 := T.na_Store_blocks
    have na3 := T.na_Store__least_candidate
    walk_at "rx"
    have hne : d ≠ s := by
      obtain ⟨dx, fs, hs, F⟩ := hS
      exact ne_of hd hs (by intro z; cases z)
    refine r_while (fun m σ' H' => ∃ l : Int, σ' = [some (.ref s)] ∧ Below ks l ∧ (m : Int) = ks.length + 1 - l ∧ (∀ a, a ≠ s → H' a = H a) ∧ StoAt T.A_Store H' s lay d l) (ks.length + 1 - lc).toNat ⟨lc, rfl, hB, by have := hB.room; omega, fun _ _ => rfl, hS⟩ ?_
    rintro m σ' H' ⟨l, rfl, hB', hm, hf, dx, fs, hs, F⟩
    have f1 := F.blocks
    have f2 := F.lc
    have few := F.few
    have hd' : H' d = some (.dK kvs) := by rw [hf _ hne]; exact hd
    walk_at "rx"
    rw [hk.has]
    refine r_ite (fun hl => ?_) (fun hl => ?_)
    · refine ⟨fun σ' H' => σ' = [some (.ref s)] ∧ (∀ a, a ≠ s → H' a = H a) ∧ StoAt T.A_Store H' s lay d (l + 1), ?_, ?_⟩
      · rintro σ' H' ⟨rfl, hf, hS⟩
        exact ⟨m - 1, by have := hB'.room; have := (hB'.step hl).room; omega, l + 1, rfl, hB'.step hl, by have := (hB'.step hl).room; omega, hf, hS⟩
      · walk_at "rx"
        refine ⟨_, rfl, s, T.A_Store, dx, fs, .int l, rfl, hs, cl, na3, f2, ?_⟩
        refine ⟨_, _, rfl, rfl, dx, fs, hs, by omega, ?_⟩
        generalize e2 : upd _ _ _ = H2
        exact ⟨rfl, fun a ha => by rw [← e2, upd_ne ha]; exact hf a ha, dx, _, at_new e2, F.lc' _⟩
    · walk_at "rx"
      exact q _ _ ⟨hB'.1, hl, hB'.2⟩ hf ⟨dx, fs, hs, F⟩
def sp_bcount (C : Addr) : Sp := fun vs H Q _ => ∃ (s lay d : Addr) (lc : Int) (kvs : List (Key × V)), vs = [.ref s] ∧ StoAt C H s lay d lc ∧ H d = some (.dK kvs) ∧ Q (.int kvs.length) H
theorem ok_Store_block_count (T : Txt K mg) : FnOk P w K mg base CX0 1 T.a_Store_block_count T.fd_Store_block_count ["self"] (sp_bcount T.A_Store) := by
  refine T.F_Store_block_count.ok sc_Store_block_count (fun vs H Q E h => ?_) (fun cdv A outer s H vs Q E hr h => ?_)
  · obtain ⟨s, lay, d, lc, kvs, rfl, _⟩ := h
    rfl
  · refine ⟨_, (pss_one (ps_ret (pe_callB (c_lenD) (by rfl) T.n_len (by decide +kernel) (pa_cons (pe_fld (pv 0) rfl) pa_nil)))), ?_⟩
    try dsimp only [cxOf, Cx.nox, Cx.wish]
    obtain ⟨s, lay, d, lc, kvs, rfl, ⟨dx, fs, hs, F⟩, hd, q⟩ := h
    have cl := T.cl_Store
    have na2 := T.na_Store_blocks
    have f1 := F.blocks
    walk_at "rx"
    exact q

theorem paired_snoc {α β : Type} {F : α → β → Prop} : ∀ {xs : List α} {ys : List β} {x : α} {y : β}, Paired F xs ys → F x y → Paired F (xs ++ [x]) (ys ++ [y])
  | _, _, _, _, .nil, h => .cons h .nil
  | _, _, _, _, .cons r t, h => .cons r (paired_snoc t h)

theorem paired_at {α β : Type} {F : α → β → Prop} : ∀ {xs : List α} {ys : List β} {i : Nat} {x : α}, Paired F xs ys → xs[i]? = some x → ∃ y, ys[i]? = some y ∧ F x y
  | _, _, _, _, .nil, e => by simp at e
  | _, _, 0, _, .cons r t, e => by simp at e; subst e; exact ⟨_, rfl, r⟩
  | _, _, i + 1, _, .cons r t, e => by
    obtain ⟨y, e1, h1⟩ := paired_at (i := i) t (by simpa using e)
    exact ⟨y, by simpa using e1, h1⟩
/-! ### what stays: tuples, and what is frozen -/
def Fixed : HO → Prop
  | .tup _ => True
  | .frz _ _ => True
  | _ => False
def Keeps (H H' : Hp) : Prop := ∀ b o, Fixed o → H b = some o → H' b = some o
theorem Keeps.refl (H : Hp) : Keeps H H := fun _ _ _ h => h
theorem Keeps.trans {H H1 H2 : Hp} (a : Keeps H H1) (b : Keeps H1 H2) : Keeps H H2 := fun c o f h => b c o f (a c o f h)
theorem Keeps.of {H H' : Hp} (s : Same H H') : Keeps H H' := fun b o _ h => s b o h
theorem Keeps.upd {H H' : Hp} {l : Addr} {o ol : HO} (h : H l = some ol) (n : ¬ Fixed ol) (e : L2.upd H l o = H') : Keeps H H' := fun b u f q => by
  rw [← e, upd_ne]
  · exact q
  · rintro rfl
    rw [h] at q
    cases q
    exact n f
theorem Keeps.tup {K : PySem.W.Frag} {H H' : Hp} {a : Addr} {xs : List V} (s : Keeps H H') (h : SqT K H a xs) : SqT K H' a xs := by
  rcases h with (h | ⟨o, h⟩) | h
  · exact .inl (.inl (s _ _ trivial h))
  · exact .inl (.inr ⟨o, s _ _ trivial h⟩)
  · exact .inr h
/-- the script, and what stands written -/
theorem Keeps.script {K : PySem.W.Frag} {H H' : Hp} {a : Addr} {o : Obj} {xs : List V} (s : Keeps H H') (h : H a = some (.frz o (.lst xs))) : SqL K H' a xs := .inl (.inr ⟨o, s _ _ trivial h⟩)
theorem SqL.keep {K : PySem.W.Frag} {H H' : Hp} {a d C dx : Addr} {fs : List (Str × V)} {o : HO} {xs : List V} (h : SqL K H a xs) (hd : H d = some (.ins C dx fs)) (e : L2.upd H d o = H') : SqL K H' a xs := by
  rcases h with (h | ⟨o', h⟩) | h
  · exact .inl (.inl (at_keep e h hd (by intro z; cases z)))
  · exact .inl (.inr ⟨o', at_keep e h hd (by intro z; cases z)⟩)
  · exact .inr h
/-- the script: a list that is read for as long as what is fixed stays -/
def Scr (K : PySem.W.Frag) (H : Hp) (a : Addr) (ns : List Int) : Prop := ∀ H', Keeps H H' → SqL K H' a (ns.map V.int)
theorem scr_of {K : PySem.W.Frag} {H : Hp} {a : Addr} {ns : List Int} (hO : Only H) (h : SqL K H a (ns.map V.int)) : Scr K H a ns := fun H' k => by
  rcases h with (h | ⟨o', h⟩) | h
  · rcases hO a with z | ⟨o, xs, z⟩ <;> rw [h] at z <;> cases z
  · exact .inl (.inr ⟨o', k _ _ trivial h⟩)
  · exact .inr h
/-- [e for x in range], its items anything -/
theorem r_lcR {lo : Int} {n slot : Nat} {vs : List Nat} {te : TE} {σ : L2.St} {H : Hp} {Q : V → Hp → Prop} (P : Nat → List V → Hp → Prop) (hn : n ≤ 100000) (hv : vs = [slot])
    (h0 : P 0 [] H)
    (hs : ∀ (i : Nat) (acc : List V) (H0 H' : Hp), i < n → L2.Same H H0 → P i acc H0 → L2.Same H0 H' → ∀ R : V → Hp → Prop,
      (∀ (v : V) (H'' : Hp), L2.Same H' H'' → (∀ D, H0 D = none → H' D = some (.lst acc) → P (i + 1) (acc ++ [v]) (hid D H'')) → R v H'') → te ((wipe σ vs).set slot (some (.int (lo + i)))) H' R)
    (q : ∀ (H' : Hp) (l : Addr) (acc : List V), L2.Same H H' → H l = none → H' l = some (.lst acc) → acc.length = n → P n acc (hid l H') → Q (.ref l) H') :
    kLc (gName slot) tYes te vs σ Q (Itr lo n) H := by
  intro L hL
  have hw : ∀ (τ : L2.St) (x : V), wipe (τ.set slot (some x)) [slot] = wipe τ [slot] := fun τ x => by simp [wipe, List.set_set]
  have hw2 : wipe (wipe σ vs) vs = wipe σ vs := by subst hv; simp [wipe, List.set_set]
  refine lc_range (fun i H' => ∃ acc : List V, acc.length = i ∧ H' L = some (.lst acc) ∧ L2.Same H H' ∧ P i acc (hid L H')) ⟨[], rfl, upd_same, fun b o e => by rw [upd_ne (ne_of_none e hL)]; exact e, by rw [hid_upd, hid_none hL]; exact h0⟩ ?_ ?_
  · rintro i H' hi ⟨acc, el, eL, s, hp⟩
    refine ⟨?_, ?_⟩
    · subst hv
      rw [hw]
      exact hw2
    · show te ((wipe σ vs).set slot (some (.int (lo + i)))) H' _
      refine hs i acc (hid L H') H' hi (same_hid s hL) hp hid_same _ fun v H'' s2 hP => ⟨acc, s2 _ _ eL, ?_, acc ++ [v], ?_, upd_same, ?_, ?_⟩
      · rw [el, sz]
        omega
      · rw [List.length_append, el]; rfl
      · intro b o e
        rw [upd_ne (ne_of_none e hL)]
        exact s2 _ _ (s _ _ e)
      · rw [hid_upd]
        exact hP L hid_at eL
  · rintro H' ⟨acc, el, eL, s, hp⟩
    exact q H' L acc s hL eL el hp
theorem keeps_hid {H : Hp} {D : Addr} {xs : List V} (h : H D = some (.lst xs)) : Keeps H (hid D H) := fun b o f e => by
  rw [hid_ne (ne_of e h (by rintro rfl; exact f))]
  exact e
theorem Keeps.hid {H H' : Hp} {D : Addr} (k : Keeps H H') (n : H D = none) : Keeps H (hid D H') := fun b o f e => by
  rw [hid_ne (ne_of_none e n)]
  exact k _ _ f e
mutual
/-- data of tuples alone -/
def tOnly : PyData → Bool
  | .none => true
  | .bool _ => true
  | .int _ => true
  | .str _ => true
  | .tuple ds => tOnlyAll ds
  | _ => false
def tOnlyAll : List PyData → Bool
  | [] => true
  | d :: ds => tOnly d && tOnlyAll ds
end
mutual
theorem Dp.keeps {K : PySem.W.Frag} {H H' : Hp} (s : Keeps H H') : ∀ (d : PyData) (v : V), tOnly d = true → Dp K H v d → Dp K H' v d
  | .none, _, _, h => by cases h; exact .non
  | .bool b, _, _, h => by cases h; exact .bl b
  | .int i, _, _, h => by cases h; exact .int i
  | .str x, _, _, h => by cases h; exact .str x
  | .list ds, _, t, _ => by simp [tOnly] at t
  | .tuple ds, _, t, h => by
    cases h with
    | tup hs ha => exact .tup (s.tup hs) (DpAll.keeps s ds _ (by simpa [tOnly] using t) ha)
  | .dict _, _, _, h => by cases h
theorem DpAll.keeps {K : PySem.W.Frag} {H H' : Hp} (s : Keeps H H') : ∀ (ds : List PyData) (vs : List V), tOnlyAll ds = true → DpAll K H vs ds → DpAll K H' vs ds
  | [], _, _, h => by cases h; exact .nil
  | d :: ds, _, t, h => by
    cases h with
    | cons h1 h2 =>
      have t' : tOnly d = true ∧ tOnlyAll ds = true := by simpa [tOnlyAll] using t
      exact .cons (Dp.keeps s d _ t'.1 h1) (DpAll.keeps s ds _ t'.2 h2)
end
/-- a block's value: data of tuples, not deep -/
def Bk (K : PySem.W.Frag) (H : Hp) (v : V) : Prop := ∃ d, Dp K H v d ∧ Fl 3 d ∧ tOnly d = true
theorem Bk.keeps {K : PySem.W.Frag} {H H' : Hp} {v : V} (s : Keeps H H') (h : Bk K H v) : Bk K H' v := by
  obtain ⟨d, h1, h2, h3⟩ := h
  exact ⟨d, Dp.keeps s d v h3 h1, h2, h3⟩
theorem Bk.non {K : PySem.W.Frag} {H : Hp} : Bk K H .non := ⟨.none, .non, Fl.non 3, rfl⟩
theorem tOnly_ints : ∀ ns : List Int, tOnlyAll (ns.map PyData.int) = true
  | [] => rfl
  | n :: ns => by rw [List.map_cons, tOnlyAll, tOnly, tOnly_ints ns]; rfl
/-- a block that the text writes: (kind, sequence, rank, body), the body a tuple of ints -/
theorem Bk.mk {K : PySem.W.Frag} {H : Hp} {t b : Addr} {i j k : Int} {ns : List Int} (h : H t = some (.tup [.int i, .int j, .int k, .ref b])) (hb : SqT K H b (ns.map V.int)) : Bk K H (.ref t) :=
  ⟨.tuple [.int i, .int j, .int k, .tuple (ns.map PyData.int)], .tup (.of h) (.cons (.int _) (.cons (.int _) (.cons (.int _) (.cons (.tup hb (DpAll.ints ns)) .nil)))), (Fl.tup (Fl.cons (Fl.int _ _) (Fl.cons (Fl.int _ _) (Fl.cons (Fl.int _ _) (Fl.cons (Fl.ints ns) Fl.nil))))).mono (by decide),
    by simp [tOnly, tOnlyAll, tOnly_ints]⟩
/-- equal values are equal -/
theorem r_neB {K : PySem.W.Frag} {H : Hp} {v : V} {Q : V → Hp → Prop} (h : Bk K H v) (q : Q (.bl false) H) : rNeD K v v H Q := by
  obtain ⟨d, h1, h2, _⟩ := h
  refine r_ned h1 h1 h2.shaped h2.shaped ?_
  rw [h2.self]
  exact q

def IsH (fan n : Int) (h : Nat) : Prop := n < fan ^ h ∧ ∀ j, j < h → fan ^ j ≤ n
theorem IsH.eq {fan n : Int} {h h' : Nat} (a : IsH fan n h) (b : IsH fan n h') : h = h' := by
  rcases Nat.lt_trichotomy h h' with z | z | z
  · have := b.2 h z
    have := a.1
    omega
  · exact z
  · have := a.2 h' z
    have := b.1
    omega
theorem pow_pos' {fan : Int} (hf : 2 ≤ fan) : ∀ h : Nat, (1 : Int) ≤ fan ^ h
  | 0 => by simp
  | h + 1 => by
    have ih := pow_pos' hf h
    rw [Int.pow_succ]
    have : fan ^ h * 2 ≤ fan ^ h * fan := Int.mul_le_mul_of_nonneg_left hf (by omega)
    omega
theorem pow_step {fan : Int} (hf : 2 ≤ fan) (h : Nat) : fan ^ h * 2 ≤ fan ^ (h + 1) := by
  have := pow_pos' hf h
  rw [Int.pow_succ]
  exact Int.mul_le_mul_of_nonneg_left hf (by omega)
theorem two_pow_le {fan : Int} (hf : 2 ≤ fan) : ∀ h : Nat, (2 : Int) ^ h ≤ fan ^ h
  | 0 => by simp
  | h + 1 => by
    have ih := two_pow_le hf h
    have st := pow_step hf h
    rw [Int.pow_succ 2 h]
    omega
theorem IsH.le {fan n : Int} {h : Nat} (hf : 2 ≤ fan) (hn : n < 2097152) (a : IsH fan n h) : h ≤ 21 := by
  by_cases c : h ≤ 21
  · exact c
  · have h1 := a.2 21 (by omega)
    have h2 := two_pow_le hf 21
    have h3 : (2 : Int) ^ 21 = 2097152 := by decide
    omega
theorem IsH.ex {fan n : Int} (hf : 2 ≤ fan) : ∀ k : Nat, n < fan ^ k → ∃ h, IsH fan n h
  | 0, hn => ⟨0, hn, fun j hj => by omega⟩
  | k + 1, hn => by
    by_cases c : n < fan ^ k
    · exact IsH.ex hf k c
    · refine ⟨k + 1, hn, fun j hj => ?_⟩
      have mono : ∀ d : Nat, fan ^ j ≤ fan ^ (j + d) := fun d => by
        induction d with
        | zero => exact Int.le_refl _
        | succ d ih =>
          have st := pow_step hf (j + d)
          have := pow_pos' hf (j + d)
          have e : j + (d + 1) = j + d + 1 := rfl
          rw [e]
          omega
      have := mono (k - j)
      have e : j + (k - j) = k := by omega
      rw [e] at this
      omega
theorem IsH.some {fan n : Int} (hf : 2 ≤ fan) (hn : n < 2097152) : ∃ h, IsH fan n h := by
  refine IsH.ex hf 21 ?_
  have h2 := two_pow_le hf 21
  have h3 : (2 : Int) ^ 21 = 2097152 := by decide
  omega
def sp_height (CL : Addr) : Sp := fun vs H Q _ => ∃ (p : Addr) (L : Lay) (n : Int), vs = [.ref p, .int n] ∧ LayAt CL L H p ∧ 2 ≤ L.fan ∧ L.fan ≤ 1000 ∧ 0 ≤ n ∧ n < 2097152 ∧ ∀ h : Nat, IsH L.fan n h → Q (.int (h : Nat)) H
theorem ok_least_height (T : Txt K mg) : FnOk P w K mg base CX0 1 T.a_least_height T.fd_least_height ["layout", "number"] (sp_height T.A_Layout) := by
  refine T.F_least_height.ok sc_least_height (fun vs H Q E h => ?_) (fun cdv A outer s H vs Q E hr h => ?_)
  · obtain ⟨p, L, n, rfl, _⟩ := h
    rfl
  · refine ⟨_, (pss_cons (ps_set (i := 2) sc_least_height.nd rfl (Or.inl rfl) pe_int)
       (pss_cons (ps_set (i := 3) sc_least_height.nd rfl (Or.inl rfl) pe_int)
       (pss_cons (ps_while PassesOwn.never (pt_cmpR op_ge (pv 1) (pv 3) (nomark _))
       (pss_cons (ps_aug (i := 2) sc_least_height.nd rfl (Or.inl rfl) pe_int ip_add)
       (pss_one (ps_set (i := 3) sc_least_height.nd rfl (Or.inl rfl) (pe_op op_mul (pv 3) (pe_fld (pv 0) rfl))))))
       (pss_one (ps_ret (pv 2)))))), ?_⟩
    try dsimp only [cxOf, Cx.nox, Cx.wish]
    obtain ⟨p, L, n, rfl, ⟨dx, fs, hp, hL⟩, f0, f1, n0, n1, q⟩ := h
    have cl := T.cl_Layout
    have na := T.na_Layout_fan
    have lk := hL.fan
    walk_at "rd"
    refine r_while (fun m σ' H' => ∃ hh : Nat, σ' = [some (.ref p), some (.int n), some (.int (hh : Nat)), some (.int (L.fan ^ hh))] ∧ H = H' ∧ (∀ j, j < hh → L.fan ^ j ≤ n) ∧ (m : Int) = max 0 (2 * n + 2 - L.fan ^ hh)) (2 * n + 1).toNat ⟨0, by rw [Int.pow_zero]; rfl, rfl, fun j hj => by omega, ?_⟩ ?_
    · rw [Int.pow_zero]
      omega
    · rintro m σ' H' ⟨hh, rfl, rfl, hj, em⟩
      have pp := pow_pos' f0 hh
      have ps := pow_step f0 hh
      have pe : L.fan ^ hh * L.fan = L.fan ^ (hh + 1) := (Int.pow_succ _ _).symm
      generalize hsp : L.fan ^ hh = sp at pp ps em pe
      walk_at "rd"
      refine r_ite (fun c => ⟨fun σ' H' => ∃ m', m' < m ∧ ∃ hh : Nat, σ' = [some (.ref p), some (.int n), some (.int (hh : Nat)), some (.int (L.fan ^ hh))] ∧ H = H' ∧ (∀ j, j < hh → L.fan ^ j ≤ n) ∧ (m' : Int) = max 0 (2 * n + 2 - L.fan ^ hh), fun _ _ z => z, ?_⟩) (fun c => ?_)
      · walk_at "rd"
        refine ⟨(2 * n + 2 - L.fan ^ (hh + 1)).toNat, by omega, hh + 1, ?_, rfl, fun j hj' => ?_, by omega⟩
        · rw [← pe]
          rfl
        · by_cases e : j = hh
          · subst e; omega
          · exact hj j (by omega)
      · walk_at "rd"
        exact q hh ⟨by omega, hj⟩

/-! ### a store of payloads -/
theorem nf_lst {xs : List V} : ¬ Fixed (.lst xs) := fun z => z
theorem nf_ins {C dx : Addr} {fs : List (Str × V)} : ¬ Fixed (.ins C dx fs) := fun z => z
abbrev Pay := Int × List Int
def PayAt (K : PySem.W.Frag) (H : Hp) (v : V) (p : Pay) : Prop := ∃ t b, v = .ref t ∧ SqT K H t [.int p.1, .ref b] ∧ SqT K H b (p.2.map V.int)
theorem PayAt.keeps {K : PySem.W.Frag} {H H' : Hp} {v : V} {p : Pay} (s : Keeps H H') (h : PayAt K H v p) : PayAt K H' v p := by
  obtain ⟨t, b, e, h1, h2⟩ := h
  exact ⟨t, b, e, s.tup h1, s.tup h2⟩
def upB (B : Int → Option Pay) (i : Int) (p : Pay) : Int → Option Pay := fun j => if j = i then some p else B j
def addK (ks : List Int) (i : Int) : List Int := if i ∈ ks then ks else ks ++ [i]
structure DkB (K : PySem.W.Frag) (H : Hp) (kvs : List (Key × V)) (ks : List Int) (B : Int → Option Pay) : Prop where
  dk : Dk kvs ks
  no : ∀ i, i ∉ ks → B i = none
  yes : ∀ i, i ∈ ks → ∃ v p, valV kvs (Sum.inl i : Key) = some v ∧ B i = some p ∧ PayAt K H v p
theorem DkB.keeps {K : PySem.W.Frag} {H H' : Hp} {kvs : List (Key × V)} {ks : List Int} {B : Int → Option Pay} (s : Keeps H H') (h : DkB K H kvs ks B) : DkB K H' kvs ks B := ⟨h.dk, h.no, fun i hi => by
  obtain ⟨v, p, a, b, c⟩ := h.yes i hi
  exact ⟨v, p, a, b, c.keeps s⟩⟩
theorem mem_addK {ks : List Int} {i j : Int} : j ∈ addK ks i ↔ j ∈ ks ∨ j = i := by
  unfold addK
  by_cases c : i ∈ ks
  · rw [if_pos c]
    exact ⟨.inl, fun h => h.elim id fun e => e ▸ c⟩
  · rw [if_neg c]
    simp
theorem DkB.put {K : PySem.W.Frag} {H : Hp} {kvs : List (Key × V)} {ks : List Int} {B : Int → Option Pay} {i : Int} {v : V} {p : Pay} (h : DkB K H kvs ks B) (hv : PayAt K H v p) : DkB K H (putK kvs (Sum.inl i) v) (addK ks i) (upB B i p) := by
  refine ⟨h.dk.put i v, fun j hj => ?_, fun j hj => ?_⟩
  · rw [mem_addK, not_or] at hj
    unfold upB
    rw [if_neg hj.2]
    exact h.no j hj.1
  · rw [mem_addK] at hj
    rw [valV_put]
    unfold upB
    by_cases e : j = i
    · rw [if_pos (by rw [e]), if_pos e]
      exact ⟨v, p, rfl, rfl, hv⟩
    · rw [if_neg (fun z => e (Sum.inl.inj z)), if_neg e]
      exact h.yes j (hj.resolve_right e)
/-- what is neither an object nor a dict stays -/
def Pln (o : HO) : Prop := match o with
  | .ins _ _ _ => False
  | .dK _ => False
  | _ => True
/-- all but some objects stays -/
def Ex (L : List Addr) (H H' : Hp) : Prop := ∀ a u, a ∉ L → H a = some u → H' a = some u
theorem Ex.refl (L : List Addr) (H : Hp) : Ex L H H := fun _ _ _ h => h
theorem Ex.of {L : List Addr} {H H' : Hp} (s : Same H H') : Ex L H H' := fun a u _ h => s a u h
theorem Ex.trans {L : List Addr} {H H1 H' : Hp} (a : Ex L H H1) (b : Ex L H1 H') : Ex L H H' := fun x u n h => b x u n (a x u n h)
theorem Ex.mono {L L' : List Addr} {H H' : Hp} (h : ∀ a ∈ L, a ∈ L') (e : Ex L H H') : Ex L' H H' := fun x u n q => e x u (fun z => n (h x z)) q
theorem Ex.put {L : List Addr} {H H' : Hp} {a : Addr} {o : HO} (h : a ∈ L) (e : L2.upd H a o = H') : Ex L H H' := fun x u n q => by
  rw [← e, L2.upd_ne (fun z : x = a => n (by rw [z]; exact h))]
  exact q
theorem SqL.ex {K : PySem.W.Frag} {X : List Addr} {H H' : Hp} {a : Addr} {xs : List V} (h : SqL K H a xs) (e : Ex X H H') (n : ∀ o, H a = some o → Pln o → a ∉ X) : SqL K H' a xs := by
  rcases h with (h | ⟨o, h⟩) | h
  · exact .inl (.inl (e a _ (n _ h trivial) h))
  · exact .inl (.inr ⟨o, e a _ (n _ h trivial) h⟩)
  · exact .inr h
/-- a store over a layout -/
structure SW (K : PySem.W.Frag) (CS CL : Addr) (H : Hp) (s d lay : Addr) (L : Lay) (ks : List Int) (B : Int → Option Pay) : Prop where
  sto : ∃ lc, StoAt CS H s lay d lc ∧ Below ks lc
  blk : ∃ kvs, H d = some (.dK kvs) ∧ DkB K H kvs ks B
  hl : LayAt CL L H lay
  ne : lay ≠ s
theorem SW.ds {K : PySem.W.Frag} {CS CL : Addr} {H : Hp} {s d lay : Addr} {L : Lay} {ks : List Int} {B : Int → Option Pay} (h : SW K CS CL H s d lay L ks B) : d ≠ s ∧ d ≠ lay := by
  obtain ⟨⟨lc, ⟨dx, fs, h1, _⟩, _⟩, ⟨kvs, h2, _⟩, ⟨dx', fs', h3, _⟩, _⟩ := h
  exact ⟨ne_of h2 h1 (by intro z; cases z), ne_of h2 h3 (by intro z; cases z)⟩
theorem SW.nin {K : PySem.W.Frag} {CS CL : Addr} {H : Hp} {s d lay a : Addr} {L : Lay} {ks : List Int} {B : Int → Option Pay} {o : HO} (h : SW K CS CL H s d lay L ks B) (ha : H a = some o) (hp : Pln o) : a ∉ [s, d] := by
  obtain ⟨⟨lc, ⟨dx, fs, h1, _⟩, _⟩, ⟨kvs, h2, _⟩, _⟩ := h
  intro z
  simp only [List.mem_cons, List.not_mem_nil, or_false] at z
  rcases z with rfl | rfl
  · rw [h1] at ha; cases ha; exact hp
  · rw [h2] at ha; cases ha; exact hp
theorem fixed_pln {o : HO} (h : Fixed o) : Pln o := by
  cases o <;> first | trivial | exact h
theorem SW.keeps {K : PySem.W.Frag} {CS CL : Addr} {H H' : Hp} {s d lay : Addr} {L : Lay} {ks : List Int} {B : Int → Option Pay} (h : SW K CS CL H s d lay L ks B) (e : Ex [s, d] H H') : Keeps H H' := fun a o hf ha => e a o (h.nin ha (fixed_pln hf)) ha
theorem SW.mono {K : PySem.W.Frag} {CS CL : Addr} {H H' : Hp} {s d lay : Addr} {L : Lay} {ks : List Int} {B : Int → Option Pay} (e : Same H H') (h : SW K CS CL H s d lay L ks B) : SW K CS CL H' s d lay L ks B := by
  obtain ⟨⟨lc, ⟨dx, fs, h1, h1'⟩, hb⟩, ⟨kvs, h2, h3⟩, h4, h5⟩ := h
  exact ⟨⟨lc, ⟨dx, fs, e _ _ h1, h1'⟩, hb⟩, ⟨kvs, e _ _ h2, h3.keeps (Keeps.of e)⟩, h4.mono e, h5⟩
theorem LayAt.ex {C : Addr} {L : Lay} {H H' : Hp} {p : Addr} {X : List Addr} (h : LayAt C L H p) (n : p ∉ X) (e : Ex X H H') : LayAt C L H' p := by
  obtain ⟨dx, fs, h1, h2⟩ := h
  exact ⟨dx, fs, e _ _ n h1, h2⟩
/-- the store when another object is changed -/
theorem SW.other {K : PySem.W.Frag} {CS CL : Addr} {H H' : Hp} {s d lay : Addr} {L : Lay} {ks : List Int} {B : Int → Option Pay} {X : List Addr} (h : SW K CS CL H s d lay L ks B) (n1 : s ∉ X) (n2 : d ∉ X) (n3 : lay ∉ X) (k : Keeps H H') (e : Ex X H H') : SW K CS CL H' s d lay L ks B := by
  obtain ⟨⟨lc, ⟨dx, fs, h1, h1'⟩, hb⟩, ⟨kvs, h2, h3⟩, h4, h5⟩ := h
  exact ⟨⟨lc, ⟨dx, fs, e _ _ n1 h1, h1'⟩, hb⟩, ⟨kvs, e _ _ n2 h2, h3.keeps k⟩, h4.ex n3 e, h5⟩
/-- the least number that is free -/
def lstF (ks : List Int) : Int := (((List.range (ks.length + 1)).map fun n => ((n : Nat) : Int) + 1).find? fun i => decide (i ∉ ks)).getD 1
theorem lstF_is (ks : List Int) : IsLeast ks (lstF ks) := by
  unfold lstF
  cases e : ((List.range (ks.length + 1)).map fun n => ((n : Nat) : Int) + 1).find? fun i => decide (i ∉ ks) with
  | none =>
    exfalso
    have h := List.find?_eq_none.mp e
    have := pigeon (ks.length + 1) ks fun i h1 h2 => by
      have := h i (List.mem_map.mpr ⟨(i - 1).toNat, List.mem_range.mpr (by omega), by omega⟩)
      simpa using this
    omega
  | some i =>
    rw [Option.getD_some]
    obtain ⟨h1, as, bs, h2, h3⟩ := List.find?_eq_some_iff_append.mp e
    have hm : i ∈ (List.range (ks.length + 1)).map fun n => ((n : Nat) : Int) + 1 := by rw [h2]; simp
    obtain ⟨n, hn, rfl⟩ := List.mem_map.mp hm
    refine ⟨by omega, by simpa using h1, fun j j1 j2 => ?_⟩
    have hl : as.length = n := by
      have e1 : ((List.range (ks.length + 1)).map fun n => ((n : Nat) : Int) + 1)[as.length]? = some ((n : Int) + 1) := by rw [h2]; simp
      rw [List.getElem?_map] at e1
      obtain ⟨m, hm, em⟩ := Option.map_eq_some_iff.mp e1
      obtain ⟨hm1, hm2⟩ := List.getElem?_eq_some_iff.mp hm
      rw [List.getElem_range] at hm2
      omega
    have hj : j ∈ as := by
      have e1 : ((List.range (ks.length + 1)).map fun n => ((n : Nat) : Int) + 1)[(j - 1).toNat]? = some j := by
        have := List.mem_range.mp hn
        rw [List.getElem?_map, List.getElem?_range (by omega)]
        simp
        omega
      rw [h2, List.getElem?_append_left (by omega)] at e1
      exact List.mem_of_getElem? e1
    have := h3 j hj
    simpa using this
theorem lstF_pos (ks : List Int) : 1 ≤ lstF ks := (lstF_is ks).1
theorem lstF_nin (ks : List Int) : lstF ks ∉ ks := (lstF_is ks).2.1
theorem addK_new (ks : List Int) : addK ks (lstF ks) = ks ++ [lstF ks] := by
  unfold addK
  rw [if_neg (lstF_nin ks)]
theorem Below.add {ks : List Int} {lc i : Int} (h : Below ks lc) : Below (addK ks i) lc := ⟨h.1, fun j j1 j2 => mem_addK.mpr (.inl (h.2 j j1 j2))⟩
/-! walking rules of a store's methods -/
theorem i_sget {K : PySem.W.Frag} {CS CL : Addr} {args_ : List V} {H : Hp} {Q : V → Hp → Prop} {E : XK} {s d lay : Addr} {L : Lay} {ks : List Int} {B : Int → Option Pay} {i : Int} {p : Pay} (ev : args_ = [.ref s, .int i]) (hW : SW K CS CL H s d lay L ks B) (hB : B i = some p)
    (q : ∀ t b, SqT K H t [.int p.1, .ref b] → SqT K H b (p.2.map V.int) → Q (.ref t) H) : sp_get CS args_ H Q E := by
  obtain ⟨⟨lc, hS, hb⟩, ⟨kvs, hd, hk⟩, _, _⟩ := hW
  refine ⟨s, lay, d, lc, i, kvs, ev, hS, hd, ?_⟩
  have hi : i ∈ ks := Decidable.byContradiction fun z => by rw [hk.no i z] at hB; cases hB
  obtain ⟨v, p', e1, e2, t, b, rfl, h1, h2⟩ := hk.yes i hi
  rw [hB] at e2
  cases e2
  rw [e1]
  exact q t b h1 h2
theorem i_sget0 {K : PySem.W.Frag} {CS CL : Addr} {args_ : List V} {H : Hp} {Q : V → Hp → Prop} {E : XK} {s d lay : Addr} {L : Lay} {ks : List Int} {B : Int → Option Pay} {i : Int} (ev : args_ = [.ref s, .int i]) (hW : SW K CS CL H s d lay L ks B) (hB : B i = none) (q : Q .non H) : sp_get CS args_ H Q E := by
  obtain ⟨⟨lc, hS, hb⟩, ⟨kvs, hd, hk⟩, _, _⟩ := hW
  refine ⟨s, lay, d, lc, i, kvs, ev, hS, hd, ?_⟩
  have hi : i ∉ ks := fun z => by
    obtain ⟨v, p, _, e2, _⟩ := hk.yes i z
    rw [hB] at e2; cases e2
  have := hk.dk.has i
  rw [decide_eq_false hi] at this
  rw [Option.isSome_eq_false_iff.mp this |> Option.isNone_iff_eq_none.mp]
  exact q
theorem i_sput {K : PySem.W.Frag} {CS CL : Addr} {args_ : List V} {H : Hp} {Q : V → Hp → Prop} {E : XK} {s d lay : Addr} {L : Lay} {ks : List Int} {B : Int → Option Pay} {i : Int} {v : V} {p : Pay} (ev : args_ = [.ref s, .int i, v]) (hW : SW K CS CL H s d lay L ks B) (hv : PayAt K H v p) (hs : ks.length ≤ 1000)
    (q : ∀ H', Ex [s, d] H H' → SW K CS CL H' s d lay L (addK ks i) (upB B i p) → Q .non H') : sp_put CS args_ H Q E := by
  obtain ⟨hds, hdl⟩ := hW.ds
  obtain ⟨⟨lc, hS, hb⟩, ⟨kvs, hd, hk⟩, hl, ne⟩ := id hW
  refine ⟨s, lay, d, lc, i, v, kvs, ev, hS, hd, by rw [hk.dk.len]; exact hs, fun H' e => ?_⟩
  have ex : Ex [s, d] H H' := Ex.put (by simp) e
  have kp := hW.keeps ex
  obtain ⟨dx, fs, h1, h2⟩ := hS
  exact q H' ex ⟨⟨lc, ⟨dx, fs, by rw [← e, upd_ne hds.symm]; exact h1, h2⟩, hb.add⟩, ⟨_, at_new e, (hk.put hv).keeps kp⟩, hl.ex (by simp only [List.mem_cons, List.not_mem_nil, or_false, not_or]; exact ⟨ne, hdl.symm⟩) ex, ne⟩
theorem i_snew {K : PySem.W.Frag} {CS CL : Addr} {args_ : List V} {H : Hp} {Q : V → Hp → Prop} {E : XK} {s d lay : Addr} {L : Lay} {ks : List Int} {B : Int → Option Pay} (ev : args_ = [.ref s]) (hW : SW K CS CL H s d lay L ks B)
    (q : ∀ H', Ex [s, d] H H' → SW K CS CL H' s d lay L ks B → Q (.int (lstF ks)) H') : sp_new_id CS args_ H Q E := by
  obtain ⟨hds, hdl⟩ := hW.ds
  obtain ⟨⟨lc, hS, hb⟩, ⟨kvs, hd, hk⟩, hl, ne⟩ := id hW
  refine ⟨s, lay, d, lc, kvs, ks, ev, hS, hd, hk.dk, hb, fun H' L' hL hf hS' => ?_⟩
  have ex : Ex [s, d] H H' := fun a u n h => by
    rw [hf a (fun z => n (by rw [z]; simp))]
    exact h
  rw [hL.uniq (lstF_is ks)] at *
  exact q H' ex ⟨⟨_, hS', ⟨hL.1, hL.2.2⟩⟩, ⟨kvs, by rw [hf d hds]; exact hd, hk.keeps (hW.keeps ex)⟩, hl.ex (by simp only [List.mem_cons, List.not_mem_nil, or_false, not_or]; exact ⟨ne, hdl.symm⟩) ex, ne⟩
theorem i_scount {K : PySem.W.Frag} {CS CL : Addr} {args_ : List V} {H : Hp} {Q : V → Hp → Prop} {E : XK} {s d lay : Addr} {L : Lay} {ks : List Int} {B : Int → Option Pay} (ev : args_ = [.ref s]) (hW : SW K CS CL H s d lay L ks B) (q : Q (.int (ks.length : Nat)) H) : sp_bcount CS args_ H Q E := by
  obtain ⟨⟨lc, hS, hb⟩, ⟨kvs, hd, hk⟩, hl, ne⟩ := hW
  exact ⟨s, lay, d, lc, kvs, ev, hS, hd, by rw [hk.dk.len]; exact q⟩

/-! ### o.f += an int -/
theorem r_fldaug {K : PySem.W.Frag} {D : Ends} {σ : L2.St} {H : Hp} {n : Nat} {a C dx : Addr} {fs : List (Str × V)} {f : Str} {i k : Int} (hv : σ[n]? = some (some (.ref a))) (h : H a = some (.ins C dx fs)) (hc : Cls K C) (hn : NoAttr K C f) (hl : fs.lookup f = some (.int i)) (few : fs.length < 1000)
    (q : D.nx σ (upd H a (.ins C dx (putF f (.int (i + k)) fs)))) : sFldAug K (tVar n) (tC (.int k)) rAdd f D σ H := ⟨_, hv, a, C, dx, fs, _, rfl, h, hc, hn, hl, _, _, rfl, rfl, dx, fs, h, few, q⟩
local macro_rules | `(tactic| walk_at "ca1") => `(tactic| with_reducible (refine' Sg.r_fldaug (by with_unfolding_all rfl) ?h ?hc ?hn ?hl ?few ?_; (case h => (with_unfolding_all walk_at "hp")); (case hc => assumption); (case hn => assumption); (case hl => (with_unfolding_all walk_at "lk")); (case few => (with_unfolding_all walk_at "few")); (with_unfolding_all walk_at "up")))

local macro_rules | `(tactic| walk_at "pr") => `(tactic| with_reducible (refine' Sg.SW.mono ?h1 ?h2; (case h1 => assumption); (case h2 => walk_at "pr")))
local macro_rules | `(tactic| walk_at "ca1") => `(tactic| with_reducible (refine' Sg.i_sget ?ev ?hW ?hB ?_; (case ev => (with_unfolding_all rfl)); (case hW => (with_unfolding_all walk_at "pr")); (case hB => (with_unfolding_all assumption)); intros))
local macro_rules | `(tactic| walk_at "ca1") => `(tactic| with_reducible (refine' Sg.i_sput ?ev ?hW ?hv ?hs ?_; (case ev => (with_unfolding_all rfl)); (case hW => (with_unfolding_all walk_at "pr")); (case hv => (with_unfolding_all assumption)); (case hs => omega); intros))
local macro_rules | `(tactic| walk_at "ca1") => `(tactic| with_reducible (refine' Sg.i_snew ?ev ?hW ?_; (case ev => (with_unfolding_all rfl)); (case hW => (with_unfolding_all walk_at "pr")); intros))
local macro_rules | `(tactic| walk_at "ca1") => `(tactic| with_reducible (refine' Sg.i_scount ?ev ?hW ?_; (case ev => (with_unfolding_all rfl)); (case hW => (with_unfolding_all walk_at "pr"))))
/-! ### files -/
structure FilFs (fs : List (Str × V)) (sz hh rt : Int) : Prop where
  few : fs.length ≤ 20
  size : fs.lookup ("size" : Str) = some (.int sz)
  height : fs.lookup ("height" : Str) = some (.int hh)
  root : fs.lookup ("root" : Str) = some (.int rt)
theorem FilFs.height' {fs : List (Str × V)} {sz hh rt : Int} (h : FilFs fs sz hh rt) (x : Int) : FilFs (putF "height" (.int x) fs) sz x rt := by
  obtain ⟨h1, h2, h3, h4⟩ := h
  exact ⟨by rw [putF_len1 h3]; exact h1, by walk_at "lk", by walk_at "lk", by walk_at "lk"⟩
theorem FilFs.root' {fs : List (Str × V)} {sz hh rt : Int} (h : FilFs fs sz hh rt) (x : Int) : FilFs (putF "root" (.int x) fs) sz hh x := by
  obtain ⟨h1, h2, h3, h4⟩ := h
  exact ⟨by rw [putF_len1 h4]; exact h1, by walk_at "lk", by walk_at "lk", by walk_at "lk"⟩
theorem FilFs.size' {fs : List (Str × V)} {sz hh rt : Int} (h : FilFs fs sz hh rt) (x : Int) : FilFs (putF "size" (.int x) fs) x hh rt := by
  obtain ⟨h1, h2, h3, h4⟩ := h
  exact ⟨by rw [putF_len1 h2]; exact h1, by walk_at "lk", by walk_at "lk", by walk_at "lk"⟩
def FilAt (C : Addr) (H : Hp) (f : Addr) (sz hh rt : Int) : Prop := ∃ dx fs, H f = some (.ins C dx fs) ∧ FilFs fs sz hh rt
/-- a store and a file -/
structure TW (K : PySem.W.Frag) (CS CL CF : Addr) (H : Hp) (s d lay f : Addr) (L : Lay) (ks : List Int) (B : Int → Option Pay) (sz hh rt : Int) : Prop where
  sw : SW K CS CL H s d lay L ks B
  fl : FilAt CF H f sz hh rt
  n1 : f ≠ s
  n2 : f ≠ lay
theorem TW.mono {K : PySem.W.Frag} {CS CL CF : Addr} {H H' : Hp} {s d lay f : Addr} {L : Lay} {ks : List Int} {B : Int → Option Pay} {sz hh rt : Int} (e : Same H H') (h : TW K CS CL CF H s d lay f L ks B sz hh rt) : TW K CS CL CF H' s d lay f L ks B sz hh rt := by
  obtain ⟨h1, ⟨dx, fs, h2, h3⟩, h4, h5⟩ := h
  exact ⟨h1.mono e, ⟨dx, fs, e _ _ h2, h3⟩, h4, h5⟩
theorem TW.df {K : PySem.W.Frag} {CS CL CF : Addr} {H : Hp} {s d lay f : Addr} {L : Lay} {ks : List Int} {B : Int → Option Pay} {sz hh rt : Int} (h : TW K CS CL CF H s d lay f L ks B sz hh rt) : d ≠ f := by
  obtain ⟨⟨_, ⟨kvs, h2, _⟩, _, _⟩, ⟨dx, fs, h3, _⟩, _, _⟩ := h
  exact ne_of h2 h3 (by intro z; cases z)
/-- the store has changed -/
theorem TW.stw {K : PySem.W.Frag} {CS CL CF : Addr} {H H' : Hp} {s d lay f : Addr} {L : Lay} {ks ks' : List Int} {B B' : Int → Option Pay} {sz hh rt : Int} (h : TW K CS CL CF H s d lay f L ks B sz hh rt) (e : Ex [s, d] H H') (h' : SW K CS CL H' s d lay L ks' B') : TW K CS CL CF H' s d lay f L ks' B' sz hh rt := by
  have df := h.df
  obtain ⟨h1, ⟨dx, fs, h2, h3⟩, h4, h5⟩ := h
  exact ⟨h', ⟨dx, fs, e _ _ (by simp only [List.mem_cons, List.not_mem_nil, or_false, not_or]; exact ⟨h4, df.symm⟩) h2, h3⟩, h4, h5⟩
theorem TW.nin {K : PySem.W.Frag} {CS CL CF : Addr} {H : Hp} {s d lay f a : Addr} {L : Lay} {ks : List Int} {B : Int → Option Pay} {sz hh rt : Int} {o : HO} (h : TW K CS CL CF H s d lay f L ks B sz hh rt) (ha : H a = some o) (hp : Pln o) : a ∉ [s, d, f] := by
  have n := h.sw.nin ha hp
  obtain ⟨h1, ⟨dx, fs, h2, h3⟩, h4, h5⟩ := h
  simp only [List.mem_cons, List.not_mem_nil, or_false, not_or] at n ⊢
  refine ⟨n.1, n.2, fun z => ?_⟩
  rw [z, h2] at ha; cases ha; exact hp
theorem TW.keeps {K : PySem.W.Frag} {CS CL CF : Addr} {H H' : Hp} {s d lay f : Addr} {L : Lay} {ks : List Int} {B : Int → Option Pay} {sz hh rt : Int} (h : TW K CS CL CF H s d lay f L ks B sz hh rt) (e : Ex [s, d, f] H H') : Keeps H H' := fun a o hf ha => e a o (h.nin ha (fixed_pln hf)) ha
/-- the file has changed -/
theorem TW.flw {K : PySem.W.Frag} {CS CL CF : Addr} {H H' : Hp} {s d lay f dx : Addr} {L : Lay} {ks : List Int} {B : Int → Option Pay} {sz hh rt sz' hh' rt' : Int} {fs' : List (Str × V)} (h : TW K CS CL CF H s d lay f L ks B sz hh rt) (e : upd H f (.ins CF dx fs') = H') (hf : FilFs fs' sz' hh' rt') : TW K CS CL CF H' s d lay f L ks B sz' hh' rt' := by
  have df := h.df
  have ex : Ex [f] H H' := Ex.put (by simp) e
  have kp : Keeps H H' := h.keeps (ex.mono (by simp))
  obtain ⟨h1, ⟨dx, fs, h2, h3⟩, h4, h5⟩ := h
  exact ⟨h1.other (by simpa using h4.symm) (by simpa using df) (by simpa using h5.symm) kp ex, ⟨_, _, at_new e, hf⟩, h4, h5⟩
theorem Ex.l3 {s d f : Addr} {H H' : Hp} (e : Ex [s, d] H H') : Ex [s, d, f] H H' := e.mono (fun a h => by simp only [List.mem_cons, List.not_mem_nil, or_false] at h ⊢; rcases h with h | h <;> simp [h])
theorem Ex.f3 {s d f : Addr} {H H' : Hp} {o : HO} (e : upd H f o = H') : Ex [s, d, f] H H' := Ex.put (by simp) e
local macro_rules | `(tactic| walk_at "pr") => `(tactic| with_reducible (refine' Sg.TW.mono ?h1 ?h2; (case h1 => assumption); (case h2 => walk_at "pr")))
/-! ### trees: the mirror -/
def child (B : Int → Option Pay) (i : Int) (k : Nat) : Int := match B i with
  | some (_, its) => its.getD k 0
  | none => 0
def dn (B : Int → Option Pay) (c : Nat) : Nat → Int → Nat → Int
  | 0, i, _ => i
  | j + 1, i, r => if i = 0 then 0 else dn B c j (child B i (r / c ^ j)) (r % c ^ j)
def blkId (B : Int → Option Pay) (c h : Nat) (rt : Int) (n : Nat) : Int := if n < c ^ h then dn B c h rt n else 0
def Wf (B : Int → Option Pay) (c : Nat) : Nat → Int → Prop
  | 0, _ => True
  | j + 1, i => i ≠ 0 → ∃ k its, B i = some (k, its) ∧ its.length = c ∧ ∀ m, m < c → Wf B c j (its.getD m 0)
def wayB (B : Int → Option Pay) (c : Nat) : Nat → Int → Nat → List (Int × Int)
  | 0, _, _ => []
  | j + 1, i, r => (i, ((r / c ^ j : Nat) : Int)) :: wayB B c j (if i = 0 then 0 else child B i (r / c ^ j)) (r % c ^ j)
def sp_span_of (C : Addr) : Sp := fun args_ H Q _ => ∃ (p : Addr) (L : Lay) (c h : Nat), args_ = [.ref p, .int (h : Nat)] ∧ LayAt C L H p ∧ L.fan = (c : Nat) ∧ c ≤ 1000 ∧ h ≤ 1000 ∧ Q (.int ((c ^ h : Nat) : Int)) H
theorem i_span_of {C : Addr} {args_ : List V} {H : Hp} {Q : V → Hp → Prop} {E : XK} {p : Addr} {L : Lay} {c h : Nat} (ev : args_ = [.ref p, .int (h : Nat)]) (hL : LayAt C L H p) (ec : L.fan = (c : Nat)) (c1 : c ≤ 1000) (h1 : h ≤ 1000) (q : Q (.int ((c ^ h : Nat) : Int)) H) : sp_span_of C args_ H Q E := ⟨p, L, c, h, ev, hL, ec, c1, h1, q⟩
local macro_rules | `(tactic| walk_at "ca1") => `(tactic| with_reducible (refine' Sg.i_span_of ?ev ?hL ?ec ?c1 ?h1 ?_; (case ev => (with_unfolding_all rfl)); (case hL => (with_unfolding_all walk_at "pr")); (case ec => (with_unfolding_all walk_at "pr")); (case c1 => (with_unfolding_all walk_at "pr")); (case h1 => (with_unfolding_all walk_at "pr"))))

theorem ok_span_of (T : Txt K mg) : FnOk P w K mg base CX0 1 T.a_span_of T.fd_span_of ["layout", "height"] (sp_span_of T.A_Layout) := by
  refine T.F_span_of.ok sc_span_of (fun vs H Q E h => ?_) (fun cdv A outer s H vs Q E hr h => ?_)
  · obtain ⟨p, L, c, h, rfl, _⟩ := h
    rfl
  · refine ⟨_, (pss_cons (ps_set (i := 2) sc_span_of.nd rfl (Or.inl rfl) pe_int)
       (pss_cons (ps_for PassesOwn.never rfl (pi_range1 rfl T.n_range (pa_cons (pv 1) pa_nil)) (pg_name (i := 3) sc_span_of.nd rfl (Or.inl rfl))
       (pss_one (ps_set (i := 2) sc_span_of.nd rfl (Or.inl rfl) (pe_op op_mul (pv 2) (pe_fld (pv 0) rfl)))))
       (pss_one (ps_ret (pv 2))))), ?_⟩
    try dsimp only [cxOf, Cx.nox, Cx.wish]
    obtain ⟨p, L, c, h, rfl, hL, ec, c1, h1, q⟩ := h
    have cl_Layout := T.cl_Layout
    have na_Layout_fan := T.na_Layout_fan
    obtain ⟨dx, fs, hp, F⟩ := hL
    have lk1 := F.fan
    walk_at "go"
    refine r_forR (fun i σ' H' => ∃ v3 : Option V, σ' = [some (.ref p), some (.int (h : Nat)), some (.int ((c ^ i : Nat) : Int)), v3] ∧ H = H') ⟨_, rfl, rfl⟩ ?_ ?_
    · rintro i σ' H' hi ⟨v3, rfl, rfl⟩
      walk_at "go"
      refine ⟨some (.int (0 + (i : Int))), ?_, rfl⟩
      rw [ec, Nat.pow_succ]
      simp
    · rintro σ' H' ⟨v3, rfl, rfl⟩
      walk_at "go"
      exact q
theorem pw_pos {c : Nat} (hc : 2 ≤ c) (j : Nat) : 1 ≤ c ^ j := Nat.one_le_pow _ _ (by omega)
theorem pw_one {c j : Nat} (hc : 2 ≤ c) : 1 < c ^ j ↔ j ≠ 0 := by
  cases j with
  | zero => simp
  | succ j =>
    have := pw_pos hc j
    rw [Nat.pow_succ]
    constructor
    · intro _; omega
    · intro _
      have : c ^ j * 2 ≤ c ^ j * c := Nat.mul_le_mul_left _ hc
      omega
theorem pw_div {c j : Nat} (hc : 2 ≤ c) : ((c ^ (j + 1) : Nat) : Int) / (c : Int) = ((c ^ j : Nat) : Int) := by
  rw [← Int.natCast_ediv, Nat.pow_succ, Nat.mul_div_cancel _ (by omega)]
theorem div_lt {c j r : Nat} (hc : 2 ≤ c) (h : r < c ^ (j + 1)) : r / c ^ j < c := by
  rw [Nat.div_lt_iff_lt_mul (pw_pos hc j), Nat.mul_comm, ← Nat.pow_succ]
  exact h
theorem mod_lt {c j r : Nat} (hc : 2 ≤ c) : r % c ^ j < c ^ j := Nat.mod_lt _ (pw_pos hc j)
/-- an item of an index block -/
theorem at_item {its : List Int} {m : Nat} {z : Int} (h : m < its.length) (ez : z = (m : Int)) : atI (its.map V.int) z = some (.int (its.getD m 0)) := by
  subst ez
  refine atI_nat ?_
  rw [List.getElem?_map, List.getElem?_eq_getElem h, List.getD_eq_getElem?_getD, List.getElem?_eq_getElem h]
  rfl
def sp_block_id (K : PySem.W.Frag) (CS CL CF : Addr) : Sp := fun args_ H Q _ => ∃ (s d lay f : Addr) (L : Lay) (ks : List Int) (B : Int → Option Pay) (sz rt : Int) (c h n : Nat), args_ = [.ref s, .ref f, .int (n : Nat)] ∧ TW K CS CL CF H s d lay f L ks B sz (h : Nat) rt ∧ L.fan = (c : Nat) ∧ 2 ≤ c ∧ c ≤ 1000 ∧ h ≤ 100 ∧ c ^ h < 1073741824 ∧ Wf B c h rt ∧ Q (.int (blkId B c h rt n)) H
theorem i_block_id {K : PySem.W.Frag} {CS CL CF : Addr} {args_ : List V} {H : Hp} {Q : V → Hp → Prop} {E : XK} {s d lay f : Addr} {L : Lay} {ks : List Int} {B : Int → Option Pay} {sz rt : Int} {c h n : Nat} (ev : args_ = [.ref s, .ref f, .int (n : Nat)]) (hW : TW K CS CL CF H s d lay f L ks B sz (h : Nat) rt) (ec : L.fan = (c : Nat)) (c0 : 2 ≤ c) (c1 : c ≤ 1000) (h1 : h ≤ 100) (hm : c ^ h < 1073741824) (hwf : Wf B c h rt) (q : Q (.int (blkId B c h rt n)) H) : sp_block_id K CS CL CF args_ H Q E := ⟨s, d, lay, f, L, ks, B, sz, rt, c, h, n, ev, hW, ec, c0, c1, h1, hm, hwf, q⟩
local macro_rules | `(tactic| walk_at "ca1") => `(tactic| with_reducible (refine' Sg.i_block_id ?ev ?hW ?ec ?c0 ?c1 ?h1 ?hm ?hwf ?_; (case ev => (with_unfolding_all rfl)); (case hW => (with_unfolding_all walk_at "pr")); (case ec => (with_unfolding_all walk_at "pr")); (case c0 => (with_unfolding_all walk_at "pr")); (case c1 => (with_unfolding_all walk_at "pr")); (case h1 => (with_unfolding_all walk_at "pr")); (case hm => (with_unfolding_all walk_at "pr")); (case hwf => (with_unfolding_all walk_at "pr"))))

theorem ok_block_id (T : Txt K mg) : FnOk P w K mg base CX0 2 T.a_block_id T.fd_block_id ["store", "file", "number"] (sp_block_id K T.A_Store T.A_Layout T.A_PlainFile) := by
  refine T.F_block_id.ok sc_block_id (fun vs H Q E h => ?_) (fun cdv A outer s H vs Q E hr h => ?_)
  · obtain ⟨s, d, lay, f, L, ks, B, sz, rt, c, h, n, rfl, _⟩ := h
    rfl
  · refine ⟨_, (pss_cons (ps_set (i := 3) sc_block_id.nd rfl (Or.inl rfl) (pe_call (ok_span_of T) (hr.mono (by decide)) rfl T.m_span_of T.F_span_of.kp T.b_span_of .nil pass0 (pa_cons (pe_fld (pv 0) rfl) (pa_cons (pe_fld (pv 1) rfl) pa_nil))))
       (pss_cons (ps_if (pt_cmpR op_ge (pv 2) (pv 3) (nomark _))
       (pss_one (ps_ret pe_int))
       pss_nil)
       (pss_cons (ps_set (i := 4) sc_block_id.nd rfl (Or.inl rfl) (pe_fld (pv 1) rfl))
       (pss_cons (ps_set (i := 5) sc_block_id.nd rfl (Or.inl rfl) (pv 2))
       (pss_cons (ps_while PassesOwn.never (PW.pt (pw_and (pt_cmpR op_gt (pv 3) pe_int (nomark _)) (pw_and1 (pt_cmpR op_ne (pv 4) pe_int (nomark _)))))
       (pss_cons (ps_set (i := 3) sc_block_id.nd rfl (Or.inl rfl) (pe_op op_fdiv (pv 3) (pe_fld (pe_fld (pv 0) rfl) rfl)))
       (pss_cons (ps_set (i := 4) sc_block_id.nd rfl (Or.inl rfl) (pe_ix ix_tup (pe_ix ix_tup (pe_meth (pv 0) T.cl_Store T.me_Store_get (ok_Store_get T) (hr.mono (by decide)) T.b_Store_get .nil pass0 (pa_cons (pv 4) pa_nil)) pe_int (fun _ _ => rfl)) (pe_op op_fdiv (pv 5) (pv 3)) (fun _ _ => rfl)))
       (pss_one (ps_set (i := 5) sc_block_id.nd rfl (Or.inl rfl) (pe_op op_mod (pv 5) (pv 3)))))))
       (pss_one (ps_ret (pv 4)))))))), ?_⟩
    try dsimp only [cxOf, Cx.nox, Cx.wish]
    obtain ⟨s, d, lay, f, L, ks, B, sz, rt, c, h, n, rfl, hW, ec, c0, c1, h1, hm, hwf, q⟩ := h
    have cl_Layout := T.cl_Layout
    have cl_PlainFile := T.cl_PlainFile
    have cl_Store := T.cl_Store
    have na_Layout_fan := T.na_Layout_fan
    have na_PlainFile_height := T.na_PlainFile_height
    have na_PlainFile_root := T.na_PlainFile_root
    have na_Store_layout := T.na_Store_layout
    obtain ⟨⟨lc, hS, hb⟩, hbl, hl, hne⟩ := id hW.sw
    obtain ⟨dxs, fss, hs, Fs⟩ := hS
    obtain ⟨dxf, fsf, hf, Ff⟩ := hW.fl
    obtain ⟨dxl, fsl, hp, Fl⟩ := id hl
    have lk1 := Fs.lay
    have lk2 := Ff.height
    have lk3 := Ff.root
    have lk4 := Fl.fan
    have ln1 := Fs.n1
    have hSW := hW.sw
    walk_at "go"
    refine r_ite (fun hc => ?_) (fun hc => ?_)
    · walk_at "go"
      have e : blkId B c h rt n = 0 := if_neg (by omega)
      rw [e] at q
      exact q
    have hn : n < c ^ h := by omega
    have e : blkId B c h rt n = dn B c h rt n := if_pos hn
    rw [e] at q
    walk_at "go"
    refine r_while (fun m σ' H' => ∃ (id : Int) (r : Nat), σ' = [some (.ref s), some (.ref f), some (.int (n : Nat)), some (.int ((c ^ m : Nat) : Int)), some (.int id), some (.int (r : Nat))] ∧ H = H' ∧ r < c ^ m ∧ Wf B c m id ∧ dn B c m id r = dn B c h rt n ∧ m ≤ h) h ⟨rt, n, rfl, rfl, hn, hwf, rfl, Nat.le_refl h⟩ ?_
    rintro m σ' H' ⟨id, r, rfl, rfl, hr, hw, hd, hmh⟩
    have hp1 := pw_one (j := m) c0
    walk_at "go"
    refine r_ite (fun h0 => ?_) (fun h0 => ?_)
    · walk_at "go"
      refine r_iteN (fun hi => ?_) (fun hi => ?_)
      · obtain ⟨j, rfl⟩ : ∃ j, m = j + 1 := ⟨m - 1, by have := hp1.mp (by omega); omega⟩
        obtain ⟨k, its, hB, hl, hch⟩ := hw hi
        have hlt := div_lt c0 hr
        refine ⟨fun σ' H' => ∃ (id : Int) (r : Nat), σ' = [some (.ref s), some (.ref f), some (.int (n : Nat)), some (.int ((c ^ j : Nat) : Int)), some (.int id), some (.int (r : Nat))] ∧ H = H' ∧ r < c ^ j ∧ Wf B c j id ∧ dn B c j id r = dn B c h rt n ∧ j ≤ h, fun σ' H' z => ⟨j, Nat.lt_succ_self j, z⟩, ?_⟩
        have pp := pw_pos c0 j
        have pd := pw_div (j := j) c0
        have pl : c ^ j ≤ c ^ h := Nat.pow_le_pow_right (by omega) (by omega)
        walk_at "go"
        rw [ec, pd]
        walk_at "go"
        rename_i t b ht hb'
        rw [← Int.natCast_ediv]
        refine r_ixt hb' (at_item (m := r / c ^ j) (by rw [hl]; exact hlt) rfl) ?_
        walk_at "go"
        rename_i z hz z0 z1
        refine ⟨its.getD (r / c ^ j) 0, r % c ^ j, ?_, rfl, mod_lt c0, hch _ hlt, ?_, by omega⟩
        · rw [hz, ← Int.natCast_emod]
          rfl
        · rw [← hd, dn, if_neg hi]
          congr 1
          unfold child
          rw [hB]
      · walk_at "go"
        subst hi
        have : dn B c m 0 r = 0 := by cases m <;> simp [dn]
        rw [← hd, this] at q
        exact q
    · walk_at "go"
      have e0 : m = 0 := Decidable.byContradiction fun z => h0 (by have := hp1.mpr z; omega)
      subst e0
      rw [← hd] at q
      exact q

theorem SW.mem {K : PySem.W.Frag} {CS CL : Addr} {H : Hp} {s d lay : Addr} {L : Lay} {ks : List Int} {B : Int → Option Pay} {i : Int} {p : Pay} (h : SW K CS CL H s d lay L ks B) (e : B i = some p) : i ∈ ks := by
  obtain ⟨_, ⟨kvs, _, hk⟩, _, _⟩ := h
  exact Decidable.byContradiction fun z => by rw [hk.no i z] at e; cases e
theorem SW.free {K : PySem.W.Frag} {CS CL : Addr} {H : Hp} {s d lay : Addr} {L : Lay} {ks : List Int} {B : Int → Option Pay} {i : Int} (h : SW K CS CL H s d lay L ks B) (e : i ∉ ks) : B i = none := by
  obtain ⟨_, ⟨kvs, _, hk⟩, _, _⟩ := h
  exact hk.no i e
theorem addK_in {ks : List Int} {i : Int} (h : i ∈ ks) : addK ks i = ks := if_pos h
def Ways (H : Hp) (ts : List Addr) (ps : List (Int × Int)) : Prop := Paired (fun t (p : Int × Int) => H t = some (.tup [.int p.1, .int p.2])) ts ps
theorem Ways.keeps {H H' : Hp} (k : Keeps H H') : ∀ {ts : List Addr} {ps : List (Int × Int)}, Ways H ts ps → Ways H' ts ps
  | _, _, .nil => .nil
  | _, _, .cons h t => .cons (k _ _ trivial h) (Ways.keeps k t)
def sp_way_to (K : PySem.W.Frag) (CS CL CF : Addr) : Sp := fun args_ H Q _ => ∃ (s d lay f : Addr) (L : Lay) (ks : List Int) (B : Int → Option Pay) (sz rt : Int) (c h n : Nat), args_ = [.ref s, .ref f, .int (n : Nat)] ∧ TW K CS CL CF H s d lay f L ks B sz (h : Nat) rt ∧ L.fan = (c : Nat) ∧ 2 ≤ c ∧ c ≤ 1000 ∧ h ≤ 100 ∧ c ^ h < 1073741824 ∧ Wf B c h rt ∧ n < c ^ h ∧ ∀ H' l ts, Same H H' → H l = none → H' l = some (.lst (ts.map V.ref)) → Ways H' ts (wayB B c h rt n) → Q (.ref l) H'
theorem i_way_to {K : PySem.W.Frag} {CS CL CF : Addr} {args_ : List V} {H : Hp} {Q : V → Hp → Prop} {E : XK} {s d lay f : Addr} {L : Lay} {ks : List Int} {B : Int → Option Pay} {sz rt : Int} {c h n : Nat} (ev : args_ = [.ref s, .ref f, .int (n : Nat)]) (hW : TW K CS CL CF H s d lay f L ks B sz (h : Nat) rt) (ec : L.fan = (c : Nat)) (c0 : 2 ≤ c) (c1 : c ≤ 1000) (h1 : h ≤ 100) (hm : c ^ h < 1073741824) (hwf : Wf B c h rt) (hn : n < c ^ h) (q : ∀ H' l ts, Same H H' → H l = none → H' l = some (.lst (ts.map V.ref)) → Ways H' ts (wayB B c h rt n) → Q (.ref l) H') : sp_way_to K CS CL CF args_ H Q E := ⟨s, d, lay, f, L, ks, B, sz, rt, c, h, n, ev, hW, ec, c0, c1, h1, hm, hwf, hn, q⟩
local macro_rules | `(tactic| walk_at "ca1") => `(tactic| with_reducible (refine' Sg.i_way_to ?ev ?hW ?ec ?c0 ?c1 ?h1 ?hm ?hwf ?hn ?_; (case ev => (with_unfolding_all rfl)); (case hW => (with_unfolding_all walk_at "pr")); (case ec => (with_unfolding_all walk_at "pr")); (case c0 => (with_unfolding_all walk_at "pr")); (case c1 => (with_unfolding_all walk_at "pr")); (case h1 => (with_unfolding_all walk_at "pr")); (case hm => (with_unfolding_all walk_at "pr")); (case hwf => (with_unfolding_all walk_at "pr")); (case hn => (with_unfolding_all walk_at "pr")); intros))

theorem ok_way_to (T : Txt K mg) : FnOk P w K mg base CX0 2 T.a_way_to T.fd_way_to ["store", "file", "number"] (sp_way_to K T.A_Store T.A_Layout T.A_PlainFile) := by
  refine T.F_way_to.ok sc_way_to (fun vs H Q E h => ?_) (fun cdv A outer s H vs Q E hr h => ?_)
  · obtain ⟨s, d, lay, f, L, ks, B, sz, rt, c, h, n, rfl, _⟩ := h
    rfl
  · refine ⟨_, (pss_cons (ps_set (i := 3) sc_way_to.nd rfl (Or.inl rfl) (pe_lst pa_nil))
       (pss_cons (ps_set (i := 4) sc_way_to.nd rfl (Or.inl rfl) (pe_fld (pv 1) rfl))
       (pss_cons (ps_set (i := 5) sc_way_to.nd rfl (Or.inl rfl) (pe_call (ok_span_of T) (hr.mono (by decide)) rfl T.m_span_of T.F_span_of.kp T.b_span_of .nil pass0 (pa_cons (pe_fld (pv 0) rfl) (pa_cons (pe_fld (pv 1) rfl) pa_nil))))
       (pss_cons (ps_set (i := 6) sc_way_to.nd rfl (Or.inl rfl) (pv 2))
       (pss_cons (ps_while PassesOwn.never (pt_cmpR op_gt (pv 5) pe_int (nomark _))
       (pss_cons (ps_set (i := 5) sc_way_to.nd rfl (Or.inl rfl) (pe_op op_fdiv (pv 5) (pe_fld (pe_fld (pv 0) rfl) rfl)))
       (pss_cons (ps_set (i := 7) sc_way_to.nd rfl (Or.inl rfl) (pe_op op_fdiv (pv 6) (pv 5)))
       (pss_cons (ps_expr (pe_bm PySem.F.plainAttrs_list PySem.F.slot_list_append PySem.F.type_list_append mt_append (pv 3) (pa_cons (pe_tup (pa_cons (pv 4) (pa_cons (pv 7) pa_nil))) pa_nil)))
       (C8.pss_cut (ps_if (pt_cmpR op_ne (pv 4) pe_int (nomark _))
       (pss_one (ps_set (i := 4) sc_way_to.nd rfl (Or.inl rfl) (pe_ix ix_tup (pe_ix ix_tup (pe_meth (pv 0) T.cl_Store T.me_Store_get (ok_Store_get T) (hr.mono (by decide)) T.b_Store_get .nil pass0 (pa_cons (pv 4) pa_nil)) pe_int (fun _ _ => rfl)) (pv 7) (fun _ _ => rfl))))
       pss_nil)
       (pss_one (ps_set (i := 6) sc_way_to.nd rfl (Or.inl rfl) (pe_op op_mod (pv 6) (pv 5)))))))))
       (pss_one (ps_ret (pv 3)))))))), ?_⟩
    try dsimp only [cxOf, Cx.nox, Cx.wish]
    obtain ⟨s, d, lay, f, L, ks, B, sz, rt, c, h, n, rfl, hW, ec, c0, c1, h1, hm, hwf, hn, q⟩ := h
    have cl_Layout := T.cl_Layout
    have cl_PlainFile := T.cl_PlainFile
    have cl_Store := T.cl_Store
    have na_Layout_fan := T.na_Layout_fan
    have na_PlainFile_height := T.na_PlainFile_height
    have na_PlainFile_root := T.na_PlainFile_root
    have na_Store_layout := T.na_Store_layout
    obtain ⟨⟨lc, hS, hb⟩, hbl, hl, hne⟩ := id hW.sw
    obtain ⟨dxs, fss, hs, Fs⟩ := hS
    obtain ⟨dxf, fsf, hf, Ff⟩ := hW.fl
    obtain ⟨dxl, fsl, hp, Fl⟩ := id hl
    have lk1 := Fs.lay
    have lk2 := Ff.height
    have lk3 := Ff.root
    have lk4 := Fl.fan
    have ln1 := Fs.n1
    have hSW := hW.sw
    walk_at "go"
    rename_i lw nlw H1 s1 g1
    refine r_while (fun m σ' H' => ∃ (id : Int) (r : Nat) (ts : List Addr) (ps : List (Int × Int)) (v7 : Option V), σ' = [some (.ref s), some (.ref f), some (.int (n : Nat)), some (.ref lw), some (.int id), some (.int ((c ^ m : Nat) : Int)), some (.int (r : Nat)), v7] ∧ Same H H' ∧ H' lw = some (.lst (ts.map V.ref)) ∧ Ways H' ts ps ∧ ps ++ wayB B c m id r = wayB B c h rt n ∧ r < c ^ m ∧ Wf B c m id ∧ m ≤ h) h ⟨rt, n, [], [], none, rfl, s1, g1, .nil, rfl, hn, hwf, Nat.le_refl h⟩ ?_
    clear g1 s1
    rintro m σ' H' ⟨id, r, ts, ps, v7, rfl, s2, g2, hps, hw, hr, hwm, hmh⟩
    have hp1 := pw_one (j := m) c0
    have hs2 := s2 _ _ hs
    have hp2 := s2 _ _ hp
    have hSW2 := hSW.mono s2
    walk_at "go"
    refine r_ite (fun h0 => ?_) (fun h0 => ?_)
    · obtain ⟨j, rfl⟩ : ∃ j, m = j + 1 := ⟨m - 1, by have := hp1.mp (by omega); omega⟩
      have hlt := div_lt c0 hr
      have pp := pw_pos c0 j
      have pd := pw_div (j := j) c0
      have pl : c ^ j ≤ c ^ h := Nat.pow_le_pow_right (by omega) (by omega)
      have lps : ps.length ≤ 100 := by
        have := congrArg List.length hw
        have l : ∀ (j : Nat) (i : Int) (r : Nat), (wayB B c j i r).length = j := fun j => by
          induction j with
          | zero => intro i r; rfl
          | succ j ih => intro i r; rw [wayB, List.length_cons, ih]
        rw [List.length_append, l, l] at this
        omega
      have lts : ts.length = ps.length := Paired.length hps
      refine ⟨fun σ' H' => ∃ (id : Int) (r : Nat) (ts : List Addr) (ps : List (Int × Int)) (v7 : Option V), σ' = [some (.ref s), some (.ref f), some (.int (n : Nat)), some (.ref lw), some (.int id), some (.int ((c ^ j : Nat) : Int)), some (.int (r : Nat)), v7] ∧ Same H H' ∧ H' lw = some (.lst (ts.map V.ref)) ∧ Ways H' ts ps ∧ ps ++ wayB B c j id r = wayB B c h rt n ∧ r < c ^ j ∧ Wf B c j id ∧ j ≤ h, fun σ' H' z => ⟨j, Nat.lt_succ_self j, z⟩, ?_⟩
      have g2 : True ∧ H' lw = some (.lst (ts.map V.ref)) := ⟨trivial, g2⟩
      walk_at "go"
      rw [ec, pd]
      walk_at "go"
      rename_i p3 n3 H3 s3 g3 H4 e4 g4
      have s4 : Same H H4 := Sg.Same.old (s2.trans s3) nlw e4
      have hs4 := s4 _ _ hs
      have hSW4 := hSW.mono s4
      have k34 : Keeps H' H4 := (Keeps.of s3).trans (Keeps.upd (s3 _ _ g2.2) nf_lst e4)
      have gp : H4 p3 = some (.tup [.int id, .int ((r / c ^ j : Nat) : Int)]) := by
        rw [← e4, upd_ne (ne_of g3 (s3 _ _ g2.2) (by intro z; cases z)), g3]
        rfl
      refine r_cut (fun σ' Hx => σ' = [some (.ref s), some (.ref f), some (.int (n : Nat)), some (.ref lw), some (.int (if id = 0 then 0 else child B id (r / c ^ j))), some (.int ((c ^ j : Nat) : Int)), some (.int (r : Nat)), some (.int ((r / c ^ j : Nat) : Int))] ∧ H4 = Hx) ?_ ?_
      · walk_at "go"
        refine r_iteN (fun hi => ?_) (fun hi => ?_)
        · obtain ⟨k, its, hB, hl', hch⟩ := hwm hi
          walk_at "go"
          rename_i t b ht hb'
          rw [← Int.natCast_ediv]
          refine r_ixt hb' (at_item (m := r / c ^ j) (by rw [hl']; exact hlt) rfl) ?_
          refine ⟨?_, rfl⟩
          have : child B id (r / c ^ j) = its.getD (r / c ^ j) 0 := by unfold child; rw [hB]
          rw [if_neg hi, this]
          rfl
        · refine ⟨?_, rfl⟩
          rw [if_pos hi, ← hi]
          rfl
      rintro _ _ ⟨rfl, rfl⟩
      walk_at "go"
      rename_i z hz z0 z1
      refine ⟨if id = 0 then 0 else child B id (r / c ^ j), r % c ^ j, ts ++ [p3], ps ++ [(id, ((r / c ^ j : Nat) : Int))], some (.int ((r / c ^ j : Nat) : Int)), ?_, s4, ?_, paired_snoc (Ways.keeps k34 hps) gp, ?_, mod_lt c0, ?_, by omega⟩
      · rw [hz, ← Int.natCast_emod]
        rfl
      · rw [g4, List.map_append]
        rfl
      · rw [← hw, wayB, List.append_assoc]
        rfl
      · by_cases hi : id = 0
        · rw [if_pos hi]
          cases j <;> simp [Wf]
        · obtain ⟨k, its, hB, hl', hch⟩ := hwm hi
          rw [if_neg hi]
          have : child B id (r / c ^ j) = its.getD (r / c ^ j) 0 := by unfold child; rw [hB]
          rw [this]
          exact hch _ hlt
    · walk_at "go"
      have e0 : m = 0 := Decidable.byContradiction fun z => h0 (by have := hp1.mpr z; omega)
      subst e0
      rw [wayB, List.append_nil] at hw
      subst hw
      exact q _ _ _ s2 nlw g2 hps
def sp_put_new (K : PySem.W.Frag) (CS CL : Addr) : Sp := fun args_ H Q _ => ∃ (s d lay : Addr) (L : Lay) (ks : List Int) (B : Int → Option Pay) (v : V) (p : Pay), args_ = [.ref s, v] ∧ SW K CS CL H s d lay L ks B ∧ PayAt K H v p ∧ ks.length ≤ 1000 ∧ ∀ H', Ex [s, d] H H' → SW K CS CL H' s d lay L (ks ++ [lstF ks]) (upB B (lstF ks) p) → Q (.int (lstF ks)) H'
theorem i_put_new {K : PySem.W.Frag} {CS CL : Addr} {args_ : List V} {H : Hp} {Q : V → Hp → Prop} {E : XK} {s d lay : Addr} {L : Lay} {ks : List Int} {B : Int → Option Pay} {v : V} {p : Pay} (ev : args_ = [.ref s, v]) (hW : SW K CS CL H s d lay L ks B) (hv : PayAt K H v p) (hs : ks.length ≤ 1000) (q : ∀ H', Ex [s, d] H H' → SW K CS CL H' s d lay L (ks ++ [lstF ks]) (upB B (lstF ks) p) → Q (.int (lstF ks)) H') : sp_put_new K CS CL args_ H Q E := ⟨s, d, lay, L, ks, B, v, p, ev, hW, hv, hs, q⟩
local macro_rules | `(tactic| walk_at "ca1") => `(tactic| with_reducible (refine' Sg.i_put_new ?ev ?hW ?hv ?hs ?_; (case ev => (with_unfolding_all rfl)); (case hW => (with_unfolding_all walk_at "pr")); (case hv => (with_unfolding_all walk_at "pr")); (case hs => (with_unfolding_all walk_at "pr")); intros))

theorem ok_put_new (T : Txt K mg) : FnOk P w K mg base CX0 2 T.a_put_new T.fd_put_new ["store", "payload"] (sp_put_new K T.A_Store T.A_Layout) := by
  refine T.F_put_new.ok sc_put_new (fun vs H Q E h => ?_) (fun cdv A outer s H vs Q E hr h => ?_)
  · obtain ⟨s, d, lay, L, ks, B, v, p, rfl, _⟩ := h
    rfl
  · refine ⟨_, (pss_cons (ps_set (i := 2) sc_put_new.nd rfl (Or.inl rfl) (pe_meth0 (pv 0) T.cl_Store T.me_Store_new_id (ok_Store_new_id T) (hr.mono (by decide)) T.b_Store_new_id .nil pass0))
       (pss_cons (ps_expr (pe_meth (pv 0) T.cl_Store T.me_Store_put (ok_Store_put T) (hr.mono (by decide)) T.b_Store_put .nil pass0 (pa_cons (pv 2) (pa_cons (pv 1) pa_nil))))
       (pss_one (ps_ret (pv 2))))), ?_⟩
    try dsimp only [cxOf, Cx.nox, Cx.wish]
    obtain ⟨s, d, lay, L, ks, B, v, p, rfl, hW, hv, hs, q⟩ := h
    have cl_Store := T.cl_Store
    obtain ⟨lc, ⟨dxs, fss, hs', Fs⟩, _⟩ := id hW.sto
    have n4 := Fs.n4
    walk_at "go"
    rename_i H1 e1 hW1
    have hv1 := hv.keeps (hW.keeps e1)
    obtain ⟨lc1, ⟨dxs1, fss1, hs1, Fs1⟩, _⟩ := id hW1.sto
    have n2 := Fs1.n2
    walk_at "go"
    rename_i H2 e2 hW2
    rw [addK_new] at hW2
    exact q _ (e1.trans e2) hW2
def idxL (c m : Nat) (z : Int) : List Int := (List.replicate c 0).set m z
def sp_index_of (K : PySem.W.Frag) (C : Addr) : Sp := fun args_ H Q _ => ∃ (p : Addr) (L : Lay) (c m : Nat) (z : Int), args_ = [.ref p, .int (m : Nat), .int z] ∧ LayAt C L H p ∧ L.fan = (c : Nat) ∧ c ≤ 1000 ∧ m < c ∧ ∀ H' v, Same H H' → PayAt K H' v (4, idxL c m z) → Q v H'
theorem i_index_of {K : PySem.W.Frag} {C : Addr} {args_ : List V} {H : Hp} {Q : V → Hp → Prop} {E : XK} {p : Addr} {L : Lay} {c m : Nat} {z : Int} (ev : args_ = [.ref p, .int (m : Nat), .int z]) (hL : LayAt C L H p) (ec : L.fan = (c : Nat)) (c1 : c ≤ 1000) (hm : m < c) (q : ∀ H' v, Same H H' → PayAt K H' v (4, idxL c m z) → Q v H') : sp_index_of K C args_ H Q E := ⟨p, L, c, m, z, ev, hL, ec, c1, hm, q⟩
local macro_rules | `(tactic| walk_at "ca1") => `(tactic| with_reducible (refine' Sg.i_index_of ?ev ?hL ?ec ?c1 ?hm ?_; (case ev => (with_unfolding_all rfl)); (case hL => (with_unfolding_all walk_at "pr")); (case ec => (with_unfolding_all walk_at "pr")); (case c1 => (with_unfolding_all walk_at "pr")); (case hm => (with_unfolding_all walk_at "pr")); intros))

theorem ok_index_of (T : Txt K mg) : FnOk P w K mg base CX0 1 T.a_index_of T.fd_index_of ["layout", "item", "below"] (sp_index_of K T.A_Layout) := by
  refine T.F_index_of.ok sc_index_of (fun vs H Q E h => ?_) (fun cdv A outer s H vs Q E hr h => ?_)
  · obtain ⟨p, L, c, m, z, rfl, _⟩ := h
    rfl
  · refine ⟨_, (pss_cons (ps_set (i := 3) sc_index_of.nd rfl (Or.inl rfl) (pe_op op_rep (pe_lst (pa_cons pe_int pa_nil)) (pe_fld (pv 0) rfl)))
       (pss_cons (ps_asg (pv 2) (pg_sub (pv 3) (pv 1) set_list))
       (pss_one (ps_ret (pe_tup (pa_cons (pe_glob rfl T.c_NODE T.r_NODE) (pa_cons (pe_callTy c_tuple (by rfl) T.n_tuple (by decide +kernel) (pa_cons (pv 3) pa_nil)) pa_nil))))))), ?_⟩
    try dsimp only [cxOf, Cx.nox, Cx.wish]
    obtain ⟨p, L, c, m, z, rfl, hL, ec, c1, hm, q⟩ := h
    have cl_Layout := T.cl_Layout
    have na_Layout_fan := T.na_Layout_fan
    obtain ⟨dx, fs, hp, F⟩ := hL
    have lk1 := F.fan
    walk_at "go"
    rename_i p1 n1 H1 s1 g1 p2 n2 H2 s2 g2
    have g2' : H2 p2 = some (.lst ((List.replicate c (0 : Int)).map V.int)) := by rw [g2, List.map_replicate, ec, Int.toNat_natCast]
    refine r_setl g2' (ixN_ok (by omega) (by rw [List.length_map, List.length_replicate]; omega)) ?_
    rw [set_ints, Int.toNat_natCast]
    generalize hH : upd _ _ _ = H3
    have s3 : Same H1 H3 := Sg.Same.old s2 n2 hH
    have g3 : H3 p2 = some (.lst ((idxL c m z).map V.int)) := Sg.at_new hH
    walk_at "go"
    rename_i p4 n4 H4 s4 g4 p5 n5 H5 s5 g5
    exact q _ _ (s1.trans (s3.trans (s4.trans s5))) ⟨p5, p4, rfl, .of g5, .of (s5 _ _ g4)⟩
def sp_set_item (K : PySem.W.Frag) (CS CL : Addr) : Sp := fun args_ H Q _ => ∃ (s d lay : Addr) (L : Lay) (ks : List Int) (B : Int → Option Pay) (i z k : Int) (its : List Int) (m : Nat), args_ = [.ref s, .int i, .int (m : Nat), .int z] ∧ SW K CS CL H s d lay L ks B ∧ B i = some (k, its) ∧ m < its.length ∧ ks.length ≤ 1000 ∧ ∀ H', Ex [s, d] H H' → SW K CS CL H' s d lay L ks (upB B i (4, its.set m z)) → Q .non H'
theorem i_set_item {K : PySem.W.Frag} {CS CL : Addr} {args_ : List V} {H : Hp} {Q : V → Hp → Prop} {E : XK} {s d lay : Addr} {L : Lay} {ks : List Int} {B : Int → Option Pay} {i z k : Int} {its : List Int} {m : Nat} (ev : args_ = [.ref s, .int i, .int (m : Nat), .int z]) (hW : SW K CS CL H s d lay L ks B) (hB : B i = some (k, its)) (hm : m < its.length) (hs : ks.length ≤ 1000) (q : ∀ H', Ex [s, d] H H' → SW K CS CL H' s d lay L ks (upB B i (4, its.set m z)) → Q .non H') : sp_set_item K CS CL args_ H Q E := ⟨s, d, lay, L, ks, B, i, z, k, its, m, ev, hW, hB, hm, hs, q⟩
local macro_rules | `(tactic| walk_at "ca1") => `(tactic| with_reducible (refine' Sg.i_set_item ?ev ?hW ?hB ?hm ?hs ?_; (case ev => (with_unfolding_all rfl)); (case hW => (with_unfolding_all walk_at "pr")); (case hB => (with_unfolding_all walk_at "pr")); (case hm => (with_unfolding_all walk_at "pr")); (case hs => (with_unfolding_all walk_at "pr")); intros))

theorem ok_set_item (T : Txt K mg) : FnOk P w K mg base CX0 2 T.a_set_item T.fd_set_item ["store", "ident", "item", "below"] (sp_set_item K T.A_Store T.A_Layout) := by
  refine T.F_set_item.ok sc_set_item (fun vs H Q E h => ?_) (fun cdv A outer s H vs Q E hr h => ?_)
  · obtain ⟨s, d, lay, L, ks, B, i, z, k, its, m, rfl, _⟩ := h
    rfl
  · refine ⟨_, (pss_cons (ps_set (i := 4) sc_set_item.nd rfl (Or.inl rfl) (pe_callTy c_list (by rfl) T.n_list (by decide +kernel) (pa_cons (pe_ix ix_tup (pe_meth (pv 0) T.cl_Store T.me_Store_get (ok_Store_get T) (hr.mono (by decide)) T.b_Store_get .nil pass0 (pa_cons (pv 1) pa_nil)) pe_int (fun _ _ => rfl)) pa_nil)))
       (pss_cons (ps_asg (pv 3) (pg_sub (pv 4) (pv 2) set_list))
       (pss_one (ps_expr (pe_meth (pv 0) T.cl_Store T.me_Store_put (ok_Store_put T) (hr.mono (by decide)) T.b_Store_put .nil pass0 (pa_cons (pv 1) (pa_cons (pe_tup (pa_cons (pe_glob rfl T.c_NODE T.r_NODE) (pa_cons (pe_callTy c_tuple (by rfl) T.n_tuple (by decide +kernel) (pa_cons (pv 4) pa_nil)) pa_nil))) pa_nil))))))), ?_⟩
    try dsimp only [cxOf, Cx.nox, Cx.wish]
    obtain ⟨s, d, lay, L, ks, B, i, z, k, its, m, rfl, hW, hB, hm, hs, q⟩ := h
    have cl_Store := T.cl_Store
    obtain ⟨lc, ⟨dxs, fss, hs', Fs⟩, _⟩ := id hW.sto
    have n1 := Fs.n1
    have n2 := Fs.n2
    have hi := hW.mem hB
    walk_at "go"
    rename_i t b ht hb l1 nl1 H1 s1 g1
    dsimp only at g1
    refine r_setl g1 (ixN_ok (by omega) (by rw [List.length_map]; omega)) ?_
    rw [set_ints, Int.toNat_natCast]
    generalize hH : upd _ _ _ = H2
    have s2 : Same H H2 := Sg.Same.old s1 nl1 hH
    have g2 := Sg.at_new hH
    have hs2 := s2 _ _ hs'
    have hW2 := hW.mono s2
    walk_at "go"
    rename_i p3 n3 H3 s3 g3 p4 n4 H4 s4 g4
    have hv : PayAt K H4 (.ref p4) (4, its.set m z) := ⟨p4, p3, rfl, .of g4, .of (s4 _ _ g3)⟩
    have hs4 := s4 _ _ (s3 _ _ hs2)
    have hW4 := (hW2.mono s3).mono s4
    walk_at "go"
    rename_i H5 e5 hW5
    rw [addK_in hi] at hW5
    exact q _ ((Ex.of (s2.trans (s3.trans s4))).trans e5) hW5
/-! ### a tree is raised, a block is set: the mirror -/
abbrev TS3 := (Int → Option Pay) × List Int × Int
def raiseB (c : Nat) : Nat → TS3 → TS3
  | 0, x => x
  | k + 1, x => if x.2.2 = 0 then raiseB c k x else raiseB c k (upB x.1 (lstF x.2.1) (4, idxL c 0 x.2.2), x.2.1 ++ [lstF x.2.1], lstF x.2.1)
theorem raiseB_len (c : Nat) : ∀ (k : Nat) (x : TS3), (raiseB c k x).2.1.length ≤ x.2.1.length + k
  | 0, x => Nat.le_refl _
  | k + 1, x => by
    rw [raiseB]
    split
    · exact Nat.le_trans (raiseB_len c k x) (by omega)
    · refine Nat.le_trans (raiseB_len c k _) ?_
      simp only [List.length_append, List.length_cons, List.length_nil]
      omega
theorem raiseB_zero (c : Nat) : ∀ (k : Nat) (x : TS3), x.2.2 = 0 → raiseB c k x = x
  | 0, x, _ => rfl
  | k + 1, x, h => by rw [raiseB, if_pos h]; exact raiseB_zero c k x h
def itemsOf (B : Int → Option Pay) (i : Int) : List Int := match B i with
  | some (_, its) => its
  | none => []
def linkB (c : Nat) : List (Int × Int) → Int → TS3 → TS3
  | [], b, x => (x.1, x.2.1, b)
  | p :: r, b, x => if p.1 ≠ 0 then (upB x.1 p.1 (4, (itemsOf x.1 p.1).set p.2.toNat b), x.2.1, x.2.2) else linkB c r (lstF x.2.1) (upB x.1 (lstF x.2.1) (4, idxL c p.2.toNat b), x.2.1 ++ [lstF x.2.1], x.2.2)
def setB (c h n : Nat) (oc : List Int) (x : TS3) : TS3 :=
  if blkId x.1 c h x.2.2 n ≠ 0 then (upB x.1 (blkId x.1 c h x.2.2 n) (3, oc), addK x.2.1 (blkId x.1 c h x.2.2 n), x.2.2)
  else linkB c (wayB (upB x.1 (lstF x.2.1) (3, oc)) c h x.2.2 n).reverse (lstF x.2.1) (upB x.1 (lstF x.2.1) (3, oc), x.2.1 ++ [lstF x.2.1], x.2.2)
theorem wf_up {B : Int → Option Pay} {c : Nat} {i : Int} {p : Pay} (hi : B i = none) : ∀ (j : Nat) (r : Int), Wf B c j r → Wf (upB B i p) c j r
  | 0, _, _ => trivial
  | j + 1, r, h => fun hr => by
    obtain ⟨k, its, hB, hl, hc⟩ := h hr
    refine ⟨k, its, ?_, hl, fun m hm => wf_up hi j _ (hc m hm)⟩
    unfold upB
    rw [if_neg (fun z => by rw [z, hi] at hB; cases hB)]
    exact hB
theorem wf_zero {B : Int → Option Pay} {c : Nat} : ∀ j, Wf B c j 0
  | 0 => trivial
  | _ + 1 => fun h => absurd rfl h
theorem idxL_at {c m : Nat} {z : Int} (h : m < c) (i : Nat) : (idxL c m z).getD i 0 = if i = m then z else 0 := by
  unfold idxL
  rw [List.getD_eq_getElem?_getD]
  by_cases e : i = m
  · subst e
    rw [List.getElem?_set_self (by rw [List.length_replicate]; exact h), if_pos rfl]
    rfl
  · rw [List.getElem?_set_ne (fun z => e z.symm), if_neg e, List.getElem?_replicate]
    split <;> rfl
theorem idxL_len {c m : Nat} {z : Int} : (idxL c m z).length = c := by
  unfold idxL
  rw [List.length_set, List.length_replicate]
theorem raise_wf {c : Nat} (c0 : 2 ≤ c) : ∀ (k h : Nat) (x : TS3), (∀ i, i ∉ x.2.1 → x.1 i = none) → Wf x.1 c h x.2.2 → Wf (raiseB c k x).1 c (h + k) (raiseB c k x).2.2 ∧ ∀ i, i ∉ (raiseB c k x).2.1 → (raiseB c k x).1 i = none
  | 0, h, x, hf, hw => ⟨hw, hf⟩
  | k + 1, h, x, hf, hw => by
    by_cases e : x.2.2 = 0
    · rw [raiseB_zero c (k + 1) x e, e]
      exact ⟨wf_zero _, hf⟩
    · rw [raiseB, if_neg e, show h + (k + 1) = h + 1 + k by omega]
      have hn := lstF_nin x.2.1
      refine raise_wf c0 k (h + 1) _ (fun i hi => ?_) (fun _ => ⟨4, _, if_pos rfl, idxL_len, fun m hm => ?_⟩)
      · simp only [List.mem_append, List.mem_singleton, not_or] at hi
        show upB _ _ _ i = none
        unfold upB
        rw [if_neg hi.2]
        exact hf i hi.1
      · rw [idxL_at (by omega)]
        split
        · exact wf_up (hf _ hn) h _ hw
        · exact wf_zero h
def sp_raise_tree (K : PySem.W.Frag) (CS CL CF : Addr) : Sp := fun args_ H Q _ => ∃ (s d lay f : Addr) (L : Lay) (ks : List Int) (B : Int → Option Pay) (sz rt : Int) (c h g : Nat), args_ = [.ref s, .ref f, .int (g : Nat)] ∧ TW K CS CL CF H s d lay f L ks B sz (h : Nat) rt ∧ L.fan = (c : Nat) ∧ 2 ≤ c ∧ c ≤ 1000 ∧ g ≤ 100 ∧ ks.length ≤ 800 ∧ ∀ H', Ex [s, d, f] H H' → TW K CS CL CF H' s d lay f L (raiseB c (g - h) (B, ks, rt)).2.1 (raiseB c (g - h) (B, ks, rt)).1 sz ((h + (g - h) : Nat) : Int) (raiseB c (g - h) (B, ks, rt)).2.2 → Q .non H'
theorem i_raise_tree {K : PySem.W.Frag} {CS CL CF : Addr} {args_ : List V} {H : Hp} {Q : V → Hp → Prop} {E : XK} {s d lay f : Addr} {L : Lay} {ks : List Int} {B : Int → Option Pay} {sz rt : Int} {c h g : Nat} (ev : args_ = [.ref s, .ref f, .int (g : Nat)]) (hW : TW K CS CL CF H s d lay f L ks B sz (h : Nat) rt) (ec : L.fan = (c : Nat)) (c0 : 2 ≤ c) (c1 : c ≤ 1000) (g1 : g ≤ 100) (hs : ks.length ≤ 800) (q : ∀ H', Ex [s, d, f] H H' → TW K CS CL CF H' s d lay f L (raiseB c (g - h) (B, ks, rt)).2.1 (raiseB c (g - h) (B, ks, rt)).1 sz ((h + (g - h) : Nat) : Int) (raiseB c (g - h) (B, ks, rt)).2.2 → Q .non H') : sp_raise_tree K CS CL CF args_ H Q E := ⟨s, d, lay, f, L, ks, B, sz, rt, c, h, g, ev, hW, ec, c0, c1, g1, hs, q⟩
local macro_rules | `(tactic| walk_at "ca1") => `(tactic| with_reducible (refine' Sg.i_raise_tree ?ev ?hW ?ec ?c0 ?c1 ?g1 ?hs ?_; (case ev => (with_unfolding_all rfl)); (case hW => (with_unfolding_all walk_at "pr")); (case ec => (with_unfolding_all walk_at "pr")); (case c0 => (with_unfolding_all walk_at "pr")); (case c1 => (with_unfolding_all walk_at "pr")); (case g1 => (with_unfolding_all walk_at "pr")); (case hs => (with_unfolding_all walk_at "pr")); intros))

theorem ok_raise_tree (T : Txt K mg) : FnOk P w K mg base CX0 3 T.a_raise_tree T.fd_raise_tree ["store", "file", "height"] (sp_raise_tree K T.A_Store T.A_Layout T.A_PlainFile) := by
  refine T.F_raise_tree.ok sc_raise_tree (fun vs H Q E h => ?_) (fun cdv A outer s H vs Q E hr h => ?_)
  · obtain ⟨s, d, lay, f, L, ks, B, sz, rt, c, h, g, rfl, _⟩ := h
    rfl
  · refine ⟨_, (pss_one (ps_while PassesOwn.never (pt_cmpR op_lt (pe_fld (pv 1) rfl) (pv 2) (nomark _))
       (C8.pss_cut (ps_if (pt_cmpR op_ne (pe_fld (pv 1) rfl) pe_int (nomark _))
       (pss_one (ps_fld (pv 1) (pe_call (ok_put_new T) (hr.mono (by decide)) rfl T.m_put_new T.F_put_new.kp T.b_put_new .nil pass0 (pa_cons (pv 0) (pa_cons (pe_call (ok_index_of T) (hr.mono (by decide)) rfl T.m_index_of T.F_index_of.kp T.b_index_of .nil pass0 (pa_cons (pe_fld (pv 0) rfl) (pa_cons pe_int (pa_cons (pe_fld (pv 1) rfl) pa_nil)))) pa_nil))) rfl))
       pss_nil)
       (pss_one (ps_fldaug (pv 1) pe_int in_add))))), ?_⟩
    try dsimp only [cxOf, Cx.nox, Cx.wish]
    obtain ⟨s, d, lay, f, L, ks, B, sz, rt, c, h, g, rfl, hW, ec, c0, c1, g1, hs, q⟩ := h
    have cl_PlainFile := T.cl_PlainFile
    have cl_Store := T.cl_Store
    have na_PlainFile_height := T.na_PlainFile_height
    have na_PlainFile_root := T.na_PlainFile_root
    have na_Store_layout := T.na_Store_layout
    refine r_while (fun m σ' H' => ∃ (x : TS3) (i : Nat), σ' = [some (.ref s), some (.ref f), some (.int (g : Nat))] ∧ Ex [s, d, f] H H' ∧ TW K T.A_Store T.A_Layout T.A_PlainFile H' s d lay f L x.2.1 x.1 sz ((h + i : Nat) : Int) x.2.2 ∧ i + m = g - h ∧ raiseB c m x = raiseB c (g - h) (B, ks, rt) ∧ x.2.1.length ≤ ks.length + i) (g - h) ⟨(B, ks, rt), 0, rfl, Ex.refl _ _, hW, by omega, rfl, by simp⟩ ?_
    rintro m σ' H' ⟨x, i, rfl, eH, hW', him, hx, hxl⟩
    obtain ⟨B', ks', rt'⟩ := x
    dsimp only at hW' hxl
    obtain ⟨dxf, fsf, hf, Ff⟩ := id hW'.fl
    have lk2 := Ff.height
    have lk3 := Ff.root
    have few := Ff.few
    walk_at "go"
    refine r_ite (fun hc => ?_) (fun hc => ?_)
    · obtain ⟨j, rfl⟩ : ∃ j, m = j + 1 := ⟨m - 1, by omega⟩
      refine ⟨_, fun σ' H' z => ⟨j, Nat.lt_succ_self j, z⟩, ?_⟩
      obtain ⟨lc, ⟨dxs, fss, hs', Fs⟩, _⟩ := id hW'.sw.sto
      have lk1 := Fs.lay
      have hL' := hW'.sw.hl
      have hSW := hW'.sw
      refine r_cut (fun σ' Hx => ∃ (x : TS3), σ' = [some (.ref s), some (.ref f), some (.int (g : Nat))] ∧ Ex [s, d, f] H Hx ∧ TW K T.A_Store T.A_Layout T.A_PlainFile Hx s d lay f L x.2.1 x.1 sz ((h + i : Nat) : Int) x.2.2 ∧ raiseB c j x = raiseB c (g - h) (B, ks, rt) ∧ x.2.1.length ≤ ks.length + (i + 1)) ?_ ?_
      · walk_at "go"
        refine r_iteN (fun h0 => ?_) (fun h0 => ?_)
        · walk_at "go"
          refine i_index_of (m := 0) rfl hL' ec c1 (by omega) (fun H1 v s1 hv => ?_)
          have hSW1 := hSW.mono s1
          walk_at "go"
          rename_i H2 e2 hW2
          have hT2 := (hW'.mono s1).stw e2 hW2
          obtain ⟨dxf2, fsf2, hf2, Ff2⟩ := id hT2.fl
          have few2 := Ff2.few
          walk_at "go"
          rename_i H3 e3 g3
          refine ⟨(upB B' (lstF ks') (4, idxL c 0 rt'), ks' ++ [lstF ks'], lstF ks'), rfl, eH.trans ((Ex.of s1).trans (e2.l3.trans (Ex.f3 e3))), hT2.flw e3 (Ff2.root' _), ?_, ?_⟩
          · rw [← hx, raiseB, if_neg h0]
          · simp only [List.length_append, List.length_cons, List.length_nil]
            omega
        · walk_at "go"
          refine ⟨(B', ks', rt'), rfl, eH, hW', ?_, by dsimp only; omega⟩
          rw [← hx, raiseB, if_pos h0]
      · rintro _ Hx ⟨x, rfl, eX, hX, hrx, hlx⟩
        obtain ⟨dxf2, fsf2, hf2, Ff2⟩ := id hX.fl
        have few2 := Ff2.few
        have lk4 := Ff2.height
        walk_at "go"
        rename_i H3 e3 g3
        exact ⟨x, i + 1, rfl, eX.trans (Ex.f3 e3), hX.flw e3 (Ff2.height' _), by omega, hrx, hlx⟩
    · walk_at "go"
      have e0 : m = 0 := by omega
      subst e0
      rw [raiseB] at hx
      rw [← hx] at q
      rw [show g - h = i by omega] at q
      exact q _ eH hW'
theorem IsH.pw {c n : Nat} {g : Nat} (c0 : 2 ≤ c) (h : IsH (c : Int) (n : Int) g) (hn : n < 1048576) (c1 : c ≤ 1000) : n < c ^ g ∧ c ^ g < 1073741824 ∧ g ≤ 21 := by
  have h1 := h.1
  have e : ((c : Int)) ^ g = ((c ^ g : Nat) : Int) := by simp
  refine ⟨by omega, ?_, h.le (by omega) (by omega)⟩
  cases g with
  | zero => rw [Nat.pow_zero]; decide
  | succ j =>
    have h2 := h.2 j (Nat.lt_succ_self j)
    have e2 : ((c : Int)) ^ j = ((c ^ j : Nat) : Int) := by simp
    rw [Nat.pow_succ]
    have h3 : c ^ j ≤ 1048575 := by omega
    have : c ^ j * c ≤ 1048575 * 1000 := Nat.mul_le_mul h3 c1
    omega
def WayOk (B : Int → Option Pay) (c : Nat) (ps : List (Int × Int)) : Prop := ∀ p ∈ ps, 0 ≤ p.2 ∧ p.2 < (c : Int) ∧ (p.1 ≠ 0 → ∃ k its, B p.1 = some (k, its) ∧ its.length = c)
theorem WayOk.up {B : Int → Option Pay} {c : Nat} {ps : List (Int × Int)} {i : Int} {p : Pay} (h : WayOk B c ps) (hi : B i = none) : WayOk (upB B i p) c ps := fun x hx => by
  obtain ⟨a, b, e⟩ := h x hx
  refine ⟨a, b, fun hn => ?_⟩
  obtain ⟨k, its, hB, hl⟩ := e hn
  refine ⟨k, its, ?_, hl⟩
  unfold upB
  rw [if_neg (fun z => by rw [z, hi] at hB; cases hB)]
  exact hB
theorem way_ok {B : Int → Option Pay} {c : Nat} (c0 : 2 ≤ c) : ∀ (j : Nat) (i : Int) (r : Nat), Wf B c j i → r < c ^ j → WayOk B c (wayB B c j i r)
  | 0, _, _, _, _ => fun x hx => nomatch hx
  | j + 1, i, r, hw, hr => fun x hx => by
    have hlt := div_lt c0 hr
    rw [wayB] at hx
    rcases List.mem_cons.mp hx with rfl | hx
    · refine ⟨Int.natCast_nonneg _, Int.ofNat_lt.mpr hlt, fun hn => ?_⟩
      obtain ⟨k, its, hB, hl, _⟩ := hw hn
      exact ⟨k, its, hB, hl⟩
    · refine way_ok c0 j _ _ ?_ (mod_lt c0) x hx
      by_cases hi : i = 0
      · rw [if_pos hi]
        exact wf_zero j
      · obtain ⟨k, its, hB, hl, hc⟩ := hw hi
        rw [if_neg hi]
        have : child B i (r / c ^ j) = its.getD (r / c ^ j) 0 := by unfold child; rw [hB]
        rw [this]
        exact hc _ hlt
theorem way_len {B : Int → Option Pay} {c : Nat} : ∀ (j : Nat) (i : Int) (r : Nat), (wayB B c j i r).length = j
  | 0, _, _ => rfl
  | j + 1, i, r => by rw [wayB, List.length_cons, way_len j]
theorem r_tupI {K : PySem.W.Frag} {H : Hp} {a : Addr} {ns : List Int} {Q : V → Hp → Prop} (h : SqI K H a ns) (q : ∀ H' b, Same H H' → SqT K H' b (ns.map V.int) → Q (.ref b) H') : rTupOf K [.ref a] H Q := by
  rcases h with h | h
  · exact ⟨a, _, rfl, .inl ⟨h, fun l hl => q _ _ (Same.of_new rfl hl) (.of upd_same)⟩⟩
  · exact ⟨a, _, rfl, .inr ⟨h, q _ _ (Same.refl _) h⟩⟩
theorem i_height {CL : Addr} {args_ : List V} {H : Hp} {Q : V → Hp → Prop} {E : XK} {p : Addr} {L : Lay} {n c : Nat} (ev : args_ = [.ref p, .int (n : Nat)]) (hL : LayAt CL L H p) (ec : L.fan = (c : Nat)) (c0 : 2 ≤ c) (c1 : c ≤ 1000) (hn : n < 2097152) (q : ∀ g : Nat, IsH (c : Int) (n : Int) g → Q (.int (g : Nat)) H) : sp_height CL args_ H Q E :=
  ⟨p, L, n, ev, hL, by omega, by omega, by omega, by omega, fun g hg => q g (by rw [ec] at hg; exact hg)⟩
local macro_rules | `(tactic| walk_at "ca1") => `(tactic| with_reducible (refine' Sg.i_height ?ev ?hL ?ec ?c0 ?c1 ?hn ?_; (case ev => (with_unfolding_all rfl)); (case hL => (with_unfolding_all walk_at "pr")); (case ec => (with_unfolding_all assumption)); (case c0 => (with_unfolding_all assumption)); (case c1 => omega); (case hn => omega); intros))
def sp_set_block (K : PySem.W.Frag) (CS CL CF : Addr) : Sp := fun args_ H Q _ => ∃ (s d lay f a : Addr) (L : Lay) (ks : List Int) (B : Int → Option Pay) (sz rt : Int) (c h n : Nat) (oc : List Int), args_ = [.ref s, .ref f, .int (n : Nat), .ref a] ∧ TW K CS CL CF H s d lay f L ks B sz (h : Nat) rt ∧ L.fan = (c : Nat) ∧ 2 ≤ c ∧ c ≤ 1000 ∧ h ≤ 50 ∧ c ^ h < 1073741824 ∧ Wf B c h rt ∧ n < 1048576 ∧ SqI K H a oc ∧ ks.length ≤ 700 ∧ ∀ g : Nat, IsH (c : Int) (n : Int) g → ∀ H', Ex [s, d, f] H H' → TW K CS CL CF H' s d lay f L (setB c (h + (g - h)) n oc (raiseB c (g - h) (B, ks, rt))).2.1 (setB c (h + (g - h)) n oc (raiseB c (g - h) (B, ks, rt))).1 sz ((h + (g - h) : Nat) : Int) (setB c (h + (g - h)) n oc (raiseB c (g - h) (B, ks, rt))).2.2 → Q .non H'
theorem i_set_block {K : PySem.W.Frag} {CS CL CF : Addr} {args_ : List V} {H : Hp} {Q : V → Hp → Prop} {E : XK} {s d lay f a : Addr} {L : Lay} {ks : List Int} {B : Int → Option Pay} {sz rt : Int} {c h n : Nat} {oc : List Int} (ev : args_ = [.ref s, .ref f, .int (n : Nat), .ref a]) (hW : TW K CS CL CF H s d lay f L ks B sz (h : Nat) rt) (ec : L.fan = (c : Nat)) (c0 : 2 ≤ c) (c1 : c ≤ 1000) (h1 : h ≤ 50) (hm : c ^ h < 1073741824) (hwf : Wf B c h rt) (hn : n < 1048576) (hO : SqI K H a oc) (hs : ks.length ≤ 700) (q : ∀ g : Nat, IsH (c : Int) (n : Int) g → ∀ H', Ex [s, d, f] H H' → TW K CS CL CF H' s d lay f L (setB c (h + (g - h)) n oc (raiseB c (g - h) (B, ks, rt))).2.1 (setB c (h + (g - h)) n oc (raiseB c (g - h) (B, ks, rt))).1 sz ((h + (g - h) : Nat) : Int) (setB c (h + (g - h)) n oc (raiseB c (g - h) (B, ks, rt))).2.2 → Q .non H') : sp_set_block K CS CL CF args_ H Q E := ⟨s, d, lay, f, a, L, ks, B, sz, rt, c, h, n, oc, ev, hW, ec, c0, c1, h1, hm, hwf, hn, hO, hs, q⟩
local macro_rules | `(tactic| walk_at "ca1") => `(tactic| with_reducible (refine' Sg.i_set_block ?ev ?hW ?ec ?c0 ?c1 ?h1 ?hm ?hwf ?hn ?hO ?hs ?_; (case ev => (with_unfolding_all rfl)); (case hW => (with_unfolding_all walk_at "pr")); (case ec => (with_unfolding_all walk_at "pr")); (case c0 => (with_unfolding_all walk_at "pr")); (case c1 => (with_unfolding_all walk_at "pr")); (case h1 => (with_unfolding_all walk_at "pr")); (case hm => (with_unfolding_all walk_at "pr")); (case hwf => (with_unfolding_all walk_at "pr")); (case hn => (with_unfolding_all walk_at "pr")); (case hO => (with_unfolding_all walk_at "pr")); (case hs => (with_unfolding_all walk_at "pr")); intros))

theorem ok_set_block (T : Txt K mg) : FnOk P w K mg base CX0 4 T.a_set_block T.fd_set_block ["store", "file", "number", "octets"] (sp_set_block K T.A_Store T.A_Layout T.A_PlainFile) := by
  refine T.F_set_block.ok sc_set_block (fun vs H Q E h => ?_) (fun cdv A outer s H vs Q E hr h => ?_)
  · obtain ⟨s, d, lay, f, a, L, ks, B, sz, rt, c, h, n, oc, rfl, _⟩ := h
    rfl
  · refine ⟨_, (pss_cons (ps_expr (pe_call (ok_raise_tree T) (hr.mono (by decide)) rfl T.m_raise_tree T.F_raise_tree.kp T.b_raise_tree .nil pass0 (pa_cons (pv 0) (pa_cons (pv 1) (pa_cons (pe_call (ok_least_height T) (hr.mono (by decide)) rfl T.m_least_height T.F_least_height.kp T.b_least_height .nil pass0 (pa_cons (pe_fld (pv 0) rfl) (pa_cons (pv 2) pa_nil))) pa_nil)))))
       (pss_cons (ps_set (i := 4) sc_set_block.nd rfl (Or.inl rfl) (pe_tup (pa_cons (pe_glob rfl T.c_DATA T.r_DATA) (pa_cons (pe_callTy c_tuple (by rfl) T.n_tuple (by decide +kernel) (pa_cons (pv 3) pa_nil)) pa_nil))))
       (pss_cons (ps_set (i := 5) sc_set_block.nd rfl (Or.inl rfl) (pe_call (ok_block_id T) (hr.mono (by decide)) rfl T.m_block_id T.F_block_id.kp T.b_block_id .nil pass0 (pa_cons (pv 0) (pa_cons (pv 1) (pa_cons (pv 2) pa_nil)))))
       (pss_cons (ps_if (pt_cmpR op_ne (pv 5) pe_int (nomark _))
       (pss_cons (ps_expr (pe_meth (pv 0) T.cl_Store T.me_Store_put (ok_Store_put T) (hr.mono (by decide)) T.b_Store_put .nil pass0 (pa_cons (pv 5) (pa_cons (pv 4) pa_nil))))
       (pss_one ps_retN))
       pss_nil)
       (pss_cons (ps_set (i := 6) sc_set_block.nd rfl (Or.inl rfl) (pe_call (ok_put_new T) (hr.mono (by decide)) rfl T.m_put_new T.F_put_new.kp T.b_put_new .nil pass0 (pa_cons (pv 0) (pa_cons (pv 4) pa_nil))))
       (pss_cons (ps_for PassesOwn.never rfl (pi_reversed (by rfl) T.n_reversed (pa_cons (pe_call (ok_way_to T) (hr.mono (by decide)) rfl T.m_way_to T.F_way_to.kp T.b_way_to .nil pass0 (pa_cons (pv 0) (pa_cons (pv 1) (pa_cons (pv 2) pa_nil)))) pa_nil)) (pg_tup (by rfl) (pgs_cons (pg_name (i := 7) sc_set_block.nd rfl (Or.inl rfl)) (pgs_cons (pg_name (i := 8) sc_set_block.nd rfl (Or.inl rfl)) pgs_nil)))
       (pss_cons (ps_if (pt_cmpR op_ne (pv 7) pe_int (nomark _))
       (pss_cons (ps_expr (pe_call (ok_set_item T) (hr.mono (by decide)) rfl T.m_set_item T.F_set_item.kp T.b_set_item .nil pass0 (pa_cons (pv 0) (pa_cons (pv 7) (pa_cons (pv 8) (pa_cons (pv 6) pa_nil))))))
       (pss_one ps_retN))
       pss_nil)
       (pss_one (ps_set (i := 6) sc_set_block.nd rfl (Or.inl rfl) (pe_call (ok_put_new T) (hr.mono (by decide)) rfl T.m_put_new T.F_put_new.kp T.b_put_new .nil pass0 (pa_cons (pv 0) (pa_cons (pe_call (ok_index_of T) (hr.mono (by decide)) rfl T.m_index_of T.F_index_of.kp T.b_index_of .nil pass0 (pa_cons (pe_fld (pv 0) rfl) (pa_cons (pv 8) (pa_cons (pv 6) pa_nil)))) pa_nil)))))))
       (pss_one (ps_fld (pv 1) (pv 6) rfl)))))))), ?_⟩
    try dsimp only [cxOf, Cx.nox, Cx.wish]
    obtain ⟨s, d, lay, f, a, L, ks, B, sz, rt, c, h, n, oc, rfl, hW, ec, c0, c1, h1, hm, hwf, hn, hO, hs, q⟩ := h
    have cl_PlainFile := T.cl_PlainFile
    have cl_Store := T.cl_Store
    have na_PlainFile_root := T.na_PlainFile_root
    have na_Store_layout := T.na_Store_layout
    obtain ⟨lc, ⟨dxs, fss, hs', Fs⟩, _⟩ := id hW.sw.sto
    have lk1 := Fs.lay
    have hL := hW.sw.hl
    walk_at "go"
    rename_i g hg
    obtain ⟨k1, k2, k3⟩ := hg.pw c0 hn c1
    have q := q g hg
    walk_at "go"
    rename_i H1 e1 hW1
    have hlen := raiseB_len c (g - h) (B, ks, rt)
    have hO1 : SqI K H1 a oc := hO.imp (fun h => SqL.ex h e1 fun o ho hp => hW.nin ho hp) (fun h => (hW.keeps e1).tup h)
    obtain ⟨hwf1, hfr1⟩ := raise_wf c0 (g - h) h (B, ks, rt) (fun i hi => hW.sw.free hi) hwf
    have hgh : n < c ^ (h + (g - h)) ∧ c ^ (h + (g - h)) < 1073741824 := by
      rcases Nat.le_total g h with z | z
      · rw [show h + (g - h) = h by omega]
        exact ⟨Nat.lt_of_lt_of_le k1 (Nat.pow_le_pow_right (by omega) z), hm⟩
      · rw [show h + (g - h) = g by omega]
        exact ⟨k1, k2⟩
    obtain ⟨hn1, hm1⟩ := hgh
    generalize raiseB c (g - h) (B, ks, rt) = x at hW1 hlen hwf1 hfr1 q
    obtain ⟨B1, ks1, rt1⟩ := x
    dsimp only at hW1 hlen hwf1 hfr1 q
    generalize hh1 : h + (g - h) = h1' at hW1 hwf1 hn1 hm1 q
    have hh2 : h1' ≤ 100 := by omega
    walk_at "go"
    refine r_tupI hO1 (fun H2 b s2 hb => ?_)
    have hW2 := hW1.mono s2
    walk_at "go"
    rename_i p3 n3 H3 s3 g3
    have hW3 := hW2.mono s3
    have hv3 : PayAt K H3 (.ref p3) (3, oc) := ⟨p3, b, rfl, .of g3, Same.tup s3 hb⟩
    walk_at "go"
    have eH3 : Ex [s, d, f] H H3 := e1.trans (Ex.of (s2.trans s3))
    obtain ⟨lc3, ⟨dxs3, fss3, hs3, Fs3⟩, _⟩ := id hW3.sw.sto
    have n2 := Fs3.n2
    have hSW3 := hW3.sw
    refine r_iteN (fun h0 => ?_) (fun h0 => ?_)
    · rw [setB, if_pos h0] at q
      walk_at "go"
      rename_i H4 e4 hW4
      exact q _ (eH3.trans e4.l3) (hW3.stw e4 hW4)
    · rw [setB, if_neg (fun z => z h0)] at q
      walk_at "go"
      rename_i H4 e4 hS4
      have hW4 := hW3.stw e4 hS4
      have hfree : B1 (lstF ks1) = none := hfr1 _ (lstF_nin ks1)
      have hwf4 := wf_up (p := (3, oc)) hfree h1' rt1 hwf1
      have hfr4 : ∀ i, i ∉ ks1 ++ [lstF ks1] → upB B1 (lstF ks1) (3, oc) i = none := fun i hi => hS4.free hi
      dsimp only at q
      generalize upB B1 (lstF ks1) (3, oc) = B4 at hS4 hW4 q hwf4 hfr4
      have hl4 : (ks1 ++ [lstF ks1]).length ≤ 751 := by simp only [List.length_append, List.length_cons, List.length_nil]; omega
      generalize lstF ks1 = bl at hS4 hW4 q hl4 hfr4
      generalize ks1 ++ [bl] = ks4 at hS4 hW4 q hl4 hfr4
      walk_at "go"
      rename_i H5 lw ts s5 nlw g5 hts
      have hW5 := hW4.mono s5
      have hS5 := hW5.sw
      have hwo := way_ok c0 h1' rt1 n hwf4 hn1
      have hwl := way_len (B := B4) (c := c) h1' rt1 n
      generalize wayB B4 c h1' rt1 n = ps at hts hwo hwl q
      have lts : ts.length = ps.length := Paired.length hts
      have eH5 : Ex [s, d, f] H H5 := eH3.trans (e4.l3.trans (Ex.of s5))
      walk_at "go"
      refine r_forV (fun i σ' H' => ∃ (bl' : Int) (x : TS3) (v7 v8 : Option V), σ' = [some (.ref s), some (.ref f), some (.int (n : Nat)), some (.ref a), some (.ref p3), some (.int (blkId B1 c h1' rt1 n)), some (.int bl'), v7, v8] ∧ Ex [s, d] H5 H' ∧ SW K T.A_Store T.A_Layout H' s d lay L x.2.1 x.1 ∧ linkB c (ps.reverse.drop i) bl' x = linkB c ps.reverse bl (B4, ks4, rt1) ∧ WayOk x.1 c ps ∧ x.2.1.length ≤ 751 + i ∧ x.2.2 = rt1) ?_ ?_ ?_ ?_
      · exact ⟨bl, (B4, ks4, rt1), _, _, rfl, Ex.refl _ _, hS5, by rw [List.drop_zero], hwo, by simpa using hl4, rfl⟩
      · rintro i σ' H' hi ⟨bl', x, v7, v8, rfl, e6, hS6, hx, hwo6, hl6, hr6⟩
        exact .of (e6 _ _ (hS5.nin g5 trivial) g5)
      · rintro i y σ' H' hi hy ⟨bl', x, v7, v8, rfl, e6, hS6, hx, hwo6, hl6, hr6⟩
        obtain ⟨B6, ks6, rt6⟩ := x
        dsimp only at hS6 hwo6 hl6 hr6
        subst hr6
        rw [List.length_map] at hi hy
        rw [List.getElem?_map] at hy
        obtain ⟨t, ht, rfl⟩ := Option.map_eq_some_iff.mp hy
        obtain ⟨p, hp, hpt⟩ := paired_at hts ht
        have hd : ps.reverse.drop i = p :: ps.reverse.drop (i + 1) := by
          have e1 : ps.reverse[i]? = some p := by rw [List.getElem?_reverse (by omega), ← lts]; exact hp
          obtain ⟨hlt, e2⟩ := List.getElem?_eq_some_iff.mp e1
          rw [List.drop_eq_getElem_cons hlt, e2]
        obtain ⟨w1, w2, w3⟩ := hwo6 p (List.mem_of_getElem? hp)
        obtain ⟨p1, p2⟩ := p
        dsimp only at hpt w1 w2 w3
        obtain ⟨m, rfl⟩ : ∃ m : Nat, p2 = (m : Int) := ⟨p2.toNat, by omega⟩
        have hpt6 := e6 _ _ (hS5.nin hpt trivial) hpt
        rw [hd, linkB] at hx
        obtain ⟨lc6, ⟨dxs6, fss6, hs6, Fs6⟩, _⟩ := id hS6.sto
        have lk6 := Fs6.lay
        have hL6 := hS6.hl
        walk_at "go"
        dsimp only at hx
        rw [Int.toNat_natCast] at hx
        refine r_iteN (fun h0' => ?_) (fun h0' => ?_)
        · obtain ⟨k, its, hB, hl⟩ := w3 h0'
          have hit : itemsOf B6 p1 = its := by unfold itemsOf; rw [hB]
          rw [if_pos h0', hit] at hx
          rw [← hx] at q
          have hmi : m < its.length := by omega
          have hks : ks6.length ≤ 1000 := by omega
          walk_at "go"
          rename_i H7 e7 hS7
          exact q _ (eH5.trans (e6.l3.trans e7.l3)) (hW5.stw (e6.trans e7) hS7)
        · rw [if_neg (fun z => z h0')] at hx
          have hmc : m < c := by omega
          have hks : ks6.length ≤ 1000 := by omega
          walk_at "go"
          rename_i H7 v s7 hv7 H8 e8 hS8
          refine ⟨lstF ks6, (upB B6 (lstF ks6) (4, idxL c m bl'), ks6 ++ [lstF ks6], rt6), _, _, rfl, e6.trans ((Ex.of s7).trans e8), hS8, hx, hwo6.up (hS6.free (lstF_nin ks6)), ?_, rfl⟩
          simp only [List.length_append, List.length_cons, List.length_nil]
          omega
      · rintro σ' H' ⟨bl', x, v7, v8, rfl, e6, hS6, hx, hwo6, hl6, hr6⟩
        rw [List.length_map, lts, ← List.length_reverse, List.drop_length, linkB] at hx
        obtain ⟨B6, ks6, rt6⟩ := x
        dsimp only at hS6 hwo6 hl6 hr6 hx
        subst hr6
        rw [← hx] at q
        have hW6 := hW5.stw e6 hS6
        obtain ⟨dxf, fsf, hf, Ff⟩ := id hW6.fl
        have few := Ff.few
        walk_at "go"
        rename_i H7 e7 g7
        exact q _ (eH5.trans (e6.l3.trans (Ex.f3 e7))) (hW6.flw e7 (Ff.root' _))

/-! ### trees by their cells: the mathematics -/
structure Tr (c h : Nat) (rt : Int) (B : Int → Option Pay) (ks : List Int) (C : Nat → Nat → Int) (Dt : Nat → List Int) (F : Int → Option Pay) : Prop where
  root : rt = C h 0
  dom : ∀ l i, C l i ≠ 0 → l ≤ h ∧ i < c ^ (h - l)
  pos : ∀ l i, C l i ≠ 0 → C l i ∈ ks
  inj : ∀ l i l' i', C l i ≠ 0 → C l i = C l' i' → l = l' ∧ i = i'
  up : ∀ l i, l < h → C l i ≠ 0 → C (l + 1) (i / c) ≠ 0
  full : ∀ l i, C (l + 1) i ≠ 0 → ∃ k, k < c ∧ C l (i * c + k) ≠ 0
  leaf : ∀ i, C 0 i ≠ 0 → B (C 0 i) = some (3, Dt i)
  node : ∀ l i, C (l + 1) i ≠ 0 → B (C (l + 1) i) = some (4, (List.range c).map fun k => C l (i * c + k))
  frn : ∀ x, (∀ l i, C l i = x → x = 0) → B x = F x
theorem items_len {c : Nat} {g : Nat → Int} : ((List.range c).map g).length = c := by rw [List.length_map, List.length_range]
theorem items_at {c m : Nat} {g : Nat → Int} (h : m < c) : ((List.range c).map g).getD m 0 = g m := by
  rw [List.getD_eq_getElem?_getD, List.getElem?_map, List.getElem?_range h]
  rfl
theorem div_k {c i k : Nat} (c0 : 2 ≤ c) (h : k < c) : (i * c + k) / c = i := by
  rw [Nat.mul_comm, Nat.mul_add_div (by omega), Nat.div_eq_of_lt h, Nat.add_zero]
theorem Tr.kid {c h : Nat} {rt : Int} {B : Int → Option Pay} {ks : List Int} {C : Nat → Nat → Int} {Dt : Nat → List Int} {F : Int → Option Pay} (t : Tr c h rt B ks C Dt F) (c0 : 2 ≤ c) {l i m : Nat} (hm : m < c) : (if C (l + 1) i = 0 then 0 else child B (C (l + 1) i) m) = if l < h then C l (i * c + m) else 0 := by
  by_cases e : C (l + 1) i = 0
  · rw [if_pos e]
    by_cases hl : l < h
    · rw [if_pos hl]
      symm
      refine Decidable.byContradiction fun z => ?_
      have := t.up l (i * c + m) hl z
      rw [div_k c0 hm] at this
      exact this e
    · rw [if_neg hl]
  · rw [if_neg e, if_pos (by have := (t.dom _ _ e).1; omega)]
    unfold child
    rw [t.node l i e]
    exact items_at hm
theorem Tr.wf {c h : Nat} {rt : Int} {B : Int → Option Pay} {ks : List Int} {C : Nat → Nat → Int} {Dt : Nat → List Int} {F : Int → Option Pay} (t : Tr c h rt B ks C Dt F) : ∀ l i, Wf B c l (C l i)
  | 0, _ => trivial
  | l + 1, i => fun hn => ⟨4, _, t.node l i hn, items_len, fun m hm => by rw [items_at hm]; exact t.wf l _⟩
theorem Tr.wfr {c h : Nat} {rt : Int} {B : Int → Option Pay} {ks : List Int} {C : Nat → Nat → Int} {Dt : Nat → List Int} {F : Int → Option Pay} (t : Tr c h rt B ks C Dt F) : Wf B c h rt := by
  rw [t.root]
  exact t.wf h 0
theorem mod_div {c n j : Nat} (c0 : 2 ≤ c) : n % c ^ (j + 1) / c ^ j = n / c ^ j % c := by
  rw [Nat.pow_succ, Nat.mod_mul_right_div_self]
theorem mod_mod' {c n j : Nat} : n % c ^ (j + 1) % c ^ j = n % c ^ j := Nat.mod_mod_of_dvd _ (by rw [Nat.pow_succ]; exact Nat.dvd_mul_right _ _)
theorem div_div' {c n j : Nat} : n / c ^ j / c = n / c ^ (j + 1) := by rw [Nat.div_div_eq_div_mul, Nat.pow_succ]
theorem div_mod' {c n j : Nat} : n / c ^ (j + 1) * c + n / c ^ j % c = n / c ^ j := by
  rw [← div_div', Nat.mul_comm]
  exact Nat.div_add_mod _ _
theorem Tr.kidn {c h : Nat} {rt : Int} {B : Int → Option Pay} {ks : List Int} {C : Nat → Nat → Int} {Dt : Nat → List Int} {F : Int → Option Pay} (t : Tr c h rt B ks C Dt F) (c0 : 2 ≤ c) {j n : Nat} (hj : j < h) : (if C (j + 1) (n / c ^ (j + 1)) = 0 then 0 else child B (C (j + 1) (n / c ^ (j + 1))) (n % c ^ (j + 1) / c ^ j)) = C j (n / c ^ j) := by
  rw [mod_div c0, t.kid c0 (Nat.mod_lt _ (by omega)), if_pos hj, div_mod']
theorem Tr.dn {c h : Nat} {rt : Int} {B : Int → Option Pay} {ks : List Int} {C : Nat → Nat → Int} {Dt : Nat → List Int} {F : Int → Option Pay} (t : Tr c h rt B ks C Dt F) (c0 : 2 ≤ c) (n : Nat) : ∀ j, j ≤ h → Sg.dn B c j (C j (n / c ^ j)) (n % c ^ j) = C 0 n
  | 0, _ => by rw [Sg.dn, Nat.pow_zero, Nat.div_one]
  | j + 1, hj => by
    have e := t.kidn c0 (n := n) (show j < h by omega)
    rw [Sg.dn]
    by_cases z : C (j + 1) (n / c ^ (j + 1)) = 0
    · rw [if_pos z]
      rw [if_pos z] at e
      have ih := t.dn c0 n j (by omega)
      rw [← e] at ih
      rw [← ih]
      cases j <;> simp [Sg.dn]
    · rw [if_neg z]
      rw [if_neg z] at e
      rw [e, mod_mod']
      exact t.dn c0 n j (by omega)
theorem Tr.blk {c h : Nat} {rt : Int} {B : Int → Option Pay} {ks : List Int} {C : Nat → Nat → Int} {Dt : Nat → List Int} {F : Int → Option Pay} (t : Tr c h rt B ks C Dt F) (c0 : 2 ≤ c) (n : Nat) : blkId B c h rt n = C 0 n := by
  unfold blkId
  by_cases hn : n < c ^ h
  · have := t.dn c0 n h (Nat.le_refl h)
    rw [Nat.div_eq_of_lt hn, Nat.mod_eq_of_lt hn, ← t.root] at this
    rw [if_pos hn, this]
  · rw [if_neg hn]
    symm
    refine Decidable.byContradiction fun z => ?_
    have := (t.dom 0 n z).2
    rw [Nat.sub_zero] at this
    exact hn this
/-- the way up from a block -/
def pathP (c : Nat) (C : Nat → Nat → Int) (n : Nat) : Nat → Nat → List (Int × Int)
  | 0, _ => []
  | k + 1, l => (C (l + 1) (n / c ^ (l + 1)), ((n / c ^ l % c : Nat) : Int)) :: pathP c C n k (l + 1)
theorem pathP_snoc {c : Nat} {C : Nat → Nat → Int} {n : Nat} : ∀ k l, pathP c C n (k + 1) l = pathP c C n k l ++ [(C (l + k + 1) (n / c ^ (l + k + 1)), ((n / c ^ (l + k) % c : Nat) : Int))]
  | 0, l => rfl
  | k + 1, l => by
    rw [pathP, pathP_snoc k (l + 1), pathP, show l + 1 + k = l + (k + 1) by omega]
    rfl
theorem pathP_congr {c : Nat} {C C' : Nat → Nat → Int} {n : Nat} : ∀ k l, (∀ l' i, l < l' → C l' i = C' l' i) → pathP c C n k l = pathP c C' n k l
  | 0, _, _ => rfl
  | k + 1, l, h => by
    rw [pathP, pathP, h _ _ (Nat.lt_succ_self l), pathP_congr k (l + 1) fun l' i hl => h l' i (by omega)]
theorem Tr.way {c h : Nat} {rt : Int} {B : Int → Option Pay} {ks : List Int} {C : Nat → Nat → Int} {Dt : Nat → List Int} {F : Int → Option Pay} (t : Tr c h rt B ks C Dt F) (c0 : 2 ≤ c) (n : Nat) : ∀ j, j ≤ h → (wayB B c j (C j (n / c ^ j)) (n % c ^ j)).reverse = pathP c C n j 0
  | 0, _ => rfl
  | j + 1, hj => by
    rw [wayB, List.reverse_cons, t.kidn c0 (n := n) (show j < h by omega), mod_mod', t.way c0 n j (by omega), pathP_snoc, mod_div c0]
    simp
/-- a cell is made -/
def upC (C : Nat → Nat → Int) (l i : Nat) (x : Int) : Nat → Nat → Int := fun l' i' => if l' = l ∧ i' = i then x else C l' i'
theorem upC_same {C : Nat → Nat → Int} {l i : Nat} {x : Int} : upC C l i x l i = x := if_pos ⟨rfl, rfl⟩
theorem upC_ne {C : Nat → Nat → Int} {l i l' i' : Nat} {x : Int} (h : ¬ (l' = l ∧ i' = i)) : upC C l i x l' i' = C l' i' := if_neg h
theorem upB_same {B : Int → Option Pay} {i : Int} {p : Pay} : upB B i p i = some p := if_pos rfl
theorem upB_ne {B : Int → Option Pay} {i j : Int} {p : Pay} (h : j ≠ i) : upB B i p j = B j := if_neg h
def raiseC : Nat → Nat → (Nat → Nat → Int) × List Int → (Nat → Nat → Int) × List Int
  | 0, _, x => x
  | k + 1, h, x => raiseC k (h + 1) (upC x.1 (h + 1) 0 (lstF x.2), x.2 ++ [lstF x.2])
def pathC (c n : Nat) : Nat → Nat → (Nat → Nat → Int) × List Int → (Nat → Nat → Int) × List Int
  | 0, _, x => x
  | m + 1, l, x => if x.1 l (n / c ^ l) = 0 then pathC c n m (l + 1) (upC x.1 l (n / c ^ l) (lstF x.2), x.2 ++ [lstF x.2]) else pathC c n m (l + 1) x
theorem Tr.raise1 {c h : Nat} {rt : Int} {B : Int → Option Pay} {ks : List Int} {C : Nat → Nat → Int} {Dt : Nat → List Int} {F : Int → Option Pay} (t : Tr c h rt B ks C Dt F) (c0 : 2 ≤ c) (hr : rt ≠ 0) (h0 : 0 ∉ ks) : Tr c (h + 1) (lstF ks) (upB B (lstF ks) (4, idxL c 0 rt)) (ks ++ [lstF ks]) (upC C (h + 1) 0 (lstF ks)) Dt F := by
  have hn := lstF_nin ks
  have hp := lstF_pos ks
  have fresh : ∀ l i, C l i ≠ lstF ks := fun l i e => by
    have : C l i ≠ 0 := by rw [e]; omega
    exact hn (e ▸ t.pos l i this)
  have top : ∀ l i, C l i ≠ 0 → ¬ (l = h + 1 ∧ i = 0) := fun l i e z => by have := (t.dom l i e).1; omega
  have low : ∀ l i, l ≤ h → upC C (h + 1) 0 (lstF ks) l i = C l i := fun l i e => upC_ne (by omega)
  have cs : ∀ l i, upC C (h + 1) 0 (lstF ks) l i ≠ 0 → (l = h + 1 ∧ i = 0) ∨ (C l i ≠ 0 ∧ upC C (h + 1) 0 (lstF ks) l i = C l i) := fun l i e => by
    by_cases z : l = h + 1 ∧ i = 0
    · exact .inl z
    · rw [upC_ne z] at e ⊢
      exact .inr ⟨e, rfl⟩
  refine ⟨upC_same.symm, fun l i e => ?_, fun l i e => ?_, fun l i l' i' e e' => ?_, fun l i hl e => ?_, fun l i e => ?_, fun i e => ?_, fun l i e => ?_, fun x hx => ?_⟩
  · rcases cs l i e with ⟨rfl, rfl⟩ | ⟨z, _⟩
    · exact ⟨Nat.le_refl _, by rw [Nat.sub_self, Nat.pow_zero]; decide⟩
    · have := t.dom l i z
      exact ⟨by omega, Nat.lt_of_lt_of_le this.2 (Nat.pow_le_pow_right (by omega) (by omega))⟩
  · rcases cs l i e with ⟨rfl, rfl⟩ | ⟨z, ez⟩
    · rw [upC_same]; simp
    · rw [ez]; simp [t.pos l i z]
  · rcases cs l i e with ⟨rfl, rfl⟩ | ⟨z, ez⟩
    · rw [upC_same] at e'
      by_cases w : l' = h + 1 ∧ i' = 0
      · exact ⟨w.1.symm, w.2.symm⟩
      · rw [upC_ne w] at e'
        exact absurd e'.symm (fresh _ _)
    · rw [ez] at e'
      by_cases w : l' = h + 1 ∧ i' = 0
      · rw [w.1, w.2, upC_same] at e'
        exact absurd e' (fresh _ _)
      · rw [upC_ne w] at e'
        exact t.inj l i l' i' z e'
  · rw [low l i (by omega)] at e
    by_cases z : l = h
    · subst z
      have := (t.dom l i e).2
      rw [Nat.sub_self, Nat.pow_zero] at this
      rw [show i / c = 0 by rw [show i = 0 by omega]; exact Nat.zero_div _, upC_same]
      omega
    · rw [low (l + 1) _ (by omega)]
      exact t.up l i (by omega) e
  · rcases cs (l + 1) i e with ⟨e1, rfl⟩ | ⟨z, _⟩
    · have e1 : l = h := by omega
      subst e1
      refine ⟨0, by omega, ?_⟩
      rw [low l _ (Nat.le_refl l), Nat.zero_mul, Nat.zero_add, ← t.root]
      exact hr
    · obtain ⟨k, hk, e2⟩ := t.full l i z
      exact ⟨k, hk, by rw [low l _ (by have := (t.dom _ _ z).1; omega)]; exact e2⟩
  · rw [low 0 i (by omega)] at e ⊢
    rw [upB_ne (fresh _ _)]
    exact t.leaf i e
  · rcases cs (l + 1) i e with ⟨e1, rfl⟩ | ⟨z, ez⟩
    · have e1 : l = h := by omega
      subst e1
      rw [upC_same, upB_same]
      congr 2
      refine List.ext_getElem? fun m => ?_
      by_cases hm : m < c
      · have := idxL_at (c := c) (m := 0) (z := rt) (by omega) m
        rw [List.getElem?_map, List.getElem?_range hm, List.getElem?_eq_getElem (by rw [idxL_len]; exact hm)]
        rw [List.getD_eq_getElem?_getD, List.getElem?_eq_getElem (by rw [idxL_len]; exact hm), Option.getD_some] at this
        rw [this, Option.map_some, low l _ (Nat.le_refl l), Nat.zero_mul, Nat.zero_add]
        congr 1
        by_cases e0 : m = 0
        · rw [if_pos e0, e0, t.root]
        · rw [if_neg e0]
          symm
          refine Decidable.byContradiction fun w => ?_
          have := (t.dom l m w).2
          rw [Nat.sub_self, Nat.pow_zero] at this
          omega
      · rw [List.getElem?_eq_none (by rw [idxL_len]; omega), List.getElem?_eq_none (by rw [items_len]; omega)]
    · rw [ez, upB_ne (fresh _ _), t.node l i z]
      have hl := (t.dom _ _ z).1
      congr 2
      refine List.map_congr_left fun k _ => ?_
      rw [low l _ (by omega)]
  · have e1 : x ≠ lstF ks := fun z => by
      have := hx (h + 1) 0 (by rw [upC_same, z])
      omega
    rw [upB_ne e1]
    refine t.frn x fun l i e => ?_
    by_cases z : l = h + 1 ∧ i = 0
    · have := t.dom l i
      rw [z.1, z.2] at e this
      by_cases w : C (h + 1) 0 = 0
      · rw [← e]; exact w
      · have := (this w).1
        omega
    · exact hx l i (by rw [upC_ne z]; exact e)
theorem Tr.raise0 {c h : Nat} {B : Int → Option Pay} {ks : List Int} {C : Nat → Nat → Int} {Dt : Nat → List Int} {F : Int → Option Pay} (t : Tr c h 0 B ks C Dt F) : (∀ l i, C l i = 0) ∧ ∀ h', Tr c h' 0 B ks C Dt F := by
  have z : ∀ k l i, l + k = h → C l i = 0 := fun k => by
    induction k with
    | zero =>
      intro l i e
      refine Decidable.byContradiction fun w => ?_
      have hl : l = h := by omega
      subst hl
      have := (t.dom l i w).2
      rw [Nat.sub_self, Nat.pow_zero] at this
      rw [show i = 0 by omega] at w
      exact w t.root.symm
    | succ k ih =>
      intro l i e
      refine Decidable.byContradiction fun w => ?_
      exact t.up l i (by omega) w (ih (l + 1) (i / c) (by omega))
  have z' : ∀ l i, C l i = 0 := fun l i => Decidable.byContradiction fun w => w (z (h - l) l i (by have := (t.dom l i w).1; omega))
  exact ⟨z', fun h' => ⟨(z' _ _).symm, fun l i e => absurd (z' l i) e, fun l i e => absurd (z' l i) e, fun l i l' i' e => absurd (z' l i) e, fun l i _ e => absurd (z' l i) e, fun l i e => absurd (z' _ i) e, fun i e => absurd (z' 0 i) e, fun l i e => absurd (z' _ i) e, fun x hx => t.frn x hx⟩⟩
theorem Tr.raise {c : Nat} (c0 : 2 ≤ c) {Dt : Nat → List Int} {F : Int → Option Pay} : ∀ (k h : Nat) (rt : Int) (B : Int → Option Pay) (ks : List Int) (C : Nat → Nat → Int), Tr c h rt B ks C Dt F → rt ≠ 0 → 0 ∉ ks →
    Tr c (h + k) (raiseB c k (B, ks, rt)).2.2 (raiseB c k (B, ks, rt)).1 (raiseB c k (B, ks, rt)).2.1 (raiseC k h (C, ks)).1 Dt F ∧ (raiseB c k (B, ks, rt)).2.1 = (raiseC k h (C, ks)).2 ∧ 0 ∉ (raiseB c k (B, ks, rt)).2.1 ∧ (raiseB c k (B, ks, rt)).2.2 ≠ 0
  | 0, h, rt, B, ks, C, t, hr, h0 => ⟨t, rfl, h0, hr⟩
  | k + 1, h, rt, B, ks, C, t, hr, h0 => by
    have hp := lstF_pos ks
    have := Tr.raise c0 k (h + 1) _ _ _ _ (t.raise1 c0 hr h0) (by omega) (by simp only [List.mem_append, List.mem_singleton, not_or]; exact ⟨h0, by omega⟩)
    rw [raiseB, if_neg hr, raiseC, show h + (k + 1) = h + 1 + k by omega]
    exact this
/-- a tree whose newest node is not linked yet -/
structure PT (c h n l : Nat) (b rt : Int) (B : Int → Option Pay) (ks : List Int) (C : Nat → Nat → Int) (Dt : Nat → List Int) (F : Int → Option Pay) : Prop where
  top : C l (n / c ^ l) = b
  b0 : b ≠ 0
  lh : l ≤ h
  root : l < h → rt = C h 0
  dom : ∀ l i, C l i ≠ 0 → l ≤ h ∧ i < c ^ (h - l)
  pos : ∀ l i, C l i ≠ 0 → C l i ∈ ks
  inj : ∀ l i l' i', C l i ≠ 0 → C l i = C l' i' → l = l' ∧ i = i'
  up : ∀ l' i, l' < h → C l' i ≠ 0 → ¬ (l' = l ∧ i = n / c ^ l) → C (l' + 1) (i / c) ≠ 0
  full : ∀ l i, C (l + 1) i ≠ 0 → ∃ k, k < c ∧ C l (i * c + k) ≠ 0
  leaf : ∀ i, C 0 i ≠ 0 → B (C 0 i) = some (3, Dt i)
  node : ∀ l' i, C (l' + 1) i ≠ 0 → B (C (l' + 1) i) = some (4, (List.range c).map fun k => if l' = l ∧ i * c + k = n / c ^ l then 0 else C l' (i * c + k))
  frn : ∀ x, (∀ l i, C l i = x → x = 0) → B x = F x
theorem pow_div_lt {c h n l : Nat} (c0 : 2 ≤ c) (hn : n < c ^ h) (hl : l ≤ h) : n / c ^ l < c ^ (h - l) := by
  rw [Nat.div_lt_iff_lt_mul (pw_pos c0 l), ← Nat.pow_add, Nat.sub_add_cancel hl]
  exact hn
/-- the last link is made -/
theorem PT.done {c h n l : Nat} {b rt : Int} {B : Int → Option Pay} {ks : List Int} {C : Nat → Nat → Int} {Dt : Nat → List Int} {F : Int → Option Pay} (t : PT c h n l b rt B ks C Dt F) (c0 : 2 ≤ c) (hn : n < c ^ h) (hl : l = h) : Tr c h b B ks C Dt F := by
  have e : n / c ^ l = 0 := by rw [hl]; exact Nat.div_eq_of_lt hn
  refine ⟨by rw [← t.top, e, hl], t.dom, t.pos, t.inj, fun l' i h1 h2 => t.up l' i h1 h2 (by omega), t.full, t.leaf, fun l' i h1 => ?_, t.frn⟩
  rw [t.node l' i h1]
  have := (t.dom _ _ h1).1
  congr 2
  refine List.map_congr_left fun k _ => ?_
  rw [if_neg (by omega)]
theorem PT.link {c h n l : Nat} {b rt : Int} {B : Int → Option Pay} {ks : List Int} {C : Nat → Nat → Int} {Dt : Nat → List Int} {F : Int → Option Pay} (t : PT c h n l b rt B ks C Dt F) (c0 : 2 ≤ c) (hl : l < h) (hp : C (l + 1) (n / c ^ (l + 1)) ≠ 0) :
    Tr c h rt (upB B (C (l + 1) (n / c ^ (l + 1))) (4, (itemsOf B (C (l + 1) (n / c ^ (l + 1)))).set (n / c ^ l % c) b)) ks C Dt F := by
  have hit := t.node l _ hp
  have en : n / c ^ (l + 1) * c + n / c ^ l % c = n / c ^ l := div_mod'
  have hm : n / c ^ l % c < c := Nat.mod_lt _ (by omega)
  have ne : ∀ l' i', ¬ (l' = l + 1 ∧ i' = n / c ^ (l + 1)) → C l' i' ≠ 0 → C l' i' ≠ C (l + 1) (n / c ^ (l + 1)) := fun l' i' h1 h2 z => h1 (t.inj _ _ _ _ h2 z)
  refine ⟨t.root hl, t.dom, t.pos, t.inj, fun l' i h1 h2 => ?_, t.full, fun i h1 => ?_, fun l' i h1 => ?_, fun x hx => ?_⟩
  · by_cases z : l' = l ∧ i = n / c ^ l
    · rw [z.1, z.2, div_div']
      exact hp
    · exact t.up l' i h1 h2 z
  · rw [upB_ne (ne 0 i (by omega) h1)]
    exact t.leaf i h1
  · by_cases z : l' + 1 = l + 1 ∧ i = n / c ^ (l + 1)
    · have e1 : l' = l := by omega
      obtain ⟨_, z2⟩ := z
      subst e1
      subst z2
      rw [upB_same]
      congr 2
      unfold itemsOf
      rw [hit]
      dsimp only
      refine List.ext_getElem? fun m => ?_
      by_cases em : n / c ^ l' % c = m
      · subst em
        rw [List.getElem?_set_self (by rw [items_len]; exact hm), List.getElem?_map, List.getElem?_range hm, Option.map_some, en, t.top]
      · rw [List.getElem?_set_ne em, List.getElem?_map, List.getElem?_map]
        cases hr : (List.range c)[m]? with
        | none => rfl
        | some k =>
          obtain ⟨hk, ek⟩ := List.getElem?_eq_some_iff.mp hr
          rw [List.getElem_range] at ek
          subst ek
          rw [Option.map_some, Option.map_some, if_neg]
          rintro ⟨_, w⟩
          omega
    · rw [upB_ne (ne _ _ z h1), t.node l' i h1]
      congr 2
      refine List.map_congr_left fun k hk => ?_
      rw [if_neg]
      rintro ⟨w1, w2⟩
      refine z ⟨by omega, ?_⟩
      rw [← div_div', ← w2, div_k c0 (List.mem_range.mp hk)]
  · rw [upB_ne (fun z => ?_)]
    · exact t.frn x hx
    · exact hp (by rw [← z]; exact hx _ _ z.symm)
theorem PT.more {c h n l : Nat} {b rt : Int} {B : Int → Option Pay} {ks : List Int} {C : Nat → Nat → Int} {Dt : Nat → List Int} {F : Int → Option Pay} (t : PT c h n l b rt B ks C Dt F) (c0 : 2 ≤ c) (hn : n < c ^ h) (hl : l < h) (hp : C (l + 1) (n / c ^ (l + 1)) = 0) (h0 : 0 ∉ ks) :
    PT c h n (l + 1) (lstF ks) rt (upB B (lstF ks) (4, idxL c (n / c ^ l % c) b)) (ks ++ [lstF ks]) (upC C (l + 1) (n / c ^ (l + 1)) (lstF ks)) Dt F := by
  have hnin := lstF_nin ks
  have hpos := lstF_pos ks
  generalize hL : lstF ks = x at hnin hpos ⊢
  have en : n / c ^ (l + 1) * c + n / c ^ l % c = n / c ^ l := div_mod'
  have hm : n / c ^ l % c < c := Nat.mod_lt _ (by omega)
  have fresh : ∀ l i, C l i ≠ x := fun l i e => by
    have : C l i ≠ 0 := by rw [e]; omega
    exact hnin (e ▸ t.pos l i this)
  have cs : ∀ l' i, upC C (l + 1) (n / c ^ (l + 1)) x l' i ≠ 0 → (l' = l + 1 ∧ i = n / c ^ (l + 1)) ∨ (C l' i ≠ 0 ∧ upC C (l + 1) (n / c ^ (l + 1)) x l' i = C l' i) := fun l' i e => by
    by_cases z : l' = l + 1 ∧ i = n / c ^ (l + 1)
    · exact .inl z
    · rw [upC_ne z] at e ⊢
      exact .inr ⟨e, rfl⟩
  have keep : ∀ l' i, C l' i ≠ 0 → upC C (l + 1) (n / c ^ (l + 1)) x l' i ≠ 0 := fun l' i e => by
    by_cases z : l' = l + 1 ∧ i = n / c ^ (l + 1)
    · rw [z.1, z.2] at e
      exact absurd hp e
    · rw [upC_ne z]
      exact e
  refine ⟨upC_same, by omega, by omega, fun h1 => ?_, fun l' i e => ?_, fun l' i e => ?_, fun l1 i l' i' e e' => ?_, fun l' i h1 e z => ?_, fun l' i e => ?_, fun i e => ?_, fun l' i e => ?_, fun y hy => ?_⟩
  · rw [upC_ne (by omega)]
    exact t.root hl
  · rcases cs l' i e with ⟨rfl, rfl⟩ | ⟨z, _⟩
    · exact ⟨by omega, pow_div_lt c0 hn (by omega)⟩
    · exact t.dom l' i z
  · rcases cs l' i e with ⟨rfl, rfl⟩ | ⟨z, ez⟩
    · rw [upC_same]; simp
    · rw [ez]; simp [t.pos l' i z]
  · rcases cs l1 i e with ⟨rfl, rfl⟩ | ⟨z, ez⟩
    · rw [upC_same] at e'
      by_cases w : l' = l + 1 ∧ i' = n / c ^ (l + 1)
      · exact ⟨w.1.symm, w.2.symm⟩
      · rw [upC_ne w] at e'
        exact absurd e'.symm (fresh _ _)
    · rw [ez] at e'
      by_cases w : l' = l + 1 ∧ i' = n / c ^ (l + 1)
      · rw [w.1, w.2, upC_same] at e'
        exact absurd e' (fresh _ _)
      · rw [upC_ne w] at e'
        exact t.inj l1 i l' i' z e'
  · rcases cs l' i e with w | ⟨w, _⟩
    · exact absurd w z
    · by_cases y : l' = l ∧ i = n / c ^ l
      · rw [y.1, y.2, div_div', upC_same]
        omega
      · exact keep _ _ (t.up l' i h1 w y)
  · rcases cs (l' + 1) i e with ⟨e1, rfl⟩ | ⟨z, _⟩
    · have e1 : l' = l := by omega
      subst e1
      refine ⟨_, hm, keep _ _ ?_⟩
      rw [en, t.top]
      exact t.b0
    · obtain ⟨k, hk, e2⟩ := t.full l' i z
      exact ⟨k, hk, keep _ _ e2⟩
  · rw [upC_ne (by omega)] at e ⊢
    rw [upB_ne (fresh _ _)]
    exact t.leaf i e
  · rcases cs (l' + 1) i e with ⟨e1, rfl⟩ | ⟨z, ez⟩
    · have e1 : l' = l := by omega
      subst e1
      rw [upC_same, upB_same]
      congr 2
      refine List.ext_getElem? fun m => ?_
      by_cases hm' : m < c
      · have := idxL_at (c := c) (m := n / c ^ l' % c) (z := b) hm m
        rw [List.getElem?_map, List.getElem?_range hm', List.getElem?_eq_getElem (by rw [idxL_len]; exact hm')]
        rw [List.getD_eq_getElem?_getD, List.getElem?_eq_getElem (by rw [idxL_len]; exact hm'), Option.getD_some] at this
        rw [this, Option.map_some, if_neg (show ¬ (l' = l' + 1 ∧ n / c ^ (l' + 1) * c + m = n / c ^ (l' + 1)) by omega), upC_ne (show ¬ (l' = l' + 1 ∧ n / c ^ (l' + 1) * c + m = n / c ^ (l' + 1)) by omega)]
        congr 1
        by_cases e0 : m = n / c ^ l' % c
        · rw [if_pos e0, e0, en, t.top]
        · rw [if_neg e0]
          symm
          refine Decidable.byContradiction fun w => ?_
          have := t.up l' _ hl w (by rintro ⟨_, w2⟩; omega)
          rw [div_k c0 hm'] at this
          exact this hp
      · rw [List.getElem?_eq_none (by rw [idxL_len]; omega), List.getElem?_eq_none (by rw [items_len]; omega)]
    · rw [ez, upB_ne (fresh _ _), t.node l' i z]
      congr 2
      refine List.map_congr_left fun k hk => ?_
      by_cases y : l' = l + 1 ∧ i * c + k = n / c ^ (l + 1)
      · rw [if_pos y, if_neg (by omega), y.1, y.2]
        exact hp
      · rw [if_neg y, upC_ne y, if_neg]
        rintro ⟨w1, w2⟩
        have : n / c ^ (l + 1) = i := by rw [← div_div', ← w2, div_k c0 (List.mem_range.mp hk)]
        rw [w1, ← this] at z
        exact z hp
  · have e1 : y ≠ x := fun z => by
      have := hy (l + 1) (n / c ^ (l + 1)) (by rw [upC_same, z])
      omega
    rw [upB_ne e1]
    refine t.frn y fun l' i e => ?_
    by_cases z : l' = l + 1 ∧ i = n / c ^ (l + 1)
    · rw [z.1, z.2, hp] at e
      exact e.symm
    · exact hy l' i (by rw [upC_ne z]; exact e)
theorem pathC_len {c n : Nat} : ∀ (m l : Nat) (x : (Nat → Nat → Int) × List Int), (pathC c n m l x).2.length ≤ x.2.length + m
  | 0, _, x => Nat.le_refl _
  | m + 1, l, x => by
    rw [pathC]
    split
    · refine Nat.le_trans (pathC_len m (l + 1) _) ?_
      simp only [List.length_append, List.length_cons, List.length_nil]
      omega
    · exact Nat.le_trans (pathC_len m (l + 1) x) (by omega)
theorem raiseC_len : ∀ (k h : Nat) (x : (Nat → Nat → Int) × List Int), (raiseC k h x).2.length = x.2.length + k
  | 0, _, x => rfl
  | k + 1, h, x => by
    rw [raiseC, raiseC_len k (h + 1)]
    simp only [List.length_append, List.length_cons, List.length_nil]
    omega
/-- all above are there -/
theorem pathC_have {c n : Nat} {C : Nat → Nat → Int} {ks : List Int} : ∀ (m l : Nat), (∀ j, l ≤ j → j < l + m → C j (n / c ^ j) ≠ 0) → pathC c n m l (C, ks) = (C, ks)
  | 0, _, _ => rfl
  | m + 1, l, h => by
    rw [pathC, if_neg (h l (Nat.le_refl l) (by omega))]
    exact pathC_have m (l + 1) fun j h1 h2 => h j (by omega) (by omega)
theorem Tr.above {c h : Nat} {rt : Int} {B : Int → Option Pay} {ks : List Int} {C : Nat → Nat → Int} {Dt : Nat → List Int} {F : Int → Option Pay} (t : Tr c h rt B ks C Dt F) {n l : Nat} (h0 : C l (n / c ^ l) ≠ 0) : ∀ j, l + j ≤ h → C (l + j) (n / c ^ (l + j)) ≠ 0
  | 0, _ => h0
  | j + 1, hj => by
    have := t.up (l + j) _ (by omega) (t.above h0 j (by omega))
    rw [div_div'] at this
    exact this
theorem PT.run {c h n : Nat} (c0 : 2 ≤ c) (hn : n < c ^ h) {Dt : Nat → List Int} {F : Int → Option Pay} : ∀ (k l : Nat) (b rt : Int) (B : Int → Option Pay) (ks : List Int) (C : Nat → Nat → Int), PT c h n l b rt B ks C Dt F → l + k = h → 0 ∉ ks →
    Tr c h (linkB c (pathP c C n k l) b (B, ks, rt)).2.2 (linkB c (pathP c C n k l) b (B, ks, rt)).1 (linkB c (pathP c C n k l) b (B, ks, rt)).2.1 (pathC c n k (l + 1) (C, ks)).1 Dt F ∧ (linkB c (pathP c C n k l) b (B, ks, rt)).2.1 = (pathC c n k (l + 1) (C, ks)).2 ∧ 0 ∉ (linkB c (pathP c C n k l) b (B, ks, rt)).2.1
  | 0, l, b, rt, B, ks, C, t, hk, h0 => ⟨t.done c0 hn (by omega), rfl, h0⟩
  | k + 1, l, b, rt, B, ks, C, t, hk, h0 => by
    rw [pathP, linkB, pathC]
    dsimp only
    rw [Int.toNat_natCast]
    by_cases hp : C (l + 1) (n / c ^ (l + 1)) = 0
    · rw [if_neg (fun z => z hp), if_pos hp]
      have t' := t.more c0 hn (by omega) hp h0
      have e : pathP c C n k (l + 1) = pathP c (upC C (l + 1) (n / c ^ (l + 1)) (lstF ks)) n k (l + 1) := pathP_congr k (l + 1) fun l' i hl => (upC_ne (by omega)).symm
      rw [e]
      have hp := lstF_pos ks
      exact PT.run c0 hn k (l + 1) _ _ _ _ _ t' (by omega) (by simp only [List.mem_append, List.mem_singleton, not_or]; exact ⟨h0, by omega⟩)
    · rw [if_pos hp, if_neg hp]
      have t' := t.link c0 (by omega) hp
      have e : pathC c n k (l + 1 + 1) (C, ks) = (C, ks) := pathC_have k _ fun j h1 h2 => by
        have := t'.above (n := n) hp (j - (l + 1)) (by omega)
        rw [show l + 1 + (j - (l + 1)) = j by omega] at this
        exact this
      rw [e]
      exact ⟨t', rfl, h0⟩
theorem Tr.bnd {c h : Nat} {rt : Int} {B : Int → Option Pay} {ks : List Int} {C : Nat → Nat → Int} {Dt : Nat → List Int} {F : Int → Option Pay} (t : Tr c h rt B ks C Dt F) {n : Nat} (hn : n < c ^ h) : n / c ^ h = 0 ∧ n % c ^ h = n := ⟨Nat.div_eq_of_lt hn, Nat.mod_eq_of_lt hn⟩
def upD (D : Nat → List Int) (n : Nat) (oc : List Int) : Nat → List Int := fun i => if i = n then oc else D i
/-- a block is set -/
theorem Tr.set {c h n : Nat} {rt : Int} {B : Int → Option Pay} {ks : List Int} {C : Nat → Nat → Int} {Dt : Nat → List Int} {F : Int → Option Pay} (t : Tr c h rt B ks C Dt F) (c0 : 2 ≤ c) (hn : n < c ^ h) (h0 : 0 ∉ ks) (oc : List Int) :
    Tr c h (setB c h n oc (B, ks, rt)).2.2 (setB c h n oc (B, ks, rt)).1 (setB c h n oc (B, ks, rt)).2.1 (pathC c n (h + 1) 0 (C, ks)).1 (upD Dt n oc) F ∧ (setB c h n oc (B, ks, rt)).2.1 = (pathC c n (h + 1) 0 (C, ks)).2 ∧ 0 ∉ (setB c h n oc (B, ks, rt)).2.1 := by
  have hb := t.blk c0 n
  have z0 : n / c ^ 0 = n := by rw [Nat.pow_zero, Nat.div_one]
  unfold setB
  dsimp only
  rw [hb]
  by_cases e : C 0 n = 0
  · rw [if_neg (fun z => z e), pathC]
    dsimp only
    rw [z0, if_pos e]
    have hnin := lstF_nin ks
    have hpos := lstF_pos ks
    have fresh : ∀ l i, C l i ≠ lstF ks := fun l i e => by
      have : C l i ≠ 0 := by rw [e]; omega
      exact hnin (e ▸ t.pos l i this)
    -- the way does not see the new block
    have way : (wayB (upB B (lstF ks) (3, oc)) c h rt n).reverse = pathP c (upC C 0 n (lstF ks)) n h 0 := by
      have w := t.way c0 n h (Nat.le_refl h)
      obtain ⟨b1, b2⟩ := t.bnd hn
      rw [b1, b2, ← t.root] at w
      have same : ∀ (j : Nat) (i : Int) (r : Nat), (∀ p ∈ wayB B c j i r, p.1 ≠ lstF ks) → wayB (upB B (lstF ks) (3, oc)) c j i r = wayB B c j i r := fun j => by
        induction j with
        | zero => intro i r _; rfl
        | succ j ih =>
          intro i r hp
          rw [wayB] at hp ⊢
          rw [wayB]
          have h1 : child (upB B (lstF ks) (3, oc)) i (r / c ^ j) = child B i (r / c ^ j) := by
            unfold child
            rw [upB_ne (hp _ (List.mem_cons_self ..))]
          rw [h1, ih _ _ fun p h2 => hp p (List.mem_cons_of_mem _ h2)]
      rw [same, w]
      · exact pathP_congr h 0 fun l' i hl => (upC_ne (by omega)).symm
      · intro p hp
        have : p ∈ pathP c C n h 0 := by rw [← w]; exact List.mem_reverse.mpr hp
        have mem : ∀ (k l : Nat), p ∈ pathP c C n k l → ∃ l' i, p.1 = C l' i := fun k => by
          induction k with
          | zero => intro l h; cases h
          | succ k ih =>
            intro l h
            rw [pathP] at h
            rcases List.mem_cons.mp h with rfl | h
            · exact ⟨_, _, rfl⟩
            · exact ih _ h
        obtain ⟨l', i, ei⟩ := mem h 0 this
        rw [ei]
        exact fresh _ _
    rw [way]
    have pt : PT c h n 0 (lstF ks) rt (upB B (lstF ks) (3, oc)) (ks ++ [lstF ks]) (upC C 0 n (lstF ks)) (upD Dt n oc) F := by
      have cs : ∀ l' i, upC C 0 n (lstF ks) l' i ≠ 0 → (l' = 0 ∧ i = n) ∨ (C l' i ≠ 0 ∧ upC C 0 n (lstF ks) l' i = C l' i) := fun l' i e => by
        by_cases z : l' = 0 ∧ i = n
        · exact .inl z
        · rw [upC_ne z] at e ⊢
          exact .inr ⟨e, rfl⟩
      have keep : ∀ l' i, C l' i ≠ 0 → upC C 0 n (lstF ks) l' i ≠ 0 := fun l' i w => by
        by_cases z : l' = 0 ∧ i = n
        · rw [z.1, z.2] at w
          exact absurd e w
        · rw [upC_ne z]
          exact w
      refine ⟨by rw [z0]; exact upC_same, by omega, Nat.zero_le _, fun h1 => by rw [upC_ne (by omega)]; exact t.root, fun l' i w => ?_, fun l' i w => ?_, fun l1 i l' i' w e' => ?_, fun l' i h1 w z => ?_, fun l' i w => ?_, fun i w => ?_, fun l' i w => ?_, fun y hy => ?_⟩
      · rcases cs l' i w with ⟨rfl, rfl⟩ | ⟨z, _⟩
        · exact ⟨Nat.zero_le _, hn⟩
        · exact t.dom l' i z
      · rcases cs l' i w with ⟨rfl, rfl⟩ | ⟨z, ez⟩
        · rw [upC_same]; simp
        · rw [ez]; simp [t.pos l' i z]
      · rcases cs l1 i w with ⟨rfl, rfl⟩ | ⟨z, ez⟩
        · rw [upC_same] at e'
          by_cases v : l' = 0 ∧ i' = i
          · exact ⟨v.1.symm, v.2.symm⟩
          · rw [upC_ne v] at e'
            exact absurd e'.symm (fresh _ _)
        · rw [ez] at e'
          by_cases v : l' = 0 ∧ i' = n
          · rw [v.1, v.2, upC_same] at e'
            exact absurd e' (fresh _ _)
          · rw [upC_ne v] at e'
            exact t.inj l1 i l' i' z e'
      · rw [z0] at z
        rcases cs l' i w with v | ⟨v, _⟩
        · exact absurd v z
        · exact keep _ _ (t.up l' i h1 v)
      · rcases cs (l' + 1) i w with v | ⟨v, _⟩
        · omega
        · obtain ⟨k, hk, e2⟩ := t.full l' i v
          exact ⟨k, hk, keep _ _ e2⟩
      · by_cases v : i = n
        · rw [v, upC_same, upB_same]
          unfold upD
          rw [if_pos rfl]
        · rw [upC_ne (by omega)] at w ⊢
          rw [upB_ne (fresh _ _), t.leaf i w]
          unfold upD
          rw [if_neg v]
      · rw [upC_ne (by omega)] at w ⊢
        rw [upB_ne (fresh _ _), t.node l' i w]
        congr 2
        refine List.map_congr_left fun k hk => ?_
        by_cases v : l' = 0 ∧ i * c + k = n
        · rw [z0, if_pos v, v.1, v.2]
          exact e
        · rw [z0, if_neg v, upC_ne v]
      · have e1 : y ≠ lstF ks := fun z => by
          have := hy 0 n (by rw [upC_same, z])
          omega
        rw [upB_ne e1]
        refine t.frn y fun l' i e3 => ?_
        by_cases z : l' = 0 ∧ i = n
        · rw [z.1, z.2, e] at e3
          exact e3.symm
        · exact hy l' i (by rw [upC_ne z]; exact e3)
    exact PT.run c0 hn h 0 _ _ _ _ _ pt (by omega) (by simp only [List.mem_append, List.mem_singleton, not_or]; exact ⟨h0, by omega⟩)
  · have hk := t.pos 0 n e
    rw [if_pos e, addK_in hk, pathC_have (h + 1) 0 fun j _ h2 => by have := t.above (n := n) (l := 0) (by rw [z0]; exact e) j (by omega); rw [Nat.zero_add] at this; exact this]
    dsimp only
    refine ⟨⟨t.root, t.dom, t.pos, t.inj, t.up, t.full, fun i w => ?_, fun l' i w => ?_, fun y hy => ?_⟩, rfl, h0⟩
    · by_cases v : i = n
      · rw [v, upB_same]
        unfold upD
        rw [if_pos rfl]
      · rw [upB_ne (fun z => v (t.inj _ _ _ _ w z).2), t.leaf i w]
        unfold upD
        rw [if_neg v]
    · rw [upB_ne (fun z => by have := (t.inj _ _ _ _ w z).1; omega)]
      exact t.node l' i w
    · rw [upB_ne (fun z => e (by rw [← z]; exact hy _ _ z.symm))]
      exact t.frn y hy

/-! ### dicts whose keys are pairs of ints; get with a default; locks -/
def kDU3 (a : Addr) (y : V) (Q : V → Hp → Prop) : V → Hp → Prop := fun z H3 => ∃ o, DGet H3 a y o ∧ Q (o.getD z) H3
def kDU2 (tx : TE) (a : Addr) (σ : L2.St) (Q : V → Hp → Prop) : V → Hp → Prop := fun y H2 => tx σ H2 (kDU3 a y Q)
def kDU (ty tx : TE) (σ : L2.St) (Q : V → Hp → Prop) : V → Hp → Prop := fun x H1 => ∃ a, x = .ref a ∧ IsD H1 a ∧ ty σ H1 (kDU2 tx a σ Q)
section
variable {σ : L2.St} {H : Hp} {D : Ends} {td ty tx tv : TE} {Q : V → Hp → Prop} {a b : Addr} {kvs : List (List Key × V)} {kvk : List (Key × V)} {i j : Int} {v y z : V} {R : It → Hp → Prop} {o : Obj}
theorem r_dget2 (h : td σ H (kDU ty tx σ Q)) : tDGet2 td ty tx σ H Q := h
theorem r_kduT (h : Rd H a (.dT kvs)) (q : ty σ H (kDU2 tx a σ Q)) : kDU ty tx σ Q (.ref a) H := ⟨a, rfl, .inr ⟨kvs, h⟩, q⟩
theorem r_kduK (h : Rd H a (.dK kvk)) (q : ty σ H (kDU2 tx a σ Q)) : kDU ty tx σ Q (.ref a) H := ⟨a, rfl, .inl ⟨kvk, h⟩, q⟩
theorem r_kdu2 (h : tx σ H (kDU3 a y Q)) : kDU2 tx a σ Q y H := h
theorem dgetT (h : Rd H a (.dT kvs)) (hb : H b = some (.tup [.int i, .int j])) : DGet H a (.ref b) (valV kvs [Sum.inl i, Sum.inl j]) := .inr ⟨kvs, [.inl i, .inl j], b, h, rfl, hb, rfl⟩
theorem r_kdu3T (h : Rd H a (.dT kvs)) (hb : H b = some (.tup [.int i, .int j])) (q : Q ((valV kvs [Sum.inl i, Sum.inl j]).getD z) H) : kDU3 a (.ref b) Q z H := ⟨_, dgetT h hb, q⟩
theorem r_kdu3K (h : Rd H a (.dK kvk)) (q : Q ((valV kvk (Sum.inl i : Key)).getD z) H) : kDU3 a (.int i) Q z H := ⟨_, .inl ⟨kvk, .inl i, h, rfl, rfl⟩, q⟩
theorem r_kdi2T (h : Rd H a (.dT kvs)) (hb : H b = some (.tup [.int i, .int j])) (q : Q (.bl (valV kvs [Sum.inl i, Sum.inl j]).isSome) H) : kDI2 (.ref b) Q (.ref a) H := ⟨a, _, rfl, dgetT h hb, q⟩
theorem r_kdn2T (h : Rd H a (.dT kvs)) (hb : H b = some (.tup [.int i, .int j])) (q : Q (.bl (!(valV kvs [Sum.inl i, Sum.inl j]).isSome)) H) : kDN2 (.ref b) Q (.ref a) H := ⟨a, _, rfl, dgetT h hb, q⟩
theorem r_kdg2T (h : Rd H a (.dT kvs)) (hb : H b = some (.tup [.int i, .int j])) (e : valV kvs [Sum.inl i, Sum.inl j] = some v) (q : Q v H) : kDG2 (.ref a) Q (.ref b) H := ⟨a, v, rfl, by rw [← e]; exact dgetT h hb, q⟩
theorem r_kdg2R (h : Rd H a (.dK kvk)) (e : valV kvk (Sum.inl i : Key) = some v) (q : Q v H) : kDG2 (.ref a) Q (.int i) H := ⟨a, v, rfl, by rw [← e]; exact .inl ⟨kvk, .inl i, h, rfl, rfl⟩, q⟩
theorem r_kdp3T (h : H a = some (.dT kvs)) (hb : H b = some (.tup [.int i, .int j])) (hl : kvs.length ≤ 100000) (q : D.nx σ (upd H a (.dT (putK kvs [Sum.inl i, Sum.inl j] v)))) : kDP3 D σ v (.ref a) (.ref b) H := ⟨a, _, rfl, .inr ⟨kvs, [.inl i, .inl j], b, h, rfl, hb, by rw [sz]; omega, rfl⟩, q⟩
theorem r_dnewT (h : ∀ p, H p = none → Q (.ref p) (upd H p (.dT []))) : tDNewT σ H Q := h
theorem r_kIkT (h : H a = some (.frz o (.dT kvs))) (q : R (Itkt a o kvs) H) : kIk R (.ref a) H := ⟨a, o, rfl, .inr ⟨kvs, h, q⟩⟩
theorem r_forKeysT {g : TG} {tb : TS} (Pv : Nat → L2.St → Hp → Prop) (h0 : Pv 0 σ H) (hG : ∀ i σ H, i ≤ kvs.length → Pv i σ H → H a = some (.frz o (.dT kvs)))
    (hs : ∀ (j : Nat) (k : List Key) (v : V) (q : Addr) (σ : L2.St) (H : Hp), kvs[j]? = some (k, v) → H q = some (.tup (k.map kV)) → Pv j σ H → g (.ref q) σ H fun σ2 H2 => tb { D with nx := Pv (j + 1), ct := Pv (j + 1), bk := D.nx } σ2 H2) (hd : ∀ σ H, Pv kvs.length σ H → D.nx σ H) : kFor g tb D σ (Itkt a o kvs) H :=
  for_it walk_keysT Pv h0 hG (fun j x σ H H' hj p ⟨e, k, v, q, hk, hx, hq⟩ => by subst e; rw [hx]; exact hs j k v q σ _ hk hq p) hd
end
theorem lock_same {H H2 H' : Hp} {a : Addr} {u : HO} {o : HO} (h : H a = some u) (e : upd H a o = H2) (s : Same H2 H') : Same H (upd H' a u) := fun b x hx => by
  by_cases c : b = a
  · rw [c] at hx ⊢
    rw [upd_same, ← h, hx]
  · rw [upd_ne c]
    refine s _ _ ?_
    rw [← e, upd_ne c]
    exact hx
def rSortD : List V → Hp → (V → Hp → Prop) → Prop := fun xs H Q => ∃ (a : Addr) (kvs : List (Key × V)) (ks : List Int), xs = [.ref a] ∧ Rd H a (.dK kvs) ∧ kvs.map (·.1) = ks.map Sum.inl ∧ ks.length < 64 ∧
    ∀ (ys : List Int) (p : Addr), ys.Perm ks → ys.Pairwise (· ≤ ·) → H p = none → Q (.ref p) (upd H p (.lst (ys.map V.int)))
theorem c_sortD {X : Cx} (hc : X.calm = true) : CallR X (.builtin "sorted") rSortD := call_sortedDI hc

local macro_rules | `(tactic| walk_at "rdd") => `(tactic| first | assumption | (refine' Or.inl ?h; (case h => walk_at "hp")))
local macro_rules | `(tactic| walk_at "ca1") => `(tactic| with_reducible (first | refine' Sg.r_dget2 ?_ | refine' Sg.r_kdu2 ?_ | (refine' Sg.r_kduT ?h ?_; (case h => (with_unfolding_all walk_at "rdd"))) | (refine' Sg.r_kduK ?h ?_; (case h => (with_unfolding_all walk_at "rdd"))) | (refine' Sg.r_kdu3T ?h ?hb ?_; (case h => (with_unfolding_all walk_at "rdd")); (case hb => (with_unfolding_all walk_at "hp"))) | (refine' Sg.r_kdu3K ?h ?_; (case h => (with_unfolding_all walk_at "rdd"))) | (refine' Sg.r_kdi2T ?h ?hb ?_; (case h => (with_unfolding_all walk_at "rdd")); (case hb => (with_unfolding_all walk_at "hp"))) | (refine' Sg.r_kdn2T ?h ?hb ?_; (case h => (with_unfolding_all walk_at "rdd")); (case hb => (with_unfolding_all walk_at "hp"))) | (refine' Sg.r_kdp3T ?h ?hb ?hl ?_; (case h => (with_unfolding_all walk_at "hp")); (case hb => (with_unfolding_all walk_at "hp")); (case hl => (with_unfolding_all walk_at "side")); (with_unfolding_all walk_at "up")) | (refine' Sg.r_dnewT ?_; (with_unfolding_all walk_at "al")) | (refine' Sg.r_kIkT ?h ?_; (case h => assumption))))

/-! ### the law's model -/
structure CT (kvs : List (List Key × V)) (C : Nat → Nat → Int) : Prop where
  get : ∀ l i : Nat, valV kvs [Sum.inl (l : Int), Sum.inl (i : Int)] = if C l i = 0 then none else some (.int (C l i))
  all : ∀ k v, (k, v) ∈ kvs → ∃ l i : Nat, k = [Sum.inl (l : Int), Sum.inl (i : Int)] ∧ C l i ≠ 0 ∧ v = .int (C l i)
theorem CT.nil : CT [] (fun _ _ => 0) := ⟨fun _ _ => rfl, fun _ _ h => nomatch h⟩
theorem putK_memT {κ : Type} [DecidableEq κ] {kvs : List (κ × V)} {k : κ} {v : V} {p : κ × V} (h : p ∈ putK kvs k v) : p ∈ kvs ∧ p.1 ≠ k ∨ p = (k, v) := by
  unfold putK at h
  split at h
  · obtain ⟨x, hx, rfl⟩ := List.mem_map.mp h
    by_cases e : x.1 = k
    · rw [if_pos e, e]; exact .inr rfl
    · rw [if_neg e]; exact .inl ⟨hx, e⟩
  · rename_i hn
    rcases List.mem_append.mp h with h | h
    · refine .inl ⟨h, fun e => hn ?_⟩
      rw [List.any_eq_true]
      exact ⟨p, h, by simp [e]⟩
    · exact .inr (List.mem_singleton.mp h)
theorem CT.put {kvs : List (List Key × V)} {C : Nat → Nat → Int} (h : CT kvs C) {l i : Nat} {x : Int} (hx : x ≠ 0) : CT (putK kvs [Sum.inl (l : Int), Sum.inl (i : Int)] (.int x)) (upC C l i x) := by
  refine ⟨fun l' i' => ?_, fun k v hk => ?_⟩
  · rw [valV_put]
    by_cases e : l' = l ∧ i' = i
    · rw [e.1, e.2, if_pos rfl, upC_same, if_neg hx]
    · rw [if_neg (fun z => e (by simp at z; omega)), upC_ne e]
      exact h.get l' i'
  · rcases putK_memT hk with ⟨h1, h2⟩ | h1
    · obtain ⟨l', i', rfl, h3, h4⟩ := h.all k v h1
      have ne : ¬ (l' = l ∧ i' = i) := fun z => h2 (by rw [z.1, z.2])
      exact ⟨l', i', rfl, by rw [upC_ne ne]; exact h3, by rw [upC_ne ne]; exact h4⟩
    · cases h1
      exact ⟨l, i, rfl, by rw [upC_same]; exact hx, by rw [upC_same]⟩
theorem putK_len {κ : Type} [DecidableEq κ] {kvs : List (κ × V)} {k : κ} {v : V} : (putK kvs k v).length ≤ kvs.length + 1 := by
  unfold putK
  split
  · rw [List.length_map]; omega
  · rw [List.length_append]; exact Nat.le_refl _
def sp_law_take  : Sp := fun args_ H Q _ => ∃ (cc cu kt : Addr) (kvs : List (List Key × V)) (kvu : List (Key × V)) (C : Nat → Nat → Int) (ks : List Int) (l i : Nat), args_ = [.ref cc, .ref cu, .ref kt] ∧ H cc = some (.dT kvs) ∧ H cu = some (.dK kvu) ∧ H kt = some (.tup [.int (l : Nat), .int (i : Nat)]) ∧ CT kvs C ∧ Dk kvu ks ∧ kvs.length ≤ 1000 ∧ ks.length ≤ 1000 ∧ ∀ H' kvs' kvu', Ex [cc, cu] H H' → H' cc = some (.dT kvs') → H' cu = some (.dK kvu') → CT kvs' (upC C l i (lstF ks)) → Dk kvu' (ks ++ [lstF ks]) → kvs'.length ≤ kvs.length + 1 → Q .non H'
theorem i_law_take  {args_ : List V} {H : Hp} {Q : V → Hp → Prop} {E : XK} {cc cu kt : Addr} {kvs : List (List Key × V)} {kvu : List (Key × V)} {C : Nat → Nat → Int} {ks : List Int} {l i : Nat} (ev : args_ = [.ref cc, .ref cu, .ref kt]) (hc : H cc = some (.dT kvs)) (hu : H cu = some (.dK kvu)) (hk : H kt = some (.tup [.int (l : Nat), .int (i : Nat)])) (hC : CT kvs C) (hU : Dk kvu ks) (l1 : kvs.length ≤ 1000) (l2 : ks.length ≤ 1000) (q : ∀ H' kvs' kvu', Ex [cc, cu] H H' → H' cc = some (.dT kvs') → H' cu = some (.dK kvu') → CT kvs' (upC C l i (lstF ks)) → Dk kvu' (ks ++ [lstF ks]) → kvs'.length ≤ kvs.length + 1 → Q .non H') : sp_law_take  args_ H Q E := ⟨cc, cu, kt, kvs, kvu, C, ks, l, i, ev, hc, hu, hk, hC, hU, l1, l2, q⟩
local macro_rules | `(tactic| walk_at "ca1") => `(tactic| with_reducible (refine' Sg.i_law_take ?ev ?hc ?hu ?hk ?hC ?hU ?l1 ?l2 ?_; (case ev => (with_unfolding_all rfl)); (case hc => (with_unfolding_all walk_at "pr")); (case hu => (with_unfolding_all walk_at "pr")); (case hk => (with_unfolding_all walk_at "pr")); (case hC => (with_unfolding_all walk_at "pr")); (case hU => (with_unfolding_all walk_at "pr")); (case l1 => (with_unfolding_all walk_at "pr")); (case l2 => (with_unfolding_all walk_at "pr")); intros))

theorem ok_law_take (T : Txt K mg) : FnOk P w K mg base CX0 1 T.a_law_take T.fd_law_take ["cells", "used", "key"] sp_law_take := by
  refine T.F_law_take.ok sc_law_take (fun vs H Q E h => ?_) (fun cdv A outer s H vs Q E hr h => ?_)
  · obtain ⟨cc, cu, kt, kvs, kvu, C, ks, l, i, rfl, _⟩ := h
    rfl
  · refine ⟨_, (pss_cons (ps_set (i := 3) sc_law_take.nd rfl (Or.inl rfl) pe_int)
       (pss_cons (ps_for PassesOwn.never rfl (pi_range1 rfl T.n_range (pa_cons (pe_op op_add (pe_callB (c_lenD) (by rfl) T.n_len (by decide +kernel) (pa_cons (pv 1) pa_nil)) pe_int) pa_nil)) (pg_name (i := 4) sc_law_take.nd rfl (Or.inl rfl))
       (pss_one (ps_if (pt_cmp (pc_din (hu_of hr) (pv 3) (pv 1)) rfl)
       (pss_one (ps_set (i := 3) sc_law_take.nd rfl (Or.inl rfl) (pe_op op_add (pv 3) pe_int)))
       pss_nil)))
       (pss_cons (ps_dput (hu_of hr) (pv 1) (pv 3) pe_bl rfl)
       (pss_one (ps_dput (hu_of hr) (pv 0) (pv 2) (pv 3) rfl))))), ?_⟩
    try dsimp only [cxOf, Cx.nox, Cx.wish]
    obtain ⟨cc, cu, kt, kvs, kvu, C, ks, l, i, rfl, hc, hu, hk, hC, hU, l1, l2, q⟩ := h
    have hul := hU.len
    have hlen : (kvu.length : Int) = ks.length := by omega
    walk_at "go"
    rw [hlen]
    refine r_forR (fun j σ' H' => ∃ (x : Int) (v4 : Option V), σ' = [some (.ref cc), some (.ref cu), some (.ref kt), some (.int x), v4] ∧ H = H' ∧ Below ks x ∧ (x = j + 1 ∨ x ∉ ks)) ⟨1, _, rfl, rfl, ⟨by decide, fun i h1 h2 => by omega⟩, .inl rfl⟩ ?_ ?_
    · rintro j σ' H' hj ⟨x, v4, rfl, rfl, hB, hx⟩
      walk_at "go"
      rw [hU.has]
      refine r_ite (fun hi => ?_) (fun hi => ?_)
      · walk_at "go"
        refine ⟨_, _, rfl, rfl, hB.step hi, .inl ?_⟩
        rcases hx with hx | hx
        · omega
        · exact absurd hi hx
      · walk_at "go"
        exact ⟨_, _, rfl, rfl, hB, .inr hi⟩
    · rintro σ' H' ⟨x, v4, rfl, rfl, hB, hx⟩
      have hr := hB.room
      have hx' : x = lstF ks := IsLeast.uniq ⟨hB.1, hx.resolve_left (by omega), hB.2⟩ (lstF_is ks)
      subst hx'
      have ncu : cc ≠ cu := ne_of hc hu (by intro z; cases z)
      have nkc : kt ≠ cc := ne_of hk hc (by intro z; cases z)
      have nku : kt ≠ cu := ne_of hk hu (by intro z; cases z)
      walk_at "go"
      rename_i H1 e1 g1 H2 e2 g2
      have ex : Ex [cc, cu] H H2 := (Ex.put (by simp) e1).trans (Ex.put (by simp) e2)
      have hx0 := lstF_pos ks
      refine q _ _ _ ex g2 (by rw [← e2, upd_ne ncu.symm]; exact g1) (hC.put (by omega)) ?_ putK_len
      have := hU.put (lstF ks) (.bl true)
      rw [if_neg (lstF_nin ks)] at this
      exact this
def sp_law_power  : Sp := fun args_ H Q _ => ∃ (c l : Nat), args_ = [.int (c : Nat), .int (l : Nat)] ∧ c ≤ 1000 ∧ l ≤ 1000 ∧ Q (.int ((c ^ l : Nat) : Int)) H
theorem i_law_power  {args_ : List V} {H : Hp} {Q : V → Hp → Prop} {E : XK} {c l : Nat} (ev : args_ = [.int (c : Nat), .int (l : Nat)]) (c1 : c ≤ 1000) (l1 : l ≤ 1000) (q : Q (.int ((c ^ l : Nat) : Int)) H) : sp_law_power  args_ H Q E := ⟨c, l, ev, c1, l1, q⟩
local macro_rules | `(tactic| walk_at "ca1") => `(tactic| with_reducible (refine' Sg.i_law_power ?ev ?c1 ?l1 ?_; (case ev => (with_unfolding_all rfl)); (case c1 => (with_unfolding_all walk_at "pr")); (case l1 => (with_unfolding_all walk_at "pr"))))

theorem ok_law_power (T : Txt K mg) : FnOk P w K mg base CX0 1 T.a_law_power T.fd_law_power ["fan", "level"] sp_law_power := by
  refine T.F_law_power.ok sc_law_power (fun vs H Q E h => ?_) (fun cdv A outer s H vs Q E hr h => ?_)
  · obtain ⟨c, l, rfl, _⟩ := h
    rfl
  · refine ⟨_, (pss_cons (ps_set (i := 2) sc_law_power.nd rfl (Or.inl rfl) pe_int)
       (pss_cons (ps_for PassesOwn.never rfl (pi_range1 rfl T.n_range (pa_cons (pv 1) pa_nil)) (pg_name (i := 3) sc_law_power.nd rfl (Or.inl rfl))
       (pss_one (ps_set (i := 2) sc_law_power.nd rfl (Or.inl rfl) (pe_op op_mul (pv 2) (pv 0)))))
       (pss_one (ps_ret (pv 2))))), ?_⟩
    try dsimp only [cxOf, Cx.nox, Cx.wish]
    obtain ⟨c, l, rfl, c1, l1, q⟩ := h
    walk_at "go"
    refine r_forR (fun i σ' H' => ∃ v3 : Option V, σ' = [some (.int (c : Nat)), some (.int (l : Nat)), some (.int ((c ^ i : Nat) : Int)), v3] ∧ H = H') ⟨_, rfl, rfl⟩ ?_ ?_
    · rintro i σ' H' hi ⟨v3, rfl, rfl⟩
      walk_at "go"
      refine ⟨some (.int (0 + (i : Int))), ?_, rfl⟩
      rw [Nat.pow_succ]
      simp
    · rintro σ' H' ⟨v3, rfl, rfl⟩
      walk_at "go"
      exact q
def sp_law_height  : Sp := fun args_ H Q _ => ∃ (c n : Nat), args_ = [.int (c : Nat), .int (n : Nat)] ∧ 2 ≤ c ∧ c ≤ 1000 ∧ n < 1048576 ∧ ∀ g : Nat, IsH (c : Int) (n : Int) g → Q (.int (g : Nat)) H
theorem i_law_height  {args_ : List V} {H : Hp} {Q : V → Hp → Prop} {E : XK} {c n : Nat} (ev : args_ = [.int (c : Nat), .int (n : Nat)]) (c0 : 2 ≤ c) (c1 : c ≤ 1000) (hn : n < 1048576) (q : ∀ g : Nat, IsH (c : Int) (n : Int) g → Q (.int (g : Nat)) H) : sp_law_height  args_ H Q E := ⟨c, n, ev, c0, c1, hn, q⟩
local macro_rules | `(tactic| walk_at "ca1") => `(tactic| with_reducible (refine' Sg.i_law_height ?ev ?c0 ?c1 ?hn ?_; (case ev => (with_unfolding_all rfl)); (case c0 => (with_unfolding_all walk_at "pr")); (case c1 => (with_unfolding_all walk_at "pr")); (case hn => (with_unfolding_all walk_at "pr")); intros))

theorem ok_law_height (T : Txt K mg) : FnOk P w K mg base CX0 2 T.a_law_height T.fd_law_height ["fan", "number"] sp_law_height := by
  refine T.F_law_height.ok sc_law_height (fun vs H Q E h => ?_) (fun cdv A outer s H vs Q E hr h => ?_)
  · obtain ⟨c, n, rfl, _⟩ := h
    rfl
  · refine ⟨_, (pss_cons (ps_set (i := 2) sc_law_height.nd rfl (Or.inl rfl) pe_int)
       (pss_cons (ps_for PassesOwn.never rfl (pi_range1 rfl T.n_range (pa_cons pe_int pa_nil)) (pg_name (i := 3) sc_law_height.nd rfl (Or.inl rfl))
       (pss_one (ps_if (pt_cmpR op_le (pe_call (ok_law_power T) (hr.mono (by decide)) rfl T.m_law_power T.F_law_power.kp T.b_law_power .nil pass0 (pa_cons (pv 0) (pa_cons (pv 2) pa_nil))) (pv 1) (nomark _))
       (pss_one (ps_set (i := 2) sc_law_height.nd rfl (Or.inl rfl) (pe_op op_add (pv 2) pe_int)))
       pss_nil)))
       (pss_one (ps_ret (pv 2))))), ?_⟩
    try dsimp only [cxOf, Cx.nox, Cx.wish]
    obtain ⟨c, n, rfl, c0, c1, hn, q⟩ := h
    walk_at "go"
    refine r_forR (fun i σ' H' => ∃ (x : Nat) (v3 : Option V), σ' = [some (.int (c : Nat)), some (.int (n : Nat)), some (.int (x : Nat)), v3] ∧ H = H' ∧ (∀ j, j < x → c ^ j ≤ n) ∧ x ≤ i ∧ (x = i ∨ n < c ^ x)) ⟨0, _, rfl, rfl, fun j hj => by omega, Nat.le_refl _, .inl rfl⟩ ?_ ?_
    · rintro i σ' H' hi ⟨x, v3, rfl, rfl, hj, hx, ho⟩
      have hi' : i < 21 := hi
      walk_at "go"
      refine r_ite (fun h => ?_) (fun h => ?_)
      · walk_at "go"
        refine ⟨x + 1, _, rfl, rfl, fun j hj' => ?_, by omega, .inl (by omega)⟩
        rcases Nat.lt_or_ge j x with z | z
        · exact hj j z
        · rw [show j = x by omega]; omega
      · walk_at "go"
        exact ⟨x, _, rfl, rfl, hj, by omega, .inr (by omega)⟩
    · rintro σ' H' ⟨x, v3, rfl, rfl, hj, hx, ho⟩
      have hx' : x ≤ 21 := hx
      walk_at "go"
      refine q x ⟨?_, fun j hj' => ?_⟩
      · have h2 : n < c ^ x := by
          rcases ho with e | e
          · have e : x = 21 := e
            have := hj 20 (by omega)
            have h3 : 2 ^ 20 ≤ c ^ 20 := Nat.pow_le_pow_left c0 20
            omega
          · exact e
        have e : ((c : Int)) ^ x = ((c ^ x : Nat) : Int) := by simp
        omega
      · have e : ((c : Int)) ^ j = ((c ^ j : Nat) : Int) := by simp
        have := hj j hj'
        omega
def sp_law_layout (C : Addr) : Sp := fun args_ H Q _ => ∃ (r : Int), args_ = [.int r] ∧ ∀ (L : Lay) (H' : Hp) (p : Addr), LayC L → Same H H' → H p = none → LayAt C L H' p → Q (.ref p) H'
theorem i_law_layout {C : Addr} {args_ : List V} {H : Hp} {Q : V → Hp → Prop} {E : XK} {r : Int} (ev : args_ = [.int r]) (q : ∀ (L : Lay) (H' : Hp) (p : Addr), LayC L → Same H H' → H p = none → LayAt C L H' p → Q (.ref p) H') : sp_law_layout C args_ H Q E := ⟨r, ev, q⟩
local macro_rules | `(tactic| walk_at "ca1") => `(tactic| with_reducible (refine' Sg.i_law_layout ?ev ?_; (case ev => (with_unfolding_all rfl)); intros))

theorem ok_law_layout (T : Txt K mg) : FnOk P w K mg base CX0 4 T.a_law_layout T.fd_law_layout ["number"] (sp_law_layout T.A_Layout) := by
  refine T.F_law_layout.ok sc_law_layout (fun vs H Q E h => ?_) (fun cdv A outer s H vs Q E hr h => ?_)
  · obtain ⟨r, rfl, _⟩ := h
    rfl
  · refine ⟨_, (pss_cons (ps_set (i := 1) sc_law_layout.nd rfl (Or.inl rfl) (pe_lst (pa_cons (pe_tup (pa_cons pe_int (pa_cons pe_int (pa_cons pe_int pa_nil)))) (pa_cons (pe_tup (pa_cons pe_int (pa_cons pe_int (pa_cons pe_int pa_nil)))) (pa_cons (pe_tup (pa_cons pe_int (pa_cons pe_int (pa_cons pe_int pa_nil)))) (pa_cons (pe_tup (pa_cons pe_int (pa_cons pe_int (pa_cons pe_int pa_nil)))) (pa_cons (pe_tup (pa_cons pe_int (pa_cons pe_int (pa_cons pe_int pa_nil)))) (pa_cons (pe_tup (pa_cons pe_int (pa_cons pe_int (pa_cons pe_int pa_nil)))) pa_nil))))))))
       (pss_cons (ps_set (i := 2) sc_law_layout.nd rfl (Or.inl rfl) (pe_ix ix_list (pv 1) (pe_op op_mod (pe_callTy c_int (by rfl) T.n_int (by decide +kernel) (pa_cons (pv 0) pa_nil)) pe_int) (fun _ _ => rfl)))
       (pss_one (ps_ret (pe_make T.M_Layout (ok_Layout___init T) (hr.mono (by decide)) rfl T.m_Layout T.b_Layout___init .nil pass0 (pa_cons (pe_ix ix_tup (pv 2) pe_int (fun _ _ => rfl)) (pa_cons (pe_ix ix_tup (pv 2) pe_int (fun _ _ => rfl)) (pa_cons (pe_ix ix_tup (pv 2) pe_int (fun _ _ => rfl)) pa_nil)))))))), ?_⟩
    try dsimp only [cxOf, Cx.nox, Cx.wish]
    obtain ⟨r, rfl, q⟩ := h
    have cl_Layout := T.cl_Layout
    walk_at "rd"
    rename_i t1 n1 H1 s1 h1 t2 n2 H2 s2 h2 t3 n3 H3 s3 h3 t4 n4 H4 s4 h4 t5 n5 H5 s5 h5 t6 n6 H6 s6 h6 ml nl Hm sm hm y hy y0 y1
    obtain ⟨s, b, z, t, et, ht, hF⟩ : ∃ (s b z : Int) (t : Addr), atI [V.ref t1, .ref t2, .ref t3, .ref t4, .ref t5, .ref t6] y = some (.ref t) ∧ Hm t = some (.tup [.int s, .int b, .int z]) ∧ Fits s b z := by
      rcases (by omega : y = 0 ∨ y = 1 ∨ y = 2 ∨ y = 3 ∨ y = 4 ∨ y = 5) with rfl | rfl | rfl | rfl | rfl | rfl
      · exact ⟨4, 16, 64, t1, rfl, by walk_at "hp", ⟨by decide, by decide, by decide, by decide, by decide, by decide⟩⟩
      · exact ⟨10, 16, 64, t2, rfl, by walk_at "hp", ⟨by decide, by decide, by decide, by decide, by decide, by decide⟩⟩
      · exact ⟨5, 19, 64, t3, rfl, by walk_at "hp", ⟨by decide, by decide, by decide, by decide, by decide, by decide⟩⟩
      · exact ⟨4, 16, 128, t4, rfl, by walk_at "hp", ⟨by decide, by decide, by decide, by decide, by decide, by decide⟩⟩
      · exact ⟨8, 24, 128, t5, rfl, by walk_at "hp", ⟨by decide, by decide, by decide, by decide, by decide, by decide⟩⟩
      · exact ⟨16, 32, 256, t6, rfl, by walk_at "hp", ⟨by decide, by decide, by decide, by decide, by decide, by decide⟩⟩
    refine r_ixl (by walk_at "hp") et ?_
    have sM : Same H Hm := by walk_at "sm"
    clear s1 s2 s3 s4 s5 s6 sm h1 h2 h3 h4 h5 h6 hm n1 n2 n3 n4 n5 n6 nl
    walk_at "rd"
    intro x dx nx nd ne
    refine ⟨x, dx, _, _, _, rfl, upd_same, hF, fun H3 fs k h3 hL => ⟨rfl, ?_⟩⟩
    have s3 := made_same nx nd k
    exact q _ _ _ hF.all (sM.trans s3) (sM.free nx) ⟨_, _, h3, hL⟩

structure DatP (H : Hp) (kvd : List (Key × V)) (ct : Addr) (C : Nat → Nat → Int) (Dt : Nat → List Int) : Prop where
  keys : ∃ ns, Dk kvd ns ∧ (∀ m : Nat, (m : Int) ∈ ns ↔ C 0 m ≠ 0) ∧ ∀ x ∈ ns, 0 ≤ x
  at_ : ∀ m : Nat, C 0 m ≠ 0 → ∃ a, valV kvd (Sum.inl (m : Int) : Key) = some (.ref a) ∧ H a = some (.lst ((Dt m).map V.int)) ∧ a ≠ ct
theorem DatP.ex {H H' : Hp} {kvd : List (Key × V)} {ct : Addr} {C : Nat → Nat → Int} {Dt : Nat → List Int} {X : List Addr} (h : DatP H kvd ct C Dt) (e : Ex X H H') (n : ∀ a xs, H a = some (.lst xs) → a ≠ ct → a ∉ X) : DatP H' kvd ct C Dt := ⟨h.keys, fun m hm => by
  obtain ⟨a, h1, h2, h3⟩ := h.at_ m hm
  exact ⟨a, h1, e _ _ (n a _ h2 h3) h2, h3⟩⟩
theorem DatP.congr {H : Hp} {kvd : List (Key × V)} {ct : Addr} {C C' : Nat → Nat → Int} {Dt : Nat → List Int} (h : DatP H kvd ct C Dt) (e : ∀ m, C' 0 m = C 0 m) : DatP H kvd ct C' Dt := by
  obtain ⟨⟨ns, h1, h2, h3⟩, h4⟩ := h
  exact ⟨⟨ns, h1, fun m => by rw [e]; exact h2 m, h3⟩, fun m hm => h4 m (by rw [← e]; exact hm)⟩
theorem raiseC_0 {m : Nat} : ∀ (k h : Nat) (x : (Nat → Nat → Int) × List Int), (raiseC k h x).1 0 m = x.1 0 m
  | 0, _, _ => rfl
  | k + 1, h, x => by rw [raiseC, raiseC_0 k (h + 1)]; dsimp only; exact upC_ne (show ¬ (0 = h + 1 ∧ m = 0) by omega)
theorem pathC_hi {c n m : Nat} : ∀ (k l : Nat) (x : (Nat → Nat → Int) × List Int), 1 ≤ l → (pathC c n k l x).1 0 m = x.1 0 m
  | 0, _, _, _ => rfl
  | k + 1, l, x, h => by
    rw [pathC]
    split
    · rw [pathC_hi k (l + 1) _ (by omega)]; dsimp only; exact upC_ne (show ¬ (0 = l ∧ m = n / c ^ l) by omega)
    · exact pathC_hi k (l + 1) x (by omega)
theorem pathC_lo {c n m k : Nat} {x : (Nat → Nat → Int) × List Int} (h : m ≠ n) : (pathC c n k 0 x).1 0 m = x.1 0 m := by
  cases k with
  | zero => rfl
  | succ k =>
    rw [pathC]
    split
    · rw [pathC_hi k 1 _ (Nat.le_refl 1)]
      dsimp only
      exact upC_ne (show ¬ (0 = 0 ∧ m = n / c ^ 0) by rw [Nat.pow_zero, Nat.div_one]; omega)
    · exact pathC_hi k 1 x (Nat.le_refl 1)
theorem pathC_at {c n k : Nat} {x : (Nat → Nat → Int) × List Int} : (pathC c n (k + 1) 0 x).1 0 n ≠ 0 := by
  rw [pathC, Nat.pow_zero, Nat.div_one]
  split
  · rw [pathC_hi k 1 _ (Nat.le_refl 1)]
    show upC x.1 0 n _ 0 n ≠ 0
    rw [upC_same]
    have := lstF_pos x.2
    omega
  · rename_i h
    rw [pathC_hi k 1 _ (Nat.le_refl 1)]
    exact h
theorem DatP.put {H' : Hp} {kvd : List (Key × V)} {ct a : Addr} {C C' : Nat → Nat → Int} {Dt : Nat → List Int} {n : Nat} {oc : List Int} (h : DatP H' kvd ct C Dt) (ha : H' a = some (.lst (oc.map V.int))) (na : a ≠ ct) (e : ∀ m, m ≠ n → C' 0 m = C 0 m) (en : C' 0 n ≠ 0) : DatP H' (putK kvd (Sum.inl (n : Int)) (.ref a)) ct C' (upD Dt n oc) := by
  obtain ⟨⟨ns, h1, h2, h3⟩, h4⟩ := h
  refine ⟨⟨_, h1.put (n : Int) (.ref a), fun m => ?_, fun x hx => ?_⟩, fun m hm => ?_⟩
  · show (m : Int) ∈ addK ns (n : Int) ↔ _
    rw [mem_addK]
    by_cases z : m = n
    · subst z; simp [en]
    · rw [e m z, ← h2 m]
      constructor
      · rintro (w | w)
        · exact w
        · omega
      · exact .inl
  · have hx : x ∈ addK ns (n : Int) := hx
    rw [mem_addK] at hx
    rcases hx with w | w
    · exact h3 x w
    · omega
  · rw [valV_put]
    by_cases z : m = n
    · subst z
      rw [if_pos rfl]
      refine ⟨a, rfl, ?_, na⟩
      unfold upD
      rw [if_pos rfl]
      exact ha
    · rw [if_neg (show ¬ ((Sum.inl (m : Int) : Key) = Sum.inl (n : Int)) from fun w => z (by have := Sum.inl.inj w; omega))]
      unfold upD
      rw [if_neg z]
      exact h4 m (by rw [← e m z]; exact hm)
theorem Ex.l4 {a b c d : Addr} {H H' : Hp} (e : Ex [a, b] H H') : Ex [a, b, c, d] H H' := e.mono (fun x h => by simp only [List.mem_cons, List.not_mem_nil, or_false] at h ⊢; rcases h with h | h <;> simp [h])
def sp_law_set  : Sp := fun args_ H Q _ => ∃ (cc cu cd ct oa : Addr) (kvs : List (List Key × V)) (kvu kvd : List (Key × V)) (C : Nat → Nat → Int) (ks oc : List Int) (Dt : Nat → List Int) (c h n : Nat), args_ = [.ref cc, .ref cu, .ref cd, .ref ct, .int (n : Nat), .ref oa] ∧ H cc = some (.dT kvs) ∧ H cu = some (.dK kvu) ∧ H cd = some (.dK kvd) ∧ H ct = some (.lst [.int (c : Nat), .int (h : Nat)]) ∧ H oa = some (.lst (oc.map V.int)) ∧ CT kvs C ∧ Dk kvu ks ∧ DatP H kvd ct C Dt ∧ cu ≠ cd ∧ oa ≠ ct ∧ kvs.length ≤ 600 ∧ ks.length ≤ 600 ∧ kvd.length ≤ 600 ∧ h ≤ 50 ∧ c ^ h < 1073741824 ∧ 2 ≤ c ∧ c ≤ 1000 ∧ n < 1048576 ∧ ∀ g : Nat, IsH (c : Int) (n : Int) g → ∀ H' kvs' kvu' kvd' x, x = pathC c n (h + (g - h) + 1) 0 (if kvd.length = 0 then (C, ks) else raiseC (g - h) h (C, ks)) → Ex [cc, cu, cd, ct] H H' → H' cc = some (.dT kvs') → H' cu = some (.dK kvu') → H' cd = some (.dK kvd') → H' ct = some (.lst [.int (c : Nat), .int ((h + (g - h) : Nat) : Int)]) → CT kvs' x.1 → Dk kvu' x.2 → DatP H' kvd' ct x.1 (upD Dt n oc) → kvs'.length ≤ kvs.length + 22 + (h + (g - h)) → kvd'.length ≤ kvd.length + 1 → Q .non H'
theorem i_law_set  {args_ : List V} {H : Hp} {Q : V → Hp → Prop} {E : XK} {cc cu cd ct oa : Addr} {kvs : List (List Key × V)} {kvu kvd : List (Key × V)} {C : Nat → Nat → Int} {ks oc : List Int} {Dt : Nat → List Int} {c h n : Nat} (ev : args_ = [.ref cc, .ref cu, .ref cd, .ref ct, .int (n : Nat), .ref oa]) (hc : H cc = some (.dT kvs)) (hu : H cu = some (.dK kvu)) (hd : H cd = some (.dK kvd)) (ht : H ct = some (.lst [.int (c : Nat), .int (h : Nat)])) (ho : H oa = some (.lst (oc.map V.int))) (hC : CT kvs C) (hU : Dk kvu ks) (hD : DatP H kvd ct C Dt) (nud : cu ≠ cd) (nto : oa ≠ ct) (l1 : kvs.length ≤ 600) (l2 : ks.length ≤ 600) (l3 : kvd.length ≤ 600) (h1 : h ≤ 50) (hm : c ^ h < 1073741824) (c0 : 2 ≤ c) (c1 : c ≤ 1000) (hn : n < 1048576) (q : ∀ g : Nat, IsH (c : Int) (n : Int) g → ∀ H' kvs' kvu' kvd' x, x = pathC c n (h + (g - h) + 1) 0 (if kvd.length = 0 then (C, ks) else raiseC (g - h) h (C, ks)) → Ex [cc, cu, cd, ct] H H' → H' cc = some (.dT kvs') → H' cu = some (.dK kvu') → H' cd = some (.dK kvd') → H' ct = some (.lst [.int (c : Nat), .int ((h + (g - h) : Nat) : Int)]) → CT kvs' x.1 → Dk kvu' x.2 → DatP H' kvd' ct x.1 (upD Dt n oc) → kvs'.length ≤ kvs.length + 22 + (h + (g - h)) → kvd'.length ≤ kvd.length + 1 → Q .non H') : sp_law_set  args_ H Q E := ⟨cc, cu, cd, ct, oa, kvs, kvu, kvd, C, ks, oc, Dt, c, h, n, ev, hc, hu, hd, ht, ho, hC, hU, hD, nud, nto, l1, l2, l3, h1, hm, c0, c1, hn, q⟩
local macro_rules | `(tactic| walk_at "ca1") => `(tactic| with_reducible (refine' Sg.i_law_set ?ev ?hc ?hu ?hd ?ht ?ho ?hC ?hU ?hD ?nud ?nto ?l1 ?l2 ?l3 ?h1 ?hm ?c0 ?c1 ?hn ?_; (case ev => (with_unfolding_all rfl)); (case hc => (with_unfolding_all walk_at "pr")); (case hu => (with_unfolding_all walk_at "pr")); (case hd => (with_unfolding_all walk_at "pr")); (case ht => (with_unfolding_all walk_at "pr")); (case ho => (with_unfolding_all walk_at "pr")); (case hC => (with_unfolding_all walk_at "pr")); (case hU => (with_unfolding_all walk_at "pr")); (case hD => (with_unfolding_all walk_at "pr")); (case nud => (with_unfolding_all walk_at "pr")); (case nto => (with_unfolding_all walk_at "pr")); (case l1 => (with_unfolding_all walk_at "pr")); (case l2 => (with_unfolding_all walk_at "pr")); (case l3 => (with_unfolding_all walk_at "pr")); (case h1 => (with_unfolding_all walk_at "pr")); (case hm => (with_unfolding_all walk_at "pr")); (case c0 => (with_unfolding_all walk_at "pr")); (case c1 => (with_unfolding_all walk_at "pr")); (case hn => (with_unfolding_all walk_at "pr")); intros))

theorem ok_law_set (T : Txt K mg) : FnOk P w K mg base CX0 3 T.a_law_set T.fd_law_set ["cells", "used", "data", "tree", "number", "octets"] sp_law_set := by
  refine T.F_law_set.ok sc_law_set (fun vs H Q E h => ?_) (fun cdv A outer s H vs Q E hr h => ?_)
  · obtain ⟨cc, cu, cd, ct, oa, kvs, kvu, kvd, C, ks, oc, Dt, c, h, n, rfl, _⟩ := h
    rfl
  · refine ⟨_, (pss_cons (ps_set (i := 6) sc_law_set.nd rfl (Or.inl rfl) (pe_callB (c_max2 rfl) (by rfl) T.n_max (by decide +kernel) (pa_cons (pe_ix ix_list (pv 3) pe_int (fun _ _ => rfl)) (pa_cons (pe_call (ok_law_height T) (hr.mono (by decide)) rfl T.m_law_height T.F_law_height.kp T.b_law_height .nil pass0 (pa_cons (pe_ix ix_list (pv 3) pe_int (fun _ _ => rfl)) (pa_cons (pv 4) pa_nil))) pa_nil))))
       (C8.pss_cut (ps_if (pt_cmpR op_gt (pe_callB (c_lenD) (by rfl) T.n_len (by decide +kernel) (pa_cons (pv 2) pa_nil)) pe_int (nomark _))
       (pss_one (ps_for PassesOwn.never rfl (pi_range2 rfl T.n_range (pa_cons (pe_op op_add (pe_ix ix_list (pv 3) pe_int (fun _ _ => rfl)) pe_int) (pa_cons (pe_op op_add (pv 6) pe_int) pa_nil))) (pg_name (i := 7) sc_law_set.nd rfl (Or.inl rfl))
       (pss_one (ps_expr (pe_call (ok_law_take T) (hr.mono (by decide)) rfl T.m_law_take T.F_law_take.kp T.b_law_take .nil pass0 (pa_cons (pv 0) (pa_cons (pv 1) (pa_cons (pe_tup (pa_cons (pv 7) (pa_cons pe_int pa_nil))) pa_nil))))))))
       pss_nil)
       (pss_cons (ps_asg (pv 6) (pg_sub (pv 3) pe_int set_list))
       (pss_cons (ps_for PassesOwn.never rfl (pi_range1 rfl T.n_range (pa_cons (pe_op op_add (pv 6) pe_int) pa_nil)) (pg_name (i := 7) sc_law_set.nd rfl (Or.inl rfl))
       (pss_cons (ps_set (i := 8) sc_law_set.nd rfl (Or.inl rfl) (pe_tup (pa_cons (pv 7) (pa_cons (pe_op op_fdiv (pv 4) (pe_call (ok_law_power T) (hr.mono (by decide)) rfl T.m_law_power T.F_law_power.kp T.b_law_power .nil pass0 (pa_cons (pe_ix ix_list (pv 3) pe_int (fun _ _ => rfl)) (pa_cons (pv 7) pa_nil)))) pa_nil))))
       (pss_one (ps_if (pt_cmp (pc_dnotin (hu_of hr) (pv 8) (pv 0)) rfl)
       (pss_one (ps_expr (pe_call (ok_law_take T) (hr.mono (by decide)) rfl T.m_law_take T.F_law_take.kp T.b_law_take .nil pass0 (pa_cons (pv 0) (pa_cons (pv 1) (pa_cons (pv 8) pa_nil))))))
       pss_nil))))
       (pss_one (ps_dput (hu_of hr) (pv 2) (pv 4) (pe_callTy c_list (by rfl) T.n_list (by decide +kernel) (pa_cons (pv 5) pa_nil)) rfl)))))), ?_⟩
    try dsimp only [cxOf, Cx.nox, Cx.wish]
    obtain ⟨cc, cu, cd, ct, oa, kvs, kvu, kvd, C, ks, oc, Dt, c, h, n, rfl, hc, hu, hd, ht, ho, hC, hU, hD, nud, nto, l1, l2, l3, h1, hm, c0, c1, hn, q⟩ := h
    walk_at "go"
    rename_i g hg m hm1 hm2 hm3
    obtain ⟨k1, k2, k3⟩ := hg.pw c0 hn c1
    have em : m = ((h + (g - h) : Nat) : Int) := by omega
    subst em
    have q := q g hg
    obtain ⟨h', hh'⟩ : ∃ h', h' = h + (g - h) := ⟨_, rfl⟩
    rw [← hh'] at q ⊢
    have hm' : c ^ h' < 1073741824 := by
      rcases Nat.le_total g h with z | z
      · rw [show h' = h by omega]; exact hm
      · rw [show h' = g by omega]; exact k2
    clear hm1 hm2 hm3
    have ncu : cc ≠ cu := ne_of hc hu (by intro z; cases z)
    have ncd : cc ≠ cd := ne_of hc hd (by intro z; cases z)
    have nct : cc ≠ ct := ne_of hc ht (by intro z; cases z)
    have nut : cu ≠ ct := ne_of hu ht (by intro z; cases z)
    have ndt : cd ≠ ct := ne_of hd ht (by intro z; cases z)
    have exl : ∀ {H1 H2 : Hp} {a : Addr} {xs : List V}, Ex [cc, cu] H1 H2 → H1 cc = some (.dT kvs) ∨ True → H1 a = some (.lst xs) → a ≠ cc → a ≠ cu → H2 a = some (.lst xs) := fun e _ ha n1 n2 => e _ _ (by simp only [List.mem_cons, List.not_mem_nil, or_false, not_or]; exact ⟨n1, n2⟩) ha
    refine r_cut (fun σ' Hx => ∃ (v7 : Option V) (kvs1 : List (List Key × V)) (kvu1 : List (Key × V)) (x : (Nat → Nat → Int) × List Int), σ' = [some (.ref cc), some (.ref cu), some (.ref cd), some (.ref ct), some (.int (n : Nat)), some (.ref oa), some (.int (h' : Nat)), v7, none] ∧ x = (if kvd.length = 0 then (C, ks) else raiseC (g - h) h (C, ks)) ∧ Ex [cc, cu] H Hx ∧ Hx cc = some (.dT kvs1) ∧ Hx cu = some (.dK kvu1) ∧ CT kvs1 x.1 ∧ Dk kvu1 x.2 ∧ kvs1.length ≤ kvs.length + 21 ∧ x.2.length ≤ ks.length + 21 ∧ ∀ m, x.1 0 m = C 0 m) ?_ ?_
    · walk_at "go"
      refine r_ite (fun hl => ?_) (fun hl => ?_)
      · walk_at "go"
        have hk : kvd.length ≠ 0 := by omega
        refine r_forR (fun i σ' Hx => ∃ (v7 : Option V) (kvs1 : List (List Key × V)) (kvu1 : List (Key × V)) (x : (Nat → Nat → Int) × List Int), σ' = [some (.ref cc), some (.ref cu), some (.ref cd), some (.ref ct), some (.int (n : Nat)), some (.ref oa), some (.int (h' : Nat)), v7, none] ∧ raiseC (g - h - i) (h + i) x = raiseC (g - h) h (C, ks) ∧ Ex [cc, cu] H Hx ∧ Hx cc = some (.dT kvs1) ∧ Hx cu = some (.dK kvu1) ∧ CT kvs1 x.1 ∧ Dk kvu1 x.2 ∧ kvs1.length ≤ kvs.length + i ∧ x.2.length ≤ ks.length + i ∧ ∀ m, x.1 0 m = C 0 m) ?_ ?_ ?_
        · exact ⟨_, kvs, kvu, (C, ks), rfl, rfl, Ex.refl _ _, hc, hu, hC, hU, by omega, by simp, fun m => rfl⟩
        · rintro i σ' Hx hi ⟨v7, kvs1, kvu1, x, rfl, hx, ex, gc, gu, hC1, hU1, a1, a2, a3⟩
          have hi' : i < g - h := by omega
          walk_at "go"
          rename_i kt nkt H1 s1 g1 H2 kvs2 kvu2 e2 gc2 gu2 hC2 hU2 a4
          rw [show h + 1 + i = h + i + 1 by omega] at hC2
          refine ⟨_, kvs2, kvu2, (upC x.1 (h + i + 1) 0 (lstF x.2), x.2 ++ [lstF x.2]), rfl, ?_, ex.trans ((Ex.of s1).trans e2), gc2, gu2, hC2, hU2, by omega, ?_, fun m => ?_⟩
          · rw [← hx, show g - h - i = (g - h - (i + 1)) + 1 by omega, raiseC]
            rfl
          · simp only [List.length_append, List.length_cons, List.length_nil]; omega
          · rw [← a3 m]; dsimp only; exact upC_ne (show ¬ (0 = h + i + 1 ∧ m = 0) by omega)
        · rintro σ' Hx ⟨v7, kvs1, kvu1, x, rfl, hx, ex, gc, gu, hC1, hU1, a1, a2, a3⟩
          have eN : ((h' : Int) + 1 - ((h : Int) + 1)).toNat = g - h := by omega
          rw [eN] at hx a1 a2
          rw [Nat.sub_self, raiseC] at hx
          exact ⟨v7, kvs1, kvu1, x, rfl, by rw [if_neg hk]; exact hx, ex, gc, gu, hC1, hU1, by omega, by omega, a3⟩
      · have hk : kvd.length = 0 := by omega
        exact ⟨none, kvs, kvu, (C, ks), rfl, by rw [if_pos hk], Ex.refl _ _, hc, hu, hC, hU, by omega, by simp, fun m => rfl⟩
    rintro _ Hx ⟨v7, kvs1, kvu1, x, rfl, hx, ex, gc, gu, hC1, hU1, a1, a2, a3⟩
    rw [← hx] at q
    have gtx := exl ex (.inr trivial) ht nct.symm nut.symm
    walk_at "go"
    refine r_setl gtx rfl ?_
    generalize hT : upd _ _ _ = H3
    have g3 : H3 ct = some (.lst [.int (c : Nat), .int (h' : Nat)]) := Sg.at_new hT
    have e3 : Ex [ct] Hx H3 := Ex.put (by simp) hT
    have up3 : ∀ {a : Addr} {o : HO}, Hx a = some o → a ≠ ct → H3 a = some o := fun ha na => e3 _ _ (by simpa using na) ha
    have gc3 := up3 gc nct
    have gu3 := up3 gu nut
    have gd3 : H3 cd = some (.dK kvd) := up3 (ex _ _ (by simp only [List.mem_cons, List.not_mem_nil, or_false, not_or]; exact ⟨ncd.symm, nud.symm⟩) hd) ndt
    have ex3 : Ex [cc, cu, cd, ct] H H3 := ex.l4.trans (e3.mono (by simp))
    clear hT gc gu gtx e3 up3
    walk_at "go"
    refine r_forR (fun i σ' Hy => ∃ (v7 v8 : Option V) (kvs2 : List (List Key × V)) (kvu2 : List (Key × V)) (y : (Nat → Nat → Int) × List Int), σ' = [some (.ref cc), some (.ref cu), some (.ref cd), some (.ref ct), some (.int (n : Nat)), some (.ref oa), some (.int (h' : Nat)), v7, v8] ∧ pathC c n (h' + 1 - i) i y = pathC c n (h' + 1) 0 x ∧ Ex [cc, cu] H3 Hy ∧ Hy cc = some (.dT kvs2) ∧ Hy cu = some (.dK kvu2) ∧ CT kvs2 y.1 ∧ Dk kvu2 y.2 ∧ kvs2.length ≤ kvs.length + 21 + i ∧ y.2.length ≤ ks.length + 21 + i) ?_ ?_ ?_
    · exact ⟨_, _, kvs1, kvu1, x, rfl, rfl, Ex.refl _ _, gc3, gu3, hC1, hU1, by omega, by omega⟩
    · rintro i σ' Hy hi ⟨v7, v8, kvs2, kvu2, y, rfl, hy, ey, gc, gu, hC2, hU2, b1, b2⟩
      have hi' : i < h' + 1 := by omega
      have gty := exl ey (.inr trivial) g3 nct.symm nut.symm
      have pw1 : c ^ i ≤ c ^ h' := Nat.pow_le_pow_right (by omega) (by omega)
      have pp := pw_pos c0 i
      rw [show h' + 1 - i = (h' + 1 - (i + 1)) + 1 by omega, pathC] at hy
      walk_at "go"
      rw [Int.zero_add]
      walk_at "go"
      rename_i kt nkt H4 s4 g4
      have en : (n : Int) / ((c ^ i : Nat) : Int) = ((n / c ^ i : Nat) : Int) := (Int.natCast_ediv _ _).symm
      rw [en] at g4
      have gc4 := s4 _ _ gc
      have gu4 := s4 _ _ gu
      rw [en]
      walk_at "go"
      rw [hC2.get]
      by_cases hz : y.1 i (n / c ^ i) = 0
      · rw [if_pos hz] at hy
        rw [if_pos hz]
        walk_at "go"
        rename_i H5 kvs3 kvu3 e5 gc5 gu5 hC5 hU5 a5
        refine ⟨_, _, kvs3, kvu3, (upC y.1 i (n / c ^ i) (lstF y.2), y.2 ++ [lstF y.2]), rfl, hy, ey.trans ((Ex.of s4).trans e5), gc5, gu5, hC5, hU5, by omega, ?_⟩
        simp only [List.length_append, List.length_cons, List.length_nil]; omega
      · rw [if_neg hz] at hy
        rw [if_neg hz]
        walk_at "go"
        exact ⟨_, _, kvs2, kvu2, y, rfl, hy, ey.trans (Ex.of s4), gc4, gu4, hC2, hU2, by omega, by omega⟩
    · rintro σ' Hy ⟨v7, v8, kvs2, kvu2, y, rfl, hy, ey, gc, gu, hC2, hU2, b1, b2⟩
      have eN : ((h' : Int) + 1).toNat = h' + 1 := by omega
      rw [eN] at hy b1 b2
      rw [Nat.sub_self, pathC] at hy
      have eA : Ex [cc, cu, cd, ct] H Hy := ex3.trans ey.l4
      have nou : oa ≠ cu := ne_of ho hu (by intro z; cases z)
      have nod : oa ≠ cd := ne_of ho hd (by intro z; cases z)
      have noc : oa ≠ cc := ne_of ho hc (by intro z; cases z)
      have goy := eA _ _ (by simp only [List.mem_cons, List.not_mem_nil, or_false, not_or]; exact ⟨noc, nou, nod, nto⟩) ho
      have gdy := ey _ _ (by simp only [List.mem_cons, List.not_mem_nil, or_false, not_or]; exact ⟨ncd.symm, nud.symm⟩) gd3
      have gty := ey _ _ (by simp only [List.mem_cons, List.not_mem_nil, or_false, not_or]; exact ⟨nct.symm, nut.symm⟩) g3
      have hDy : DatP Hy kvd ct x.1 Dt := (hD.ex eA fun a xs ha na => by
        simp only [List.mem_cons, List.not_mem_nil, or_false, not_or]
        exact ⟨ne_of ha hc (by intro z; cases z), ne_of ha hu (by intro z; cases z), ne_of ha hd (by intro z; cases z), na⟩).congr a3
      walk_at "go"
      rename_i la nla H4 s4 g4 H5 e5 g5
      have nla' : la ≠ cd := fun z => by rw [z, gdy] at nla; cases nla
      have nlt : la ≠ ct := fun z => by rw [z, gty] at nla; cases nla
      have nlc : la ≠ cc := fun z => by rw [z, gc] at nla; cases nla
      have up5 : ∀ {a : Addr} {o : HO}, Hy a = some o → a ≠ cd → H5 a = some o := fun ha na => by rw [← e5, upd_ne na]; exact s4 _ _ ha
      have e45 : Ex [cd] Hy H5 := (Ex.of s4).trans (Ex.put (by simp) e5)
      have hD5 := hDy.ex e45 fun a xs ha na => by
        simp only [List.mem_cons, List.not_mem_nil, or_false]
        exact ne_of ha gdy (by intro z; cases z)
      have hfin := hD5.put (C' := y.1) (n := n) (oc := oc) (a := la) (by rw [← e5, upd_ne nla']; exact g4) nlt (fun m hm => ?_) ?_
      · exact q _ _ _ _ y hy (eA.trans (e45.mono (by simp))) (up5 gc ncd) (up5 gu nud) g5 (up5 gty ndt.symm) hC2 hU2 hfin (by omega) putK_len
      · rw [hy]
        exact pathC_lo hm
      · rw [hy]
        exact pathC_at
def cellP (c : Nat) (C : Nat → Nat → Int) (Dt : Nat → List Int) (l i : Nat) : Pay := if l = 0 then (3, Dt i) else (4, (List.range c).map fun k => C (l - 1) (i * c + k))
theorem Tr.cell {c h : Nat} {rt : Int} {B : Int → Option Pay} {ks : List Int} {C : Nat → Nat → Int} {Dt : Nat → List Int} {F : Int → Option Pay} (t : Tr c h rt B ks C Dt F) {l i : Nat} (hn : C l i ≠ 0) : B (C l i) = some (cellP c C Dt l i) := by
  unfold cellP
  cases l with
  | zero => rw [if_pos rfl]; exact t.leaf i hn
  | succ l => rw [if_neg (by omega)]; exact t.node l i hn
theorem r_nePay {K : PySem.W.Frag} {H : Hp} {v u : V} {p : Pay} {Q : V → Hp → Prop} (hv : PayAt K H v p) (hu : PayAt K H u p) (q : Q (.bl false) H) : rNeD K v u H Q := by
  obtain ⟨t, b, rfl, h1, h2⟩ := hv
  obtain ⟨t', b', rfl, h3, h4⟩ := hu
  have f : Fl 2 (.tuple [.int p.1, .tuple (p.2.map PyData.int)]) := Fl.tup (Fl.cons (Fl.int _ _) (Fl.cons (Fl.ints _) Fl.nil))
  refine r_ned (.tup h1 (.cons (.int _) (.cons (.tup h2 (DpAll.ints _)) .nil))) (.tup h3 (.cons (.int _) (.cons (.tup h4 (DpAll.ints _)) .nil))) f.shaped f.shaped ?_
  rw [f.self]
  exact q
def sp_law_payload (K : PySem.W.Frag) : Sp := fun args_ H Q _ => ∃ (cc cd kt ct : Addr) (kvs : List (List Key × V)) (kvd : List (Key × V)) (C : Nat → Nat → Int) (Dt : Nat → List Int) (c l i : Nat), args_ = [.ref cc, .ref cd, .int (c : Nat), .ref kt] ∧ Rd H cc (.dT kvs) ∧ CT kvs C ∧ H cd = some (.dK kvd) ∧ DatP H kvd ct C Dt ∧ H kt = some (.tup [.int (l : Nat), .int (i : Nat)]) ∧ C l i ≠ 0 ∧ c ≤ 1000 ∧ ∀ H' v, Same H H' → PayAt K H' v (cellP c C Dt l i) → Q v H'
theorem i_law_payload {K : PySem.W.Frag} {args_ : List V} {H : Hp} {Q : V → Hp → Prop} {E : XK} {cc cd kt ct : Addr} {kvs : List (List Key × V)} {kvd : List (Key × V)} {C : Nat → Nat → Int} {Dt : Nat → List Int} {c l i : Nat} (ev : args_ = [.ref cc, .ref cd, .int (c : Nat), .ref kt]) (hc : Rd H cc (.dT kvs)) (hC : CT kvs C) (hd : H cd = some (.dK kvd)) (hD : DatP H kvd ct C Dt) (hk : H kt = some (.tup [.int (l : Nat), .int (i : Nat)])) (hn : C l i ≠ 0) (c1 : c ≤ 1000) (q : ∀ H' v, Same H H' → PayAt K H' v (cellP c C Dt l i) → Q v H') : sp_law_payload K args_ H Q E := ⟨cc, cd, kt, ct, kvs, kvd, C, Dt, c, l, i, ev, hc, hC, hd, hD, hk, hn, c1, q⟩
local macro_rules | `(tactic| walk_at "ca1") => `(tactic| with_reducible (refine' Sg.i_law_payload ?ev ?hc ?hC ?hd ?hD ?hk ?hn ?c1 ?_; (case ev => (with_unfolding_all rfl)); (case hc => (with_unfolding_all walk_at "pr")); (case hC => (with_unfolding_all walk_at "pr")); (case hd => (with_unfolding_all walk_at "pr")); (case hD => (with_unfolding_all walk_at "pr")); (case hk => (with_unfolding_all walk_at "pr")); (case hn => (with_unfolding_all walk_at "pr")); (case c1 => (with_unfolding_all walk_at "pr")); intros))

theorem ok_law_payload (T : Txt K mg) : FnOk P w K mg base CX0 1 T.a_law_payload T.fd_law_payload ["cells", "data", "fan", "key"] (sp_law_payload K) := by
  refine T.F_law_payload.ok sc_law_payload (fun vs H Q E h => ?_) (fun cdv A outer s H vs Q E hr h => ?_)
  · obtain ⟨cc, cd, kt, ct, kvs, kvd, C, Dt, c, l, i, rfl, _⟩ := h
    rfl
  · refine ⟨_, (pss_cons (ps_if (pt_cmpR op_eq (pe_ix ix_tup (pv 3) pe_int (fun _ _ => rfl)) pe_int (nomark _))
       (pss_one (ps_ret (pe_tup (pa_cons pe_int (pa_cons (pe_callTy c_tuple (by rfl) T.n_tuple (by decide +kernel) (pa_cons (pe_dget (hu_of hr) (pv 1) (pe_ix ix_tup (pv 3) pe_int (fun _ _ => rfl)) (fun _ _ => rfl)) pa_nil)) pa_nil)))))
       pss_nil)
       (pss_one (ps_ret (pe_tup (pa_cons pe_int (pa_cons (pe_callTy c_tuple (by rfl) T.n_tuple (by decide +kernel) (pa_cons (pe_lc (own := [("slot", 4)]) (g := gName 4) (tt := tYes) rfl sc_law_payload.nd (pi_range1 rfl T.n_range (pa_cons (pv 2) pa_nil)) (blkOk_by (own := [("slot", 4)]) (N := n_law_payload) (sc := defScope s_law_payload) (by decide +kernel)) (fun _ _ _ _ _ => pg_name (i := 4) sc_law_payload.nd rfl (Or.inl rfl)) (fun _ _ _ _ _ => pts_nil) (fun _ _ _ _ _ => (pe_dget2 (hu_of hr) (pv 0) (pe_tup (pa_cons (pe_op op_sub (pe_ix (ix_tupK K rfl) (pv 3) pe_int (fun _ _ => rfl)) pe_int) (pa_cons (pe_op op_add (pe_op op_mul (pe_ix (ix_tupK K rfl) (pv 3) pe_int (fun _ _ => rfl)) (pv 2)) (pv 4)) pa_nil))) pe_int ⟨rfl, rfl, rfl, rfl⟩))) pa_nil)) pa_nil)))))), ?_⟩
    try dsimp only [cxOf, Cx.nox, Cx.wish]
    obtain ⟨cc, cd, kt, ct, kvs, kvd, C, Dt, c, l, i, rfl, hc, hC, hd, hD, hk, hn, c1, q⟩ := h
    have cl_Store := T.cl_Store
    walk_at "go"
    refine r_ite (fun h0 => ?_) (fun h0 => ?_)
    · have e : l = 0 := by omega
      subst e
      obtain ⟨a, h1, h2, h3⟩ := hD.at_ i hn
      walk_at "go"
      refine r_kdg2R (.inl hd) h1 ?_
      walk_at "go"
      rename_i p1 n1 H1 s1 g1 p2 n2 H2 s2 g2
      exact q _ _ (s1.trans s2) ⟨p2, p1, rfl, .of g2, .of (s2 _ _ g1)⟩
    · obtain ⟨l', rfl⟩ : ∃ l', l = l' + 1 := ⟨l - 1, by omega⟩
      walk_at "go"
      refine r_lcR (fun k acc _ => acc = (List.range k).map fun m => V.int (C l' (i * c + m))) (by omega) rfl rfl ?_ ?_
      · rintro k acc H0 H' hk' s0 rfl s1 R hR
        have hc' : Rd H' cc (.dT kvs) := hc.imp (fun h => s1 _ _ (s0 _ _ h)) (fun ⟨o, h⟩ => ⟨o, s1 _ _ (s0 _ _ h)⟩)
        have hk2 := s1 _ _ (s0 _ _ hk)
        walk_at "go"
        rename_i p n H1 s2 g2
        rw [show (((l' + 1 : Nat) : Int) - 1) = (l' : Int) by omega, show ((i : Int) * (c : Int) + (0 + (k : Int))) = ((i * c + k : Nat) : Int) by simp] at g2
        have hc2 : Rd H1 cc (.dT kvs) := hc'.imp (fun h => s2 _ _ h) (fun ⟨o, h⟩ => ⟨o, s2 _ _ h⟩)
        refine r_kdu3T hc2 g2 ?_
        rw [hC.get]
        have e : (if C l' (i * c + k) = 0 then none else some (V.int (C l' (i * c + k)))).getD (.int 0) = .int (C l' (i * c + k)) := by
          by_cases z : C l' (i * c + k) = 0
          · rw [if_pos z, z]; rfl
          · rw [if_neg z]; rfl
        rw [e]
        refine hR _ _ s2 fun D _ _ => ?_
        rw [List.range_succ, List.map_append]
        rfl
      · rintro H' la acc s1 nla g1 hl rfl
        walk_at "go"
        rename_i p1 n1 H1 s2 g2 p2 n2 H2 s3 g3
        refine q _ _ (s1.trans (s2.trans s3)) ⟨p2, p1, rfl, ?_, .of ?_⟩
        · unfold cellP
          rw [if_neg (by omega)]
          exact .of g3
        · unfold cellP
          rw [if_neg (by omega), s3 _ _ g2, Int.toNat_natCast]
          dsimp only
          rw [List.map_map]
          rfl
theorem SW.pln {K : PySem.W.Frag} {CS CL : Addr} {H H' : Hp} {s d lay a : Addr} {L : Lay} {ks : List Int} {B : Int → Option Pay} {o o' : HO} (h : SW K CS CL H s d lay L ks B) (ha : H a = some o) (hp : Pln o) (nf : ¬ Fixed o) (e : upd H a o' = H') : SW K CS CL H' s d lay L ks B := by
  have n := h.nin ha hp
  simp only [List.mem_cons, List.not_mem_nil, or_false, not_or] at n
  have nl : lay ≠ a := by
    obtain ⟨_, _, ⟨dx, fs, h3, _⟩, _⟩ := h
    intro z
    rw [z, ha] at h3; cases h3; exact hp
  exact h.other (X := [a]) (by simpa using fun z => n.1 z.symm) (by simpa using fun z => n.2 z.symm) (by simpa using nl) (Keeps.upd ha nf e) (Ex.put (by simp) e)
def sp_law_is_integer  : Sp := fun args_ H Q _ => ∃ (i : Int), args_ = [.int i] ∧ Q (.bl true) H
theorem i_law_is_integer  {args_ : List V} {H : Hp} {Q : V → Hp → Prop} {E : XK} {i : Int} (ev : args_ = [.int i]) (q : Q (.bl true) H) : sp_law_is_integer  args_ H Q E := ⟨i, ev, q⟩
local macro_rules | `(tactic| walk_at "ca1") => `(tactic| with_reducible (refine' Sg.i_law_is_integer ?ev ?_; (case ev => (with_unfolding_all rfl))))

theorem ok_law_is_integer (T : Txt K mg) : FnOk P w K mg base CX0 1 T.a_law_is_integer T.fd_law_is_integer ["actual"] sp_law_is_integer := by
  refine T.F_law_is_integer.ok sc_law_is_integer (fun vs H Q E h => ?_) (fun cdv A outer s H vs Q E hr h => ?_)
  · obtain ⟨i, rfl, _⟩ := h
    rfl
  · refine ⟨_, (pss_one (ps_ret (pe_and (pe_callB (call_isi) (by rfl) T.n_isinstance (by decide +kernel) (pa_cons (pv 0) (pa_cons (pe_bltn (v := .ty "int") (by rfl) T.n_int (by decide +kernel) rfl) pa_nil))) (pe_one (pe_not (pe_callB (call_isi) (by rfl) T.n_isinstance (by decide +kernel) (pa_cons (pv 0) (pa_cons (pe_bltn (v := .ty "bool") (by rfl) T.n_bool (by decide +kernel) rfl) pa_nil)))))))), ?_⟩
    try dsimp only [cxOf, Cx.nox, Cx.wish]
    obtain ⟨i, rfl, q⟩ := h
    walk_at "go"
    exact q
def sp_law_same (K : PySem.W.Frag) (CS CL CF : Addr) : Sp := fun args_ H Q _ => ∃ (s d lay f cc cu cd ct : Addr) (L : Lay) (ks ku : List Int) (B F : Int → Option Pay) (C : Nat → Nat → Int) (Dt : Nat → List Int) (sz rt : Int) (c h : Nat) (kvs : List (List Key × V)) (kvu kvd : List (Key × V)), args_ = [.ref s, .ref f, .ref cc, .ref cu, .ref cd, .ref ct] ∧ TW K CS CL CF H s d lay f L ks B sz (h : Nat) rt ∧ Tr c h rt B ks C Dt F ∧ H cc = some (.dT kvs) ∧ CT kvs C ∧ H cu = some (.dK kvu) ∧ Dk kvu ku ∧ ku.length = ks.length ∧ H cd = some (.dK kvd) ∧ DatP H kvd ct C Dt ∧ H ct = some (.lst [.int (c : Nat), .int (h : Nat)]) ∧ c ≤ 1000 ∧ ∀ H', Same H H' → Q (.bl true) H'
theorem i_law_same {K : PySem.W.Frag} {CS CL CF : Addr} {args_ : List V} {H : Hp} {Q : V → Hp → Prop} {E : XK} {s d lay f cc cu cd ct : Addr} {L : Lay} {ks ku : List Int} {B F : Int → Option Pay} {C : Nat → Nat → Int} {Dt : Nat → List Int} {sz rt : Int} {c h : Nat} {kvs : List (List Key × V)} {kvu kvd : List (Key × V)} (ev : args_ = [.ref s, .ref f, .ref cc, .ref cu, .ref cd, .ref ct]) (hW : TW K CS CL CF H s d lay f L ks B sz (h : Nat) rt) (hT : Tr c h rt B ks C Dt F) (hc : H cc = some (.dT kvs)) (hC : CT kvs C) (hu : H cu = some (.dK kvu)) (hU : Dk kvu ku) (hkk : ku.length = ks.length) (hd : H cd = some (.dK kvd)) (hD : DatP H kvd ct C Dt) (ht : H ct = some (.lst [.int (c : Nat), .int (h : Nat)])) (c1 : c ≤ 1000) (q : ∀ H', Same H H' → Q (.bl true) H') : sp_law_same K CS CL CF args_ H Q E := ⟨s, d, lay, f, cc, cu, cd, ct, L, ks, ku, B, F, C, Dt, sz, rt, c, h, kvs, kvu, kvd, ev, hW, hT, hc, hC, hu, hU, hkk, hd, hD, ht, c1, q⟩
local macro_rules | `(tactic| walk_at "ca1") => `(tactic| with_reducible (refine' Sg.i_law_same ?ev ?hW ?hT ?hc ?hC ?hu ?hU ?hkk ?hd ?hD ?ht ?c1 ?_; (case ev => (with_unfolding_all rfl)); (case hW => (with_unfolding_all walk_at "pr")); (case hT => (with_unfolding_all walk_at "pr")); (case hc => (with_unfolding_all walk_at "pr")); (case hC => (with_unfolding_all walk_at "pr")); (case hu => (with_unfolding_all walk_at "pr")); (case hU => (with_unfolding_all walk_at "pr")); (case hkk => (with_unfolding_all walk_at "pr")); (case hd => (with_unfolding_all walk_at "pr")); (case hD => (with_unfolding_all walk_at "pr")); (case ht => (with_unfolding_all walk_at "pr")); (case c1 => (with_unfolding_all walk_at "pr")); intros))

theorem ok_law_same (T : Txt K mg) : FnOk P w K mg base CX0 3 T.a_law_same T.fd_law_same ["store", "file", "cells", "used", "data", "tree"] (sp_law_same K T.A_Store T.A_Layout T.A_PlainFile) := by
  refine T.F_law_same.ok sc_law_same (fun vs H Q E h => ?_) (fun cdv A outer s H vs Q E hr h => ?_)
  · obtain ⟨s, d, lay, f, cc, cu, cd, ct, L, ks, ku, B, F, C, Dt, sz, rt, c, h, kvs, kvu, kvd, rfl, _⟩ := h
    rfl
  · refine ⟨_, (C8.pss_cut (ps_if (PW.pt (pw_or (pt_not (pt_val (pe_call (ok_law_is_integer T) (hr.mono (by decide)) rfl T.m_law_is_integer T.F_law_is_integer.kp T.b_law_is_integer .nil pass0 (pa_cons (pe_fld (pv 1) rfl) pa_nil)))) (pw_or (pt_not (pt_val (pe_call (ok_law_is_integer T) (hr.mono (by decide)) rfl T.m_law_is_integer T.F_law_is_integer.kp T.b_law_is_integer .nil pass0 (pa_cons (pe_fld (pv 1) rfl) pa_nil)))) (pw_or1 (pt_cmpR op_ne (pe_prop (pv 0) T.cl_Store T.pr_Store_block_count (ok_Store_block_count T) (hr.mono (by decide)) T.b_Store_block_count .nil pass0 rfl) (pe_callB (c_lenD) (by rfl) T.n_len (by decide +kernel) (pa_cons (pv 3) pa_nil)) (nomark _))))))
       (pss_one (ps_ret pe_bl))
       pss_nil)
       (C8.pss_cut (ps_if (PW.pt (pw_or (pt_cmpR op_ne (pe_fld (pv 1) rfl) (pe_ix ix_list (pv 5) pe_int (fun _ _ => rfl)) (nomark _)) (pw_or1 (pt_cmpR op_ne (pe_fld (pv 1) rfl) (pe_dget2 (hu_of hr) (pv 2) (pe_tup (pa_cons (pe_ix ix_list (pv 5) pe_int (fun _ _ => rfl)) (pa_cons pe_int pa_nil))) pe_int ⟨rfl, rfl, rfl, rfl⟩) (nomark _)))))
       (pss_one (ps_ret pe_bl))
       pss_nil)
       (pss_cons (ps_lock (ps_for PassesOwn.never rfl (pi_keys (pv 2)) (pg_name (i := 6) sc_law_same.nd rfl (Or.inl rfl))
       (pss_one (ps_if (pt_cmpR (op_neD hr.units) (pe_meth (pv 0) T.cl_Store T.me_Store_get (ok_Store_get T) (hr.mono (by decide)) T.b_Store_get .nil pass0 (pa_cons (pe_dget (hu_of hr) (pv 2) (pv 6) (fun _ _ => rfl)) pa_nil)) (pe_call (ok_law_payload T) (hr.mono (by decide)) rfl T.m_law_payload T.F_law_payload.kp T.b_law_payload .nil pass0 (pa_cons (pv 2) (pa_cons (pv 4) (pa_cons (pe_ix ix_list (pv 5) pe_int (fun _ _ => rfl)) (pa_cons (pv 6) pa_nil))))) (nomark _))
       (pss_one (ps_ret pe_bl))
       pss_nil))))
       (pss_one (ps_ret pe_bl))))), ?_⟩
    try dsimp only [cxOf, Cx.nox, Cx.wish]
    obtain ⟨s, d, lay, f, cc, cu, cd, ct, L, ks, ku, B, F, C, Dt, sz, rt, c, h, kvs, kvu, kvd, rfl, hW, hT, hc, hC, hu, hU, hkk, hd, hD, ht, c1, q⟩ := h
    have cl_PlainFile := T.cl_PlainFile
    have cl_Store := T.cl_Store
    have na_PlainFile_height := T.na_PlainFile_height
    have na_PlainFile_root := T.na_PlainFile_root
    obtain ⟨lc, ⟨dxs, fss, hs, Fs⟩, _⟩ := id hW.sw.sto
    obtain ⟨dxf, fsf, hf, Ff⟩ := id hW.fl
    have lk2 := Ff.height
    have lk3 := Ff.root
    have hul := hU.len
    have hSW := hW.sw
    have ncd : cc ≠ cd := ne_of hc hd (by intro z; cases z)
    have nct : cc ≠ ct := ne_of hc ht (by intro z; cases z)
    refine r_cutS ?_ ?_
    · walk_at "go"
      exact ⟨rfl, rfl⟩
    refine r_cutH ?_ ?_
    · walk_at "go"
      rename_i pk nk Hk sk gk
      have e : (valV kvs [Sum.inl (h : Int), Sum.inl 0]).getD (.int 0) = .int rt := by
        have := hC.get h 0
        rw [show ((0 : Nat) : Int) = 0 from rfl] at this
        rw [this, hT.root]
        by_cases z : C h 0 = 0
        · rw [if_pos z, z]; rfl
        · rw [if_neg z]; rfl
      rw [e]
      walk_at "go"
      exact ⟨rfl, sk⟩
    intro H1 s1
    have hc1 := s1 _ _ hc
    have hd1 := s1 _ _ hd
    have ht1 := s1 _ _ ht
    have hSW1 := hSW.mono s1
    have hD1 := hD.ex (Ex.of (L := []) s1) (fun _ _ _ _ z => nomatch z)
    walk_at "go"
    refine ⟨cc, .dT kvs, hc1, trivial, fun od => ?_⟩
    generalize e2 : upd H1 cc _ = H2
    have hc2 := at_new e2
    have hd2 : H2 cd = some (.dK kvd) := by rw [← e2, upd_ne ncd.symm]; exact hd1
    have ht2 : H2 ct = some (.lst [.int (c : Nat), .int (h : Nat)]) := by rw [← e2, upd_ne nct.symm]; exact ht1
    have hSW2 := hSW1.pln hc1 trivial (fun z => z) e2
    have hD2 := hD1.ex (Ex.put (L := [cc]) (by simp) e2) (fun a xs ha _ => by simpa using ne_of ha hc1 (by intro z; cases z))
    walk_at "go"
    refine r_forKeysT (fun j σ' H' => ∃ v6 : Option V, σ' = [some (.ref s), some (.ref f), some (.ref cc), some (.ref cu), some (.ref cd), some (.ref ct), v6] ∧ Same H2 H') ⟨_, rfl, Same.refl _⟩ (fun j σ' H' _ ⟨_, _, sx⟩ => sx _ _ hc2) ?_ ?_
    · rintro j k v kt σ' H' hj hkt ⟨v6, rfl, s3⟩
      obtain ⟨l, i, rfl, hn, rfl⟩ := hC.all k v (List.mem_of_getElem? hj)
      have hkt : H' kt = some (.tup [.int (l : Int), .int (i : Int)]) := hkt
      have hc3 : Rd H' cc (.dT kvs) := .inr ⟨od, s3 _ _ hc2⟩
      have hd3 := s3 _ _ hd2
      have ht3 := s3 _ _ ht2
      have hSW3 := hSW2.mono s3
      have hD3 := hD2.ex (Ex.of (L := []) s3) (fun _ _ _ _ z => nomatch z)
      have hB := hT.cell hn
      obtain ⟨lc3, ⟨dxs3, fss3, hs3, Fs3⟩, _⟩ := id hSW3.sto
      have n1 := Fs3.n1
      walk_at "go"
      refine r_kdg2T hc3 hkt (by rw [hC.get, if_neg hn]) ?_
      walk_at "go"
      rename_i t b h1 h2 H4 v4 s4 hv4
      refine r_nePay ⟨t, b, rfl, Same.tup s4 h1, Same.tup s4 h2⟩ hv4 ?_
      walk_at "go"
      exact ⟨_, rfl, s3.trans s4⟩
    · rintro σ' H' ⟨v6, rfl, s3⟩
      refine ⟨s3 _ _ hc2, ?_⟩
      have s4 := lock_same hc1 e2 s3
      walk_at "go"
      exact q _ (s1.trans s4)
def sp_law_octets  : Sp := fun args_ H Q _ => ∃ (n z : Int), args_ = [.int n, .int z] ∧ 3 ≤ z ∧ z ≤ 1000 ∧ ∀ H' a (oc : List Int), Same H H' → H a = none → H' a = some (.lst (oc.map V.int)) → (oc.length : Int) = z → (∀ x ∈ oc, 0 ≤ x ∧ x < 256) → Q (.ref a) H'
theorem i_law_octets  {args_ : List V} {H : Hp} {Q : V → Hp → Prop} {E : XK} {n z : Int} (ev : args_ = [.int n, .int z]) (z0 : 3 ≤ z) (z1 : z ≤ 1000) (q : ∀ H' a (oc : List Int), Same H H' → H a = none → H' a = some (.lst (oc.map V.int)) → (oc.length : Int) = z → (∀ x ∈ oc, 0 ≤ x ∧ x < 256) → Q (.ref a) H') : sp_law_octets  args_ H Q E := ⟨n, z, ev, z0, z1, q⟩
local macro_rules | `(tactic| walk_at "ca1") => `(tactic| with_reducible (refine' Sg.i_law_octets ?ev ?z0 ?z1 ?_; (case ev => (with_unfolding_all rfl)); (case z0 => (with_unfolding_all walk_at "pr")); (case z1 => (with_unfolding_all walk_at "pr")); intros))

theorem ok_law_octets (T : Txt K mg) : FnOk P w K mg base CX0 1 T.a_law_octets T.fd_law_octets ["number", "size"] sp_law_octets := by
  refine T.F_law_octets.ok sc_law_octets (fun vs H Q E h => ?_) (fun cdv A outer s H vs Q E hr h => ?_)
  · obtain ⟨n, z, rfl, _⟩ := h
    rfl
  · refine ⟨_, (pss_one (ps_ret (pe_op op_cat (pe_op op_rep (pe_lst (pa_cons (pe_op op_mod (pe_callTy c_int (by rfl) T.n_int (by decide +kernel) (pa_cons (pv 0) pa_nil)) pe_int) pa_nil)) (pe_op op_sub (pv 1) pe_int)) (pe_lst (pa_cons (pe_op op_mod (pe_op op_fdiv (pe_callTy c_int (by rfl) T.n_int (by decide +kernel) (pa_cons (pv 0) pa_nil)) pe_int) pe_int) (pa_cons (pe_op op_mod (pe_op op_fdiv (pe_callTy c_int (by rfl) T.n_int (by decide +kernel) (pa_cons (pv 0) pa_nil)) pe_int) pe_int) pa_nil)))))), ?_⟩
    try dsimp only [cxOf, Cx.nox, Cx.wish]
    obtain ⟨n, z, rfl, z0, z1, q⟩ := h
    walk_at "go"
    rename_i x hx x0 x1 p1 n1 H1 s1 g1 p2 n2 H2 s2 g2 y hy y0 y1 u hu u0 u1 p3 n3 H3 s3 g3 p4 n4 H4 s4 g4
    have eo : List.replicate (z - 2).toNat (V.int x) ++ [V.int y, V.int u] = (List.replicate (z - 2).toNat x ++ [y, u]).map V.int := by
      rw [List.map_append, List.map_replicate]
      rfl
    rw [eo] at g4
    refine q _ _ _ (by walk_at "sm") ((s1.trans (s2.trans s3)).free n4) g4 ?_ (fun w hw => ?_)
    · rw [List.length_append, List.length_replicate]
      simp only [List.length_cons, List.length_nil]
      omega
    · rcases List.mem_append.mp hw with hw | hw
      · rw [List.eq_of_mem_replicate hw]; exact ⟨x0, x1⟩
      · simp only [List.mem_cons, List.not_mem_nil, or_false] at hw
        rcases hw with rfl | rfl
        · exact ⟨y0, y1⟩
        · exact ⟨u0, u1⟩
def sp_law_number  : Sp := fun args_ H Q _ => ∃ (x : Int) (c : Nat) (cd : Addr) (kvd : List (Key × V)) (ns : List Int), args_ = [.int x, .int (c : Nat), .ref cd] ∧ 2 ≤ c ∧ c ≤ 128 ∧ H cd = some (.dK kvd) ∧ Dk kvd ns ∧ ns.length ≤ 60 ∧ ∀ H' (n : Nat), n < 1048576 → Same H H' → Q (.int (n : Nat)) H'
theorem i_law_number  {args_ : List V} {H : Hp} {Q : V → Hp → Prop} {E : XK} {x : Int} {c : Nat} {cd : Addr} {kvd : List (Key × V)} {ns : List Int} (ev : args_ = [.int x, .int (c : Nat), .ref cd]) (c0 : 2 ≤ c) (c1 : c ≤ 128) (hd : H cd = some (.dK kvd)) (hk : Dk kvd ns) (l1 : ns.length ≤ 60) (q : ∀ H' (n : Nat), n < 1048576 → Same H H' → Q (.int (n : Nat)) H') : sp_law_number  args_ H Q E := ⟨x, c, cd, kvd, ns, ev, c0, c1, hd, hk, l1, q⟩
local macro_rules | `(tactic| walk_at "ca1") => `(tactic| with_reducible (refine' Sg.i_law_number ?ev ?c0 ?c1 ?hd ?hk ?l1 ?_; (case ev => (with_unfolding_all rfl)); (case c0 => (with_unfolding_all walk_at "pr")); (case c1 => (with_unfolding_all walk_at "pr")); (case hd => (with_unfolding_all walk_at "pr")); (case hk => (with_unfolding_all walk_at "pr")); (case l1 => (with_unfolding_all walk_at "pr")); intros))

theorem ok_law_number (T : Txt K mg) : FnOk P w K mg base CX0 1 T.a_law_number T.fd_law_number ["number", "fan", "data"] sp_law_number := by
  refine T.F_law_number.ok sc_law_number (fun vs H Q E h => ?_) (fun cdv A outer s H vs Q E hr h => ?_)
  · obtain ⟨x, c, cd, kvd, ns, rfl, _⟩ := h
    rfl
  · refine ⟨_, (pss_cons (ps_set (i := 3) sc_law_number.nd rfl (Or.inl rfl) (pe_op op_fdiv (pe_callTy c_int (by rfl) T.n_int (by decide +kernel) (pa_cons (pv 0) pa_nil)) pe_int))
       (pss_cons (ps_if (pt_cmpR op_eq (pe_op op_mod (pe_callTy c_int (by rfl) T.n_int (by decide +kernel) (pa_cons (pv 0) pa_nil)) pe_int) pe_int (nomark _))
       (pss_one (ps_ret (pe_op op_mod (pv 3) pe_int)))
       pss_nil)
       (pss_cons (ps_if (pt_cmpR op_eq (pe_op op_mod (pe_callTy c_int (by rfl) T.n_int (by decide +kernel) (pa_cons (pv 0) pa_nil)) pe_int) pe_int (nomark _))
       (pss_one (ps_ret (pe_op op_mod (pe_op op_sub (pe_op op_add (pe_ix ix_list (pe_lst (pa_cons pe_int (pa_cons (pv 1) (pa_cons (pe_op op_mul (pv 1) (pv 1)) (pa_cons (pe_op op_mul (pe_op op_mul (pv 1) (pv 1)) (pv 1)) (pa_cons pe_int pa_nil)))))) (pe_op op_mod (pv 3) pe_int) (fun _ _ => rfl)) (pe_op op_mod (pe_op op_fdiv (pv 3) pe_int) pe_int)) pe_int) pe_int)))
       pss_nil)
       (C8.pss_cut (ps_if (PW.pt (pw_and (pt_cmpR op_eq (pe_op op_mod (pe_callTy c_int (by rfl) T.n_int (by decide +kernel) (pa_cons (pv 0) pa_nil)) pe_int) pe_int (nomark _)) (pw_and1 (pt_cmpR op_gt (pe_callB (c_lenD) (by rfl) T.n_len (by decide +kernel) (pa_cons (pv 2) pa_nil)) pe_int (nomark _)))))
       (pss_one (ps_ret (pe_op op_mod (pe_op op_add (pe_ix ix_list (pe_callB (c_sortD rfl) (by rfl) T.n_sorted (by decide +kernel) (pa_cons (pv 2) pa_nil)) (pe_op op_mod (pv 3) (pe_callB (c_lenD) (by rfl) T.n_len (by decide +kernel) (pa_cons (pv 2) pa_nil))) (fun _ _ => rfl)) (pe_op op_mod (pe_op op_fdiv (pv 3) pe_int) pe_int)) pe_int)))
       pss_nil)
       (pss_one (ps_ret (pe_op op_mod (pv 3) (pe_op op_mul pe_int (pv 1))))))))), ?_⟩
    try dsimp only [cxOf, Cx.nox, Cx.wish]
    obtain ⟨x, c, cd, kvd, ns, rfl, c0, c1, hd, hk, l1, q⟩ := h
    have hkl := hk.len
    have out : ∀ (H' : Hp) (z : Int), 0 ≤ z → z < 1048576 → Same H H' → Q (.int z) H' := fun H' z h0 h1 s => by
      have := q H' z.toNat (by omega) s
      rw [Int.toNat_of_nonneg h0] at this
      exact this
    walk_at "go"
    rename_i y hy y0 y1
    refine r_ite (fun h => ?_) (fun h => ?_)
    · walk_at "go"
      exact out _ _ (by assumption) (by assumption) (Same.refl _)
    walk_at "go"
    rename_i y2 hy2 y20 y21
    refine r_ite (fun h => ?_) (fun h => ?_)
    · walk_at "go"
      rename_i p1 n1 H1 s1 g1 z hz z0 z1
      refine r_ixl (.of g1) (at_ints (ts := [1, (c : Int), (c : Int) * c, (c : Int) * c * c, 1048576]) z0 (by simp; omega)) ?_
      walk_at "go"
      exact out _ _ (by assumption) (by assumption) s1
    walk_at "go"
    refine r_cut (fun σ' H' => σ' = [some (.int x), some (.int (c : Nat)), some (.ref cd), some (.int (x / 5))] ∧ H = H') ?_ ?_
    · walk_at "go"
      refine r_ite (fun h2 => ?_) (fun h2 => ?_)
      · walk_at "go"
        refine r_ite (fun h3 => ?_) (fun h3 => ?_)
        · walk_at "go"
          refine ⟨cd, kvd, ns, rfl, .inl hd, hk.keys, by omega, fun ys p hp _ np => ?_⟩
          generalize hH : upd _ _ _ = H1
          have s1 := Same.of_new hH np
          have g1 := Sg.at_new hH
          have hd1 := s1 _ _ hd
          have hyl : ys.length = ns.length := hp.length_eq
          walk_at "go"
          rename_i z hz z0 z1
          refine r_ixl (.of g1) (at_ints z0 (by omega)) ?_
          walk_at "go"
          exact out _ _ (by assumption) (by assumption) s1
        · walk_at "go"
          exact ⟨rfl, rfl⟩
      · walk_at "go"
        exact ⟨rfl, rfl⟩
    rintro _ _ ⟨rfl, rfl⟩
    walk_at "go"
    exact out _ _ (by assumption) (by omega) (Same.refl _)
theorem Tr.low {c h : Nat} {rt : Int} {B : Int → Option Pay} {ks : List Int} {C : Nat → Nat → Int} {Dt : Nat → List Int} {F : Int → Option Pay} (t : Tr c h rt B ks C Dt F) : ∀ l i, C l i ≠ 0 → ∃ m, C 0 m ≠ 0
  | 0, i, h => ⟨i, h⟩
  | l + 1, i, h => by
    obtain ⟨k, _, h2⟩ := t.full l i h
    exact t.low l _ h2
theorem Tr.whole {c h n g : Nat} {rt : Int} {B : Int → Option Pay} {ks : List Int} {C : Nat → Nat → Int} {Dt : Nat → List Int} {F : Int → Option Pay} (t : Tr c h rt B ks C Dt F) (c0 : 2 ≤ c) (h0 : 0 ∉ ks) (hn : n < c ^ (h + (g - h))) (oc : List Int) {y : TS3} {x : (Nat → Nat → Int) × List Int}
    (hy : y = setB c (h + (g - h)) n oc (raiseB c (g - h) (B, ks, rt))) (hx : x = pathC c n (h + (g - h) + 1) 0 (if rt = 0 then (C, ks) else raiseC (g - h) h (C, ks))) : Tr c (h + (g - h)) y.2.2 y.1 y.2.1 x.1 (upD Dt n oc) F ∧ y.2.1 = x.2 ∧ 0 ∉ y.2.1 := by
  subst hy
  subst hx
  by_cases hr : rt = 0
  · rw [if_pos hr, raiseB_zero c (g - h) (B, ks, rt) hr]
    subst hr
    exact (t.raise0.2 (h + (g - h))).set c0 hn h0 oc
  · rw [if_neg hr]
    obtain ⟨t1, e1, z1, r1⟩ := Tr.raise c0 (g - h) h rt B ks C t hr h0
    generalize raiseB c (g - h) (B, ks, rt) = y1 at t1 e1 z1 r1 ⊢
    generalize raiseC (g - h) h (C, ks) = x1 at t1 e1 ⊢
    obtain ⟨B1, ks1, rt1⟩ := y1
    obtain ⟨C1, ks1'⟩ := x1
    dsimp only at t1 e1 z1 r1
    subst e1
    exact t1.set c0 hn z1 oc
def Sep (S : List Int) (x : (Nat → Nat → Int) × List Int) : Prop := (∀ l i, x.1 l i ≠ 0 → x.1 l i ∉ S) ∧ ∀ k, k ∈ S → k ∈ x.2
theorem Sep.take {S : List Int} {x : (Nat → Nat → Int) × List Int} (h : Sep S x) (l i : Nat) : Sep S (upC x.1 l i (lstF x.2), x.2 ++ [lstF x.2]) := by
  refine ⟨fun l' i' e => ?_, fun k hk => by simp [h.2 k hk]⟩
  by_cases z : l' = l ∧ i' = i
  · rw [z.1, z.2]
    show upC x.1 l i _ l i ∉ S
    rw [upC_same]
    exact fun w => lstF_nin x.2 (h.2 _ w)
  · have e' : x.1 l' i' ≠ 0 := by
      have : upC x.1 l i (lstF x.2) l' i' ≠ 0 := e
      rw [upC_ne z] at this
      exact this
    show upC x.1 l i _ l' i' ∉ S
    rw [upC_ne z]
    exact h.1 l' i' e'
theorem Sep.raise {S : List Int} : ∀ (k h : Nat) (x : (Nat → Nat → Int) × List Int), Sep S x → Sep S (raiseC k h x)
  | 0, _, _, h => h
  | k + 1, h, x, hx => by rw [raiseC]; exact Sep.raise k (h + 1) _ (hx.take _ _)
theorem Sep.path {S : List Int} {c n : Nat} : ∀ (k l : Nat) (x : (Nat → Nat → Int) × List Int), Sep S x → Sep S (pathC c n k l x)
  | 0, _, _, h => h
  | k + 1, l, x, hx => by
    rw [pathC]
    split
    · exact Sep.path k (l + 1) _ (hx.take _ _)
    · exact Sep.path k (l + 1) _ hx
theorem TW.other {K : PySem.W.Frag} {CS CL CF : Addr} {H H' : Hp} {s d lay f : Addr} {L : Lay} {ks : List Int} {B : Int → Option Pay} {sz hh rt : Int} {X : List Addr} (h : TW K CS CL CF H s d lay f L ks B sz hh rt) (n1 : s ∉ X) (n2 : d ∉ X) (n3 : lay ∉ X) (n4 : f ∉ X) (k : Keeps H H') (e : Ex X H H') : TW K CS CL CF H' s d lay f L ks B sz hh rt := by
  obtain ⟨h1, ⟨dx, fs, h2, h3⟩, h4, h5⟩ := h
  exact ⟨h1.other n1 n2 n3 k e, ⟨dx, fs, e _ _ n4 h2, h3⟩, h4, h5⟩
/-- objects are no plain things -/
theorem TW.objs {K : PySem.W.Frag} {CS CL CF : Addr} {H : Hp} {s d lay f a : Addr} {L : Lay} {ks : List Int} {B : Int → Option Pay} {sz hh rt : Int} {o : HO} (h : TW K CS CL CF H s d lay f L ks B sz hh rt) (ha : H a = some o) (hp : ∀ C dx fs, o ≠ .ins C dx fs) : s ≠ a ∧ lay ≠ a ∧ f ≠ a := by
  obtain ⟨⟨⟨lc, ⟨dx, fs, h1, _⟩, _⟩, _, ⟨dx', fs', h3, _⟩, _⟩, ⟨dx2, fs2, h4, _⟩, _, _⟩ := h
  refine ⟨fun z => ?_, fun z => ?_, fun z => ?_⟩
  · rw [← z, h1] at ha; cases ha; exact hp _ _ _ rfl
  · rw [← z, h3] at ha; cases ha; exact hp _ _ _ rfl
  · rw [← z, h4] at ha; cases ha; exact hp _ _ _ rfl
/-- what the law holds in its heap -/
structure LF (K : PySem.W.Frag) (CS CL CF : Addr) (H : Hp) (s d lay f cf cc cu cd ct : Addr) (L : Lay) (c h : Nat) (sz rt : Int) (ks ksF : List Int) (B F : Int → Option Pay) (C : Nat → Nat → Int) (Dt : Nat → List Int) (kvs : List (List Key × V)) (kvu kvd kvf : List (Key × V)) : Prop where
  tw : TW K CS CL CF H s d lay f L ks B sz (h : Nat) rt
  hc : H cc = some (.dT kvs)
  hu : H cu = some (.dK kvu)
  hd : H cd = some (.dK kvd)
  ht : H ct = some (.lst [.int (c : Nat), .int (h : Nat)])
  hf : H cf = some (.dK kvf)
  dat : DatP H kvd ct C Dt
  frn : DkB K H kvf ksF F
theorem LF.mono {K : PySem.W.Frag} {CS CL CF : Addr} {H H' : Hp} {s d lay f cf cc cu cd ct : Addr} {L : Lay} {c h : Nat} {sz rt : Int} {ks ksF : List Int} {B F : Int → Option Pay} {C : Nat → Nat → Int} {Dt : Nat → List Int} {kvs : List (List Key × V)} {kvu kvd kvf : List (Key × V)} (e : Same H H') (x : LF K CS CL CF H s d lay f cf cc cu cd ct L c h sz rt ks ksF B F C Dt kvs kvu kvd kvf) : LF K CS CL CF H' s d lay f cf cc cu cd ct L c h sz rt ks ksF B F C Dt kvs kvu kvd kvf := by
  obtain ⟨h1, h2, h3, h4, h5, h6, h7, h8⟩ := x
  exact ⟨h1.mono e, e _ _ h2, e _ _ h3, e _ _ h4, e _ _ h5, e _ _ h6, h7.ex (Ex.of (L := []) e) (fun _ _ _ _ z => nomatch z), h8.keeps (Keeps.of e)⟩
structure LP (c h : Nat) (rt : Int) (ks ksF : List Int) (B F : Int → Option Pay) (C : Nat → Nat → Int) (Dt : Nat → List Int) (kvs : List (List Key × V)) (kvu kvd : List (Key × V)) (N : Nat) : Prop where
  tr : Tr c h rt B ks C Dt F
  ct : CT kvs C
  dk : Dk kvu ks
  zero : 0 ∉ ks
  sep : Sep ksF (C, ks)
  l1 : kvs.length ≤ 43 * N
  l2 : ks.length ≤ 5 + 43 * N
  l3 : kvd.length ≤ N
  h1 : h ≤ 21
  hm : c ^ h < 1073741824
theorem i_stonew {K : PySem.W.Frag} {C CL : Addr} {H : Hp} {Q : Addr → Hp → Prop} {E : XK} {vs dvs : List V} {lay b : Addr} {L : Lay} {ks : List Int} {B : Int → Option Pay} {kvs : List (Key × V)} (ev : vs ++ dvs = [.ref lay, .ref b]) (hL : LayAt CL L H lay) (hb : H b = some (.dK kvs)) (hB : DkB K H kvs ks B)
    (q : ∀ s d H', Same H H' → H s = none → H d = none → SW K C CL H' s d lay L ks B → Q s H') :
    ∀ x dx, H x = none → H dx = none → dx ≠ x → sp_sto C (.ref x :: (vs ++ dvs)) (upd (upd H dx (.own x)) x (.ins C dx [])) (fun v H2 => v = .non ∧ Q x H2) E := fun x dx nx nd ne => by
  rw [ev]
  have s0 : Same H (upd (upd H dx (.own x)) x (.ins C dx [])) := fun a u e => by rw [upd_ne (ne_of_none e nx), upd_ne (ne_of_none e nd)]; exact e
  refine ⟨x, dx, lay, b, kvs, rfl, upd_same, s0 _ _ hb, fun H' d k n1 h1 hS => ⟨rfl, ?_⟩⟩
  have s1 : Same H H' := fun a u e => k _ _ (s0 _ _ e) (ne_of_none e nx)
  have nd' : H d = none := by
    by_cases e : d = x
    · rw [e]; exact nx
    by_cases e' : d = dx
    · rw [e']; exact nd
    rw [upd_ne e, upd_ne e'] at n1
    exact n1
  obtain ⟨dxl, fsl, hl, _⟩ := id hL
  exact q x d H' s1 nx nd' ⟨⟨1, hS, ⟨Int.le_refl 1, fun i h1 h2 => by omega⟩⟩, ⟨kvs, h1, hB.keeps (Keeps.of s1)⟩, hL.mono s1, ne_of_none hl nx⟩
def sp_PlainFile___init (C : Addr) : Sp := fun args_ H Q _ => ∃ (f dx : Addr) (x y z : Int), args_ = [.ref f, .int x, .int y, .int z] ∧ H f = some (.ins C dx []) ∧ ∀ H', (∀ a, a ≠ f → H' a = H a) → FilAt C H' f x y z → Q .non H'
theorem i_PlainFile___init {C : Addr} {args_ : List V} {H : Hp} {Q : V → Hp → Prop} {E : XK} {f dx : Addr} {x y z : Int} (ev : args_ = [.ref f, .int x, .int y, .int z]) (hf : H f = some (.ins C dx [])) (q : ∀ H', (∀ a, a ≠ f → H' a = H a) → FilAt C H' f x y z → Q .non H') : sp_PlainFile___init C args_ H Q E := ⟨f, dx, x, y, z, ev, hf, q⟩
local macro_rules | `(tactic| walk_at "ca1") => `(tactic| with_reducible (refine' Sg.i_PlainFile___init ?ev ?hf ?_; (case ev => (with_unfolding_all rfl)); (case hf => (with_unfolding_all walk_at "pr")); intros))

theorem ok_PlainFile___init (T : Txt K mg) : FnOk P w K mg base CX0 1 T.a_PlainFile___init T.fd_PlainFile___init ["self", "size", "height", "root"] (sp_PlainFile___init T.A_PlainFile) := by
  refine T.F_PlainFile___init.ok (CX := CX0) sc_PlainFile___init (fun vs H Q E h => ?_) (fun cdv A outer s H vs Q E hr h => ?_)
  · obtain ⟨f, dx, x, y, z, rfl, _⟩ := h
    rfl
  · refine ⟨_, (pss_cons (ps_fld (pv 0) (pv 1) rfl)
       (pss_cons (ps_fld (pv 0) (pv 2) rfl)
       (pss_one (ps_fld (pv 0) (pv 3) rfl)))), ?_⟩
    try dsimp only [cxOf, Cx.nox, Cx.wish]
    obtain ⟨f, dx, x, y, z, rfl, hf, q⟩ := h
    have cl_PlainFile := T.cl_PlainFile
    have na_PlainFile_height := T.na_PlainFile_height
    have na_PlainFile_root := T.na_PlainFile_root
    have na_PlainFile_size := T.na_PlainFile_size
    walk_at "go"
    rename_i H1 e1 g1 H2 e2 g2 H3 e3 g3
    refine q _ (fun a ha => by rw [← e3, upd_ne ha, ← e2, upd_ne ha, ← e1, upd_ne ha]) ⟨dx, _, g3, Sg.putF_len (Sg.putF_len (Sg.putF_len (Nat.zero_le _))), by walk_at "lk", by walk_at "lk", by walk_at "lk"⟩
theorem i_filnew {C : Addr} {H : Hp} {Q : Addr → Hp → Prop} {E : XK} {vs dvs : List V} {x y z : Int} (ev : vs ++ dvs = [.int x, .int y, .int z]) (q : ∀ f H', Same H H' → H f = none → FilAt C H' f x y z → Q f H') :
    ∀ o dx, H o = none → H dx = none → dx ≠ o → sp_PlainFile___init C (.ref o :: (vs ++ dvs)) (upd (upd H dx (.own o)) o (.ins C dx [])) (fun v H2 => v = .non ∧ Q o H2) E := fun o dx no nd ne => by
  rw [ev]
  refine ⟨o, dx, x, y, z, rfl, upd_same, fun H' k hF => ⟨rfl, q o H' (fun a u e => ?_) no hF⟩⟩
  rw [k _ (ne_of_none e no), upd_ne (ne_of_none e no), upd_ne (ne_of_none e nd)]
  exact e
local macro_rules | `(tactic| walk_at "ca1") => `(tactic| with_reducible (refine' Sg.i_stonew ?ev ?hL ?hb ?hB ?_; (case ev => (with_unfolding_all rfl)); (case hL => (with_unfolding_all walk_at "pr")); (case hb => (with_unfolding_all walk_at "hp")); (case hB => (with_unfolding_all assumption)); intros))
local macro_rules | `(tactic| walk_at "ca1") => `(tactic| with_reducible (refine' Sg.i_filnew ?ev ?_; (case ev => (with_unfolding_all rfl)); intros))
theorem i_row {K : PySem.W.Frag} {args_ : List V} {H : Hp} {Q : V → Hp → Prop} {E : XK} {a : Addr} {ns : List Int} {k : Int} (ev : args_ = [.ref a, .int k]) (hS : SqL K H a (ns.map V.int)) (h63 : ns.length ≤ 63) (k0 : 0 ≤ k) (k1 : k ≤ 1000) (q : ∀ z : Int, 0 ≤ z → Q (.int z) H) : sp_row K args_ H Q E := ⟨a, ns, k, ev, hS, h63, k0, k1, q⟩
local macro_rules | `(tactic| walk_at "ca1") => `(tactic| with_reducible (refine' Sg.i_row ?ev ?hS ?h63 ?k0 ?k1 ?_; (case ev => (with_unfolding_all rfl)); (case hS => (with_unfolding_all walk_at "pr")); (case h63 => (with_unfolding_all walk_at "pr")); (case k0 => (with_unfolding_all walk_at "pr")); (case k1 => (with_unfolding_all walk_at "pr")); intros))

def spLawK (K : PySem.W.Frag) : Sp := fun vs H Q _ => ∃ (a : Addr) (ns : List Int), vs = [.ref a] ∧ Scr K H a ns ∧ ns.length ≤ 63 ∧ ∀ H', Q (.bl true) H'
theorem ok_law (T : Txt K mg) : FnOk P w K mg base CX0 5 T.a_law T.fd_law ["script"] (spLawK K) := by
  refine T.F_law.ok sc_law (fun vs H Q E h => ?_) (fun cdv A outer s H vs Q E hr h => ?_)
  · obtain ⟨a, ns, rfl, _⟩ := h
    rfl
  · refine ⟨_, (pss_cons (ps_set (i := 1) sc_law.nd rfl (Or.inl rfl) (pe_call (ok_law_row T) (hr.mono (by decide)) rfl T.m_law_row T.F_law_row.kp T.b_law_row .nil pass0 (pa_cons (pv 0) (pa_cons pe_int pa_nil))))
       (pss_cons (ps_set (i := 2) sc_law.nd rfl (Or.inl rfl) (pe_call (ok_law_layout T) (hr.mono (by decide)) rfl T.m_law_layout T.F_law_layout.kp T.b_law_layout .nil pass0 (pa_cons (pv 1) pa_nil)))
       (pss_cons (ps_set (i := 3) sc_law.nd rfl (Or.inl rfl) pe_dnewK)
       (pss_cons (ps_set (i := 4) sc_law.nd rfl (Or.inl rfl) pe_dnewK)
       (pss_cons (ps_for PassesOwn.never rfl (pi_range1 rfl T.n_range (pa_cons (pe_op op_mod (pe_op op_fdiv (pe_callTy c_int (by rfl) T.n_int (by decide +kernel) (pa_cons (pv 1) pa_nil)) pe_int) pe_int) pa_nil)) (pg_name (i := 5) sc_law.nd rfl (Or.inl rfl))
       (pss_cons (ps_set (i := 6) sc_law.nd rfl (Or.inl rfl) (pe_op op_add pe_int (pe_op op_mod (pe_op op_fdiv (pe_callTy c_int (by rfl) T.n_int (by decide +kernel) (pa_cons (pv 1) pa_nil)) (pe_op op_add pe_int (pe_op op_mul pe_int (pv 5)))) pe_int)))
       (pss_cons (ps_dput (hu_of hr) (pv 3) (pv 6) (pe_tup (pa_cons pe_int (pa_cons (pe_op op_repT (pe_tup (pa_cons (pv 5) pa_nil)) (pe_fld (pv 2) rfl)) pa_nil))) rfl)
       (pss_one (ps_dput (hu_of hr) (pv 4) (pv 6) pe_bl rfl)))))
       (pss_cons (ps_set (i := 7) sc_law.nd rfl (Or.inl rfl) (pe_make T.M_Store (ok_Store___init T) (hr.mono (by decide)) rfl T.m_Store T.b_Store___init .nil pass0 (pa_cons (pv 2) (pa_cons (pv 3) pa_nil))))
       (pss_cons (ps_set (i := 8) sc_law.nd rfl (Or.inl rfl) (pe_op op_mod (pe_op op_fdiv (pe_callTy c_int (by rfl) T.n_int (by decide +kernel) (pa_cons (pv 1) pa_nil)) pe_int) pe_int))
       (pss_cons (ps_set (i := 9) sc_law.nd rfl (Or.inl rfl) (pe_make T.M_PlainFile (ok_PlainFile___init T) (hr.mono (by decide)) rfl T.m_PlainFile T.b_PlainFile___init .nil pass0 (pa_cons (pv 8) (pa_cons pe_int (pa_cons pe_int pa_nil)))))
       (pss_cons (ps_set (i := 10) sc_law.nd rfl (Or.inl rfl) pe_dnewT)
       (pss_cons (ps_set (i := 11) sc_law.nd rfl (Or.inl rfl) pe_dnewK)
       (pss_cons (ps_set (i := 12) sc_law.nd rfl (Or.inl rfl) (pe_lst (pa_cons (pe_fld (pv 2) rfl) (pa_cons pe_int pa_nil))))
       (pss_cons (ps_for PassesOwn.never rfl (pi_range1 rfl T.n_range (pa_cons pe_int pa_nil)) (pg_name (i := 5) sc_law.nd rfl (Or.inl rfl))
       (pss_cons (ps_set (i := 1) sc_law.nd rfl (Or.inl rfl) (pe_call (ok_law_row T) (hr.mono (by decide)) rfl T.m_law_row T.F_law_row.kp T.b_law_row .nil pass0 (pa_cons (pv 0) (pa_cons (pe_op op_add pe_int (pv 5)) pa_nil))))
       (pss_cons (ps_set (i := 13) sc_law.nd rfl (Or.inl rfl) (pe_call (ok_law_number T) (hr.mono (by decide)) rfl T.m_law_number T.F_law_number.kp T.b_law_number .nil pass0 (pa_cons (pv 1) (pa_cons (pe_fld (pv 2) rfl) (pa_cons (pv 11) pa_nil)))))
       (pss_cons (ps_set (i := 14) sc_law.nd rfl (Or.inl rfl) (pe_call (ok_law_octets T) (hr.mono (by decide)) rfl T.m_law_octets T.F_law_octets.kp T.b_law_octets .nil pass0 (pa_cons (pe_op op_fdiv (pe_callTy c_int (by rfl) T.n_int (by decide +kernel) (pa_cons (pv 1) pa_nil)) pe_int) (pa_cons (pe_fld (pv 2) rfl) pa_nil))))
       (pss_cons (ps_set (i := 15) sc_law.nd rfl (Or.inl rfl) (pe_callTy c_list (by rfl) T.n_list (by decide +kernel) (pa_cons (pv 14) pa_nil)))
       (C8.pss_cut (ps_if (pt_cmpR op_eq (pe_op op_mod (pv 5) pe_int) pe_int (nomark _))
       (pss_one (ps_expr (pe_call (ok_set_block T) (hr.mono (by decide)) rfl T.m_set_block T.F_set_block.kp T.b_set_block .nil pass0 (pa_cons (pv 7) (pa_cons (pv 9) (pa_cons (pv 13) (pa_cons (pe_callTy c_tuple (by rfl) T.n_tuple (by decide +kernel) (pa_cons (pv 14) pa_nil)) pa_nil)))))))
       (pss_one (ps_expr (pe_call (ok_set_block T) (hr.mono (by decide)) rfl T.m_set_block T.F_set_block.kp T.b_set_block .nil pass0 (pa_cons (pv 7) (pa_cons (pv 9) (pa_cons (pv 13) (pa_cons (pv 15) pa_nil))))))))
       (pss_cons (ps_if (pt_cmpR (op_neD hr.units) (pv 15) (pv 14) (nomark _))
       (pss_one (ps_ret pe_bl))
       pss_nil)
       (pss_cons (ps_asg (pe_op op_add (pe_ix ix_list (pv 15) pe_int (fun _ _ => rfl)) pe_int) (pg_sub (pv 15) pe_int set_list))
       (pss_cons (ps_expr (pe_call (ok_law_set T) (hr.mono (by decide)) rfl T.m_law_set T.F_law_set.kp T.b_law_set .nil pass0 (pa_cons (pv 10) (pa_cons (pv 4) (pa_cons (pv 11) (pa_cons (pv 12) (pa_cons (pv 13) (pa_cons (pv 14) pa_nil))))))))
       (C8.pss_cut (ps_if (PW.pt (pw_or (pt_not (pt_val (pe_call (ok_law_same T) (hr.mono (by decide)) rfl T.m_law_same T.F_law_same.kp T.b_law_same .nil pass0 (pa_cons (pv 7) (pa_cons (pv 9) (pa_cons (pv 10) (pa_cons (pv 4) (pa_cons (pv 11) (pa_cons (pv 12) pa_nil))))))))) (pw_or1 (pt_cmpR op_ne (pe_fld (pv 9) rfl) (pv 8) (nomark _)))))
       (pss_one (ps_ret pe_bl))
       pss_nil)
       (pss_one (ps_lock (ps_for PassesOwn.never rfl (pi_keys (pv 3)) (pg_name (i := 6) sc_law.nd rfl (Or.inl rfl))
       (pss_one (ps_if (pt_cmpR (op_neD hr.units) (pe_meth (pv 7) T.cl_Store T.me_Store_get (ok_Store_get T) (hr.mono (by decide)) T.b_Store_get .nil pass0 (pa_cons (pv 6) pa_nil)) (pe_dget (hu_of hr) (pv 3) (pv 6) (fun _ _ => rfl)) (nomark _))
       (pss_one (ps_ret pe_bl))
       pss_nil)))))))))))))))
       (pss_one (ps_ret pe_bl)))))))))))))), ?_⟩
    try dsimp only [cxOf, Cx.nox, Cx.wish]
    obtain ⟨a, sc, rfl, hS, h63, q⟩ := h
    have hS0 : SqL K H a (sc.map V.int) := hS _ (Keeps.refl _)
    have cl := T.cl_Layout
    have na1 := T.na_Layout_fan
    have na2 := T.na_Layout_block_size
    have cf := T.cl_PlainFile
    have nf1 := T.na_PlainFile_size
    walk_at "go"
    rename_i nu nu0 L H1 p hC s1 np hL cf' ncf H2 s2 g2 cu ncu H3 s3 g3 nk hnk nk0 nk1
    obtain ⟨dx, fs, hp, F⟩ := id hL
    have lk1 := F.fan
    have lk2 := F.size
    obtain ⟨c, ec⟩ : ∃ c : Nat, L.fan = (c : Int) := ⟨L.fan.toNat, by have := hC.f0; omega⟩
    have k3 := hC.f0
    have k4 := hC.f1
    have k9 := hC.z0
    have k10 := hC.z1
    have nfu : cf' ≠ cu := fun z => by rw [← z, g2] at ncu; cases ncu
    have ncu1 : H1 cu = none := s2.free ncu
    have g2' := s3 _ _ g2
    have s13 := s2.trans s3
    clear g2 s2 s3 ncu
    refine r_forR (fun i σ' H' => ∃ (v5 v6 : Option V) (kvf kvu : List (Key × V)) (ks : List Int) (F' : Int → Option Pay), σ' = [some (.ref a), some (.int nu), some (.ref p), some (.ref cf'), some (.ref cu), v5, v6, none, none, none, none, none, none, none, none, none] ∧ Same H1 H' ∧ H' cf' = some (.dK kvf) ∧ H' cu = some (.dK kvu) ∧ DkB K H' kvf ks F' ∧ Dk kvu ks ∧ ks.length ≤ i ∧ ∀ k ∈ ks, 1 ≤ k) ?_ ?_ ?_
    · exact ⟨_, _, [], [], [], fun _ => none, rfl, s13, g2', g3, ⟨Dk.nil, fun _ _ => rfl, fun _ h => nomatch h⟩, Dk.nil, Nat.le_refl _, fun _ h => nomatch h⟩
    · clear g2' g3 s13
      rintro i σ' H' hi ⟨v5, v6, kvf, kvu, ks, F', rfl, s4, gf, gu, hF, hU, hl, hp1⟩
      have hi4 : i < 5 := by omega
      have hp4 := s4 _ _ hp
      have hfl := hF.dk.len
      have hul := hU.len
      walk_at "go"
      rename_i x hx x0 x1 p1 n1 H5 s5 g5
      refine ⟨_, _, _, rfl, rfl, .of g5, by simp, by omega, by omega, by simp, ?_⟩
      walk_at "al"
      walk_at "go"
      rename_i p6 n6 H6 s6 g6 p7 n7 H7 s7 g7 H8 e8 g8
      rw [rep_ints] at g6
      have s57 : Same H' H7 := s5.trans (s6.trans s7)
      have gu8 : H8 cu = some (.dK kvu) := by rw [← e8, upd_ne nfu.symm]; exact s57 _ _ gu
      refine r_kdp3 gu8 (by omega) ?_
      generalize e9 : upd _ _ _ = H9
      have k8 : Keeps H7 H8 := Keeps.upd (s57 _ _ gf) (fun z => z) e8
      have k9' : Keeps H8 H9 := Keeps.upd gu8 (fun z => z) e9
      have hv : PayAt K H7 (.ref p7) (3, List.replicate L.size.toNat (0 + (i : Int))) := ⟨p7, p6, rfl, .of g7, .of (s7 _ _ g6)⟩
      refine ⟨_, _, _, _, addK ks (1 + x), upB F' (1 + x) (3, List.replicate L.size.toNat (0 + (i : Int))), rfl, Sg.Same.old (Sg.Same.old (s4.trans s57) ncf e8) ncu1 e9, by rw [← e9, upd_ne nfu]; exact g8, Sg.at_new e9, ((hF.keeps (Keeps.of s57)).put hv).keeps (k8.trans k9'), hU.put _ _, ?_, fun k hk => ?_⟩
      · unfold addK
        split
        · omega
        · simp only [List.length_append, List.length_cons, List.length_nil]; omega
      · rcases mem_addK.mp hk with w | w
        · exact hp1 k w
        · omega
    · clear g2' g3 s13
      rintro σ' H' ⟨v5, v6, kvf, kvu, ksF, F', rfl, s4, gf, gu, hF, hU, hl, hp1⟩
      have hl5 : ksF.length ≤ 5 := by omega
      have hL4 : LayAt T.A_Layout L H' p := hL.mono s4
      have hp4 := s4 _ _ hp
      walk_at "go"
      rename_i st d H5 sA nst nd hSW z hz z0 z1 f H6 sB nf hFl pc nc H7 sC gc pd' npd H8 sD gd pt nt H9 sE gt
      have k0 : Keeps H H' := Keeps.of (s1.trans s4)
      have s69 := sC.trans (sD.trans sE)
      have hT : TW K T.A_Store T.A_Layout T.A_PlainFile H9 st d p f L ksF F' z ((0 : Nat) : Int) 0 := by
        obtain ⟨lc, ⟨dxs, fss, hs, _⟩, _⟩ := id hSW.sto
        obtain ⟨_, _, hl, _⟩ := id hSW.hl
        exact TW.mono s69 ⟨hSW.mono sB, hFl, (ne_of_none hs nf).symm, (ne_of_none hl nf).symm⟩
      obtain ⟨kvd0, gd0, _⟩ := id hSW.blk
      have s69' : Same H' H9 := sA.trans (sB.trans s69)
      have dcu : d ≠ cu := fun w => by rw [w, gu] at nd; cases nd
      have dcf : d ≠ cf' := fun w => by rw [w, gf] at nd; cases nd
      have dpd : d ≠ pd' := ne_of_none ((sB.trans sC) _ _ gd0) npd
      have upd'' : cu ≠ pd' := ne_of_none ((sA.trans (sB.trans sC)) _ _ gu) npd
      have fpd : cf' ≠ pd' := ne_of_none ((sA.trans (sB.trans sC)) _ _ gf) npd
      have hLF : LF K T.A_Store T.A_Layout T.A_PlainFile H9 st d p f cf' pc cu pd' pt L c 0 z 0 ksF ksF F' F' (fun _ _ => 0) (fun _ => []) [] kvu [] kvf :=
        ⟨hT, (sD.trans sE) _ _ gc, s69' _ _ gu, sE _ _ gd, by rw [gt, ec]; rfl, s69' _ _ gf, ⟨⟨[], Dk.nil, fun m => by simp, fun _ h => nomatch h⟩, fun m h => absurd rfl h⟩, hF.keeps (Keeps.of s69')⟩
      have hLP : LP c 0 0 ksF ksF F' F' (fun _ _ => 0) (fun _ => []) [] kvu [] 0 :=
        ⟨⟨rfl, fun _ _ h => absurd rfl h, fun _ _ h => absurd rfl h, fun _ _ _ _ h => absurd rfl h, fun _ _ _ h => absurd rfl h, fun _ _ h => absurd rfl h, fun _ h => absurd rfl h, fun _ _ h => absurd rfl h, fun _ _ => rfl⟩, CT.nil, hU, fun w => by have := hp1 0 w; omega, ⟨fun _ _ h => absurd rfl h, fun _ h => h⟩, by simp, by omega, by simp, by omega, by rw [Nat.pow_zero]; decide⟩
      have k9 : Keeps H H9 := k0.trans (Keeps.of s69')
      rw [ec] at lk1
      clear hS0 s1 np hL hp s4 gf gu hF hU hl hp1 hL4 hp4 sA sB sC sD sE nst nd hSW hFl gc gd gt nc npd nt s69 s69' hT gd0 k0 nf ncf ncu1
      refine r_forR (fun i σ' H' => ∃ (v1 v5 v6 v13 v14 v15 : Option V) (h : Nat) (rt : Int) (ks : List Int) (B : Int → Option Pay) (C : Nat → Nat → Int) (Dt : Nat → List Int) (kvs : List (List Key × V)) (kvu kvd : List (Key × V)), σ' = [some (.ref a), v1, some (.ref p), some (.ref cf'), some (.ref cu), v5, v6, some (.ref st), some (.int z), some (.ref f), some (.ref pc), some (.ref pd'), some (.ref pt), v13, v14, v15] ∧ Keeps H H' ∧ LF K T.A_Store T.A_Layout T.A_PlainFile H' st d p f cf' pc cu pd' pt L c h z rt ks ksF B F' C Dt kvs kvu kvd kvf ∧ LP c h rt ks ksF B F' C Dt kvs kvu kvd i) ?_ ?_ ?_
      · exact ⟨_, _, _, _, _, _, _, _, _, _, _, _, _, _, _, rfl, k9, hLF, hLP⟩
      · clear hLF hLP k9
        rintro i σ' H' hi ⟨v1, v5, v6, v13, v14, v15, h, rt, ks, B, C, Dt, kvs, kvu, kvd, rfl, kp, x, y⟩
        have hi14 : i < 14 := hi
        have hS' := hS _ kp
        obtain ⟨dx1, fs1, hp', F1⟩ := id x.tw.sw.hl
        have lf1 := F1.fan
        have lf2 := F1.size
        rw [ec] at lf1
        obtain ⟨ns, hns, _, _⟩ := x.dat.keys
        have hxd := x.hd
        have nl : ns.length ≤ 60 := by have := hns.len; have := y.l3; omega
        have c0 : 2 ≤ c := by omega
        have c1 : c ≤ 128 := by omega
        walk_at "go"
        rename_i w w0 H1 n hn sN H2 lo oc sO nlo gO lO bO lp nlp H3 sP gP
        have s13 : Same H' H3 := sN.trans (sO.trans sP)
        have x3 := x.mono s13
        have hW3 := x3.tw
        have hwf := y.tr.wfr
        have gO3 := sP _ _ gO
        have yl2 := y.l2
        have yh1 := y.h1
        have yhm := y.hm
        have hks7 : ks.length ≤ 700 := by omega
        refine r_cut (fun σ' Hx => σ' = [some (.ref a), some (.int w), some (.ref p), some (.ref cf'), some (.ref cu), some (.int (0 + (i : Int))), v6, some (.ref st), some (.int z), some (.ref f), some (.ref pc), some (.ref pd'), some (.ref pt), some (.int (n : Nat)), some (.ref lo), some (.ref lp)] ∧ ∃ g : Nat, IsH (c : Int) (n : Int) g ∧ Ex [st, d, f] H3 Hx ∧ TW K T.A_Store T.A_Layout T.A_PlainFile Hx st d p f L (setB c (h + (g - h)) n oc (raiseB c (g - h) (B, ks, rt))).2.1 (setB c (h + (g - h)) n oc (raiseB c (g - h) (B, ks, rt))).1 z ((h + (g - h) : Nat) : Int) (setB c (h + (g - h)) n oc (raiseB c (g - h) (B, ks, rt))).2.2) ?_ ?_
        · walk_at "go"
          refine r_ite (fun _ => ?_) (fun _ => ?_)
          · walk_at "go"
            rename_i pt' npt H4 s4 g4
            refine i_set_block rfl (hW3.mono s4) ec c0 (by omega) (by omega) yhm hwf hn (.inr (.of g4)) hks7 (fun g hg Hx ex hx => ?_)
            walk_at "go"
            exact ⟨rfl, g, hg, (Ex.of s4).trans ex, hx⟩
          · walk_at "go"
            refine i_set_block rfl hW3 ec c0 (by omega) (by omega) yhm hwf hn (.inl (.of gP)) hks7 (fun g hg Hx ex hx => ?_)
            walk_at "go"
            exact ⟨rfl, g, hg, ex, hx⟩
        rintro _ H4 ⟨rfl, g, hg, e34, hW4⟩
        obtain ⟨kg1, kg2, kg3⟩ := hg.pw c0 hn (by omega)
        have gO4 := e34 _ _ (hW3.nin gO3 trivial) gO3
        have gP4 := e34 _ _ (hW3.nin gP trivial) gP
        have k34 := hW3.keeps e34
        obtain ⟨Y, hY⟩ : ∃ Y, Y = setB c (h + (g - h)) n oc (raiseB c (g - h) (B, ks, rt)) := ⟨_, rfl⟩
        rw [← hY] at hW4
        walk_at "go"
        refine r_neI (.of gP4) (.of gO4) ?_
        walk_at "go"
        obtain ⟨o1, oc', rfl⟩ : ∃ o1 oc', oc = o1 :: oc' := by
          cases oc with
          | nil => simp at lO; omega
          | cons o1 oc' => exact ⟨o1, oc', rfl⟩
        refine r_ixl (.of gP4) (v := .int o1) (atI_nat (j := 0) rfl) ?_
        walk_at "go"
        refine r_setl gP4 (ixN_ok (by decide) (by rw [List.length_map, List.length_cons]; omega)) ?_
        generalize e5 : upd _ _ _ = H5
        have nlp' : H' lp = none := (sN.trans sO).free nlp
        have nlo' : H' lo = none := sN.free nlo
        have nop : lo ≠ lp := ne_of_none gO nlp
        have nto : lo ≠ pt := (ne_of_none x.ht nlo').symm
        have eE : Ex [st, d, f] H' H5 := fun b u nb hb => by
          rw [← e5, upd_ne (ne_of_none hb nlp')]
          exact e34 b u nb (s13 b u hb)
        have gO5 : H5 lo = some (.lst ((o1 :: oc').map V.int)) := by rw [← e5, upd_ne nop]; exact gO4
        obtain ⟨u1, _, u2⟩ := x.tw.objs x.hu (fun _ _ _ z => by cases z)
        obtain ⟨u3, _, u4⟩ := x.tw.objs x.hd (fun _ _ _ z => by cases z)
        obtain ⟨u5, _, u6⟩ := x.tw.objs x.hf (fun _ _ _ z => by cases z)
        have hu5 := eE _ _ (by simp only [List.mem_cons, List.not_mem_nil, or_false, not_or]; exact ⟨u1.symm, dcu.symm, u2.symm⟩) x.hu
        have hd5 := eE _ _ (by simp only [List.mem_cons, List.not_mem_nil, or_false, not_or]; exact ⟨u3.symm, dpd.symm, u4.symm⟩) x.hd
        have hf5 := eE _ _ (by simp only [List.mem_cons, List.not_mem_nil, or_false, not_or]; exact ⟨u5.symm, dcf.symm, u6.symm⟩) x.hf
        have hc5 := eE _ _ (x.tw.nin x.hc trivial) x.hc
        have ht5 := eE _ _ (x.tw.nin x.ht trivial) x.ht
        have hD5 := x.dat.ex eE (fun b xs hb _ => x.tw.nin hb trivial)
        have k45 : Keeps H4 H5 := Keeps.upd gP4 nf_lst e5
        have kE : Keeps H' H5 := (Keeps.of s13).trans (k34.trans k45)
        obtain ⟨w1, w2, w3⟩ := hW4.objs gP4 (fun _ _ _ z => by cases z)
        have w4 : d ≠ lp := by
          obtain ⟨kv4, hd4, _⟩ := hW4.sw.blk
          exact ne_of hd4 gP4 (by intro z; cases z)
        have hW5 := hW4.other (X := [lp]) (by simpa using w1) (by simpa using w4) (by simpa using w2) (by simpa using w3) k45 (Ex.put (by simp) e5)
        have yct := y.ct
        have ydk := y.dk
        have yl1 := y.l1
        have yl3 := y.l3
        have hl1 : kvs.length ≤ 600 := by omega
        have hl2 : ks.length ≤ 600 := by omega
        have hl3 : kvd.length ≤ 600 := by omega
        have hh5 : h ≤ 50 := by omega
        have hc1' : c ≤ 1000 := by omega
        clear e34 gO3 gP gP4 gO4 gO x3 hW3 hW4 s13 sN sO sP nlo nlp bO
        walk_at "go"
        rename_i g' hg' H6 kvs6 kvu6 kvd6 X hX e56 gc6 gu6 gd6 gt6 hC6 hU6 hD6 a6 b6
        have eg : g' = g := hg'.eq hg
        subst eg
        have hiff : kvd.length = 0 ↔ rt = 0 := by
          have hnl := hns.len
          constructor
          · intro e
            refine Decidable.byContradiction fun hr => ?_
            rw [y.tr.root] at hr
            obtain ⟨m, hm⟩ := y.tr.low _ _ hr
            have hmem := (by assumption : ∀ m : Nat, (m : Int) ∈ ns ↔ C 0 m ≠ 0) m |>.mpr hm
            rw [List.length_eq_zero_iff.mp (show ns.length = 0 by omega)] at hmem
            cases hmem
          · intro e
            have t0 := y.tr
            rw [e] at t0
            have z0' := t0.raise0.1
            cases ens : ns with
            | nil => rw [hnl, ens]; rfl
            | cons k r =>
              have hk : k ∈ ns := by rw [ens]; simp
              have k0 := (by assumption : ∀ x : Int, x ∈ ns → 0 ≤ x) k hk
              have := (by assumption : ∀ m : Nat, (m : Int) ∈ ns ↔ C 0 m ≠ 0) k.toNat |>.mp (by rw [Int.toNat_of_nonneg k0]; exact hk)
              exact absurd (z0' 0 _) this
        have hX' : X = pathC c n (h + (g' - h) + 1) 0 (if rt = 0 then (C, ks) else raiseC (g' - h) h (C, ks)) := by
          rw [hX]
          by_cases e : rt = 0
          · rw [if_pos (hiff.mpr e), if_pos e]
          · rw [if_neg (fun z => e (hiff.mp z)), if_neg e]
        have hm6 : n < c ^ (h + (g' - h)) ∧ c ^ (h + (g' - h)) < 1073741824 := by
          rcases Nat.le_total g' h with v | v
          · rw [show h + (g' - h) = h by omega]
            exact ⟨Nat.lt_of_lt_of_le kg1 (Nat.pow_le_pow_right (by omega) v), yhm⟩
          · rw [show h + (g' - h) = g' by omega]
            exact ⟨kg1, kg2⟩
        obtain ⟨t6, e6, z6⟩ := y.tr.whole c0 y.zero hm6.1 (o1 :: oc') hY hX'
        have hsep : Sep ksF X := by
          rw [hX']
          refine Sep.path _ _ _ ?_
          split
          · exact y.sep
          · exact Sep.raise _ _ _ y.sep
        have hXl : X.2.length ≤ ks.length + 43 := by
          rw [hX']
          refine Nat.le_trans (pathC_len _ _ _) ?_
          split
          · dsimp only; omega
          · rw [raiseC_len]; dsimp only; omega
        obtain ⟨B6, ks6, rt6⟩ := Y
        dsimp only at hW5 t6 e6 z6
        clear hX hX' hY hiff
        have hg21 : h + (g' - h) ≤ 21 := by omega
        generalize h + (g' - h) = h6 at hW5 t6 hm6 gt6 hg21 a6
        obtain ⟨C6, ksX⟩ := X
        dsimp only at t6 e6 hC6 hU6 hD6 hsep hXl
        subst e6
        have q1 : pc ≠ cu := ne_of hc5 hu5 (by intro z; cases z)
        have q2 : pc ≠ pd' := ne_of hc5 hd5 (by intro z; cases z)
        have q3 : pt ≠ cu := ne_of ht5 hu5 (by intro z; cases z)
        have q4 : pt ≠ pd' := ne_of ht5 hd5 (by intro z; cases z)
        have q5 : pt ≠ cf' := ne_of ht5 hf5 (by intro z; cases z)
        have q6 : pc ≠ cf' := ne_of hc5 hf5 (by intro z; cases z)
        have k56 : Keeps H5 H6 := fun b o hf hb => e56 b o (by
          simp only [List.mem_cons, List.not_mem_nil, or_false, not_or]
          exact ⟨ne_of hb hc5 (by rintro rfl; exact hf), ne_of hb hu5 (by rintro rfl; exact hf), ne_of hb hd5 (by rintro rfl; exact hf), ne_of hb ht5 (by rintro rfl; exact hf)⟩) hb
        obtain ⟨v1', v2', v3'⟩ := hW5.objs hc5 (fun _ _ _ z => by cases z)
        obtain ⟨v4', v5', v6'⟩ := hW5.objs hu5 (fun _ _ _ z => by cases z)
        obtain ⟨v7', v8', v9'⟩ := hW5.objs hd5 (fun _ _ _ z => by cases z)
        obtain ⟨va', vb', vc'⟩ := hW5.objs ht5 (fun _ _ _ z => by cases z)
        have d1 : d ≠ pc ∧ d ≠ pt := by
          obtain ⟨kv4, hd4, _⟩ := hW5.sw.blk
          exact ⟨ne_of hd4 hc5 (by intro z; cases z), ne_of hd4 ht5 (by intro z; cases z)⟩
        have hW6 := hW5.other (X := [pc, cu, pd', pt]) (by simp only [List.mem_cons, List.not_mem_nil, or_false, not_or]; exact ⟨v1', v4', v7', va'⟩) (by simp only [List.mem_cons, List.not_mem_nil, or_false, not_or]; exact ⟨d1.1, dcu, dpd, d1.2⟩) (by simp only [List.mem_cons, List.not_mem_nil, or_false, not_or]; exact ⟨v2', v5', v8', vb'⟩) (by simp only [List.mem_cons, List.not_mem_nil, or_false, not_or]; exact ⟨v3', v6', v9', vc'⟩) k56 e56
        have hf6 := e56 _ _ (by simp only [List.mem_cons, List.not_mem_nil, or_false, not_or]; exact ⟨q6.symm, nfu, fpd, q5.symm⟩) hf5
        have k06 : Keeps H' H6 := kE.trans k56
        have x6 : LF K T.A_Store T.A_Layout T.A_PlainFile H6 st d p f cf' pc cu pd' pt L c h6 z rt6 ks6 ksF B6 F' C6 (upD Dt n (o1 :: oc')) kvs6 kvu6 kvd6 kvf := ⟨hW6, gc6, gu6, gd6, gt6, hf6, hD6, x.frn.keeps k06⟩
        have y6 : LP c h6 rt6 ks6 ksF B6 F' C6 (upD Dt n (o1 :: oc')) kvs6 kvu6 kvd6 (i + 1) := ⟨t6, hC6, hU6, z6, hsep, by omega, by omega, by omega, hg21, hm6.2⟩
        have kp6 := kp.trans k06
        clear k06 kE k45 k34 hW5 hf5 hd5 hu5 hc5 ht5 hD5 gO5 e56 eE x y k56 yct ydk hwf
        have hkk : ks6.length = ks6.length := rfl
        obtain ⟨dxf, fsf, hff, Ff⟩ := id hW6.fl
        have lkf := Ff.size
        refine r_cutH ?_ ?_
        · walk_at "go"
          exact ⟨rfl, by assumption⟩
        intro H7 s7
        have x7 := x6.mono s7
        have kp7 := kp6.trans (Keeps.of s7)
        have hf7 := x7.hf
        have hfr := x7.frn
        walk_at "go"
        refine ⟨cf', .dK kvf, hf7, trivial, fun od => ?_⟩
        generalize e8 : upd H7 cf' _ = H8
        have hf8 := at_new e8
        have k78 : Keeps H7 H8 := Keeps.upd hf7 (fun z => z) e8
        obtain ⟨j1, j2, j3⟩ := x7.tw.objs hf7 (fun _ _ _ z => by cases z)
        have hSW8 := x7.tw.sw.other (X := [cf']) (by simpa using j1) (by simpa using dcf) (by simpa using j2) k78 (Ex.put (by simp) e8)
        obtain ⟨lc8, ⟨dxs8, fss8, hs8, Fs8⟩, _⟩ := id hSW8.sto
        have ln8 := Fs8.n1
        walk_at "go"
        refine r_forKeys (fun j σ' H' => ∃ v6 : Option V, σ' = [some (.ref a), some (.int w), some (.ref p), some (.ref cf'), some (.ref cu), some (.int (0 + (i : Int))), v6, some (.ref st), some (.int z), some (.ref f), some (.ref pc), some (.ref pd'), some (.ref pt), some (.int (n : Nat)), some (.ref lo), some (.ref lp)] ∧ H8 = H') ⟨_, rfl, rfl⟩ (fun _ _ H' _ ⟨_, _, e⟩ => e ▸ hf8) ?_ ?_
        · rintro j k v σ' H' hj ⟨v6, rfl, rfl⟩
          obtain ⟨id', hi', rfl, hv⟩ := hfr.dk.val hj
          have hmem := List.mem_of_getElem? hi'
          obtain ⟨v', p', e1, e2, hpay⟩ := hfr.yes id' hmem
          rw [hv] at e1
          cases e1
          have hB : B6 id' = some p' := by
            rw [← e2]
            refine y6.tr.frn id' fun l i' e => Decidable.byContradiction fun hz => ?_
            exact y6.sep.1 l i' (by show C6 l i' ≠ 0; rw [e]; exact hz) (by show C6 l i' ∈ ksF; rw [e]; exact hmem)
          show gName 6 (.int id') _ _ _
          walk_at "go"
          rename_i t b ht hb
          refine r_kdg2R (.inr ⟨od, hf8⟩) hv ?_
          refine r_nePay ⟨t, b, rfl, ht, hb⟩ (hpay.keeps k78) ?_
          walk_at "go"
          exact ⟨_, rfl, rfl⟩
        · rintro σ' H' ⟨v6, rfl, rfl⟩
          refine ⟨hf8, ?_⟩
          have e9 : upd H8 cf' (.dK kvf) = H7 := by
            rw [← e8]
            funext b
            by_cases hb : b = cf'
            · rw [hb, upd_same, hf7]
            · rw [upd_ne hb, upd_ne hb]
          rw [e9]
          exact ⟨_, _, _, _, _, _, _, _, _, _, _, _, _, _, _, rfl, kp7, x7, y6⟩
      · rintro σ' H' ⟨v1, v5, v6, v13, v14, v15, h, rt, ks, B, C, Dt, kvs, kvu, kvd, rfl, kp, x, y⟩
        walk_at "go"
        exact q _
end
theorem all_mk {l : PySem.W.OpenLaw} {w : World} {K : PySem.W.Frag} {h : Heap} {mg : Str → Option Value} {fa C_Layout C_PlainFile C_Store f_least_height f_span_of f_block_id f_set_block f_raise_tree f_way_to f_put_new f_index_of f_set_item f_Layout___init f_parts_of f_PlainFile___init f_Store___init f_Store_get f_Store_put f_Store_new_id f_Store_block_count f_law_row f_law_is_integer f_law_layout f_law_power f_law_height f_law_take f_law_set f_law_payload f_law_same f_law_number f_law_octets f_law k_BLOCK_SIZES dT_PlainFile___init p_Store_block_count : Addr} (X : K.In h) (G : h.Ns mainGlobals mg) (hfa : mg "law" = some (.ref fa))
    {od_least_height an_least_height od_span_of an_span_of od_block_id an_block_id od_set_block an_set_block od_raise_tree an_raise_tree od_way_to an_way_to od_put_new an_put_new od_index_of an_index_of od_set_item an_set_item od_Layout___init an_Layout___init od_parts_of an_parts_of od_PlainFile___init an_PlainFile___init od_Store___init an_Store___init od_Store_get an_Store_get od_Store_put an_Store_put od_Store_new_id an_Store_new_id od_Store_block_count an_Store_block_count od_law_row an_law_row od_law_is_integer an_law_is_integer od_law_layout an_law_layout od_law_power an_law_power od_law_height an_law_height od_law_take an_law_take od_law_set an_law_set od_law_payload an_law_payload od_law_same an_law_same od_law_number an_law_number od_law_octets an_law_octets od_law an_law : Option Addr} {sl_least_height sl_span_of sl_block_id sl_set_block sl_raise_tree sl_way_to sl_put_new sl_index_of sl_set_item sl_Layout___init sl_parts_of sl_PlainFile___init sl_Store___init sl_Store_get sl_Store_put sl_Store_new_id sl_Store_block_count sl_law_row sl_law_is_integer sl_law_layout sl_law_power sl_law_height sl_law_take sl_law_set sl_law_payload sl_law_same sl_law_number sl_law_octets sl_law : Array (Option Value)} {oc_least_height kV_least_height dc_least_height pm_least_height cd_least_height ct_least_height oc_span_of kV_span_of dc_span_of pm_span_of cd_span_of ct_span_of oc_block_id kV_block_id dc_block_id pm_block_id cd_block_id ct_block_id oc_set_block kV_set_block dc_set_block pm_set_block cd_set_block ct_set_block oc_raise_tree kV_raise_tree dc_raise_tree pm_raise_tree cd_raise_tree ct_raise_tree oc_way_to kV_way_to dc_way_to pm_way_to cd_way_to ct_way_to oc_put_new kV_put_new dc_put_new pm_put_new cd_put_new ct_put_new oc_index_of kV_index_of dc_index_of pm_index_of cd_index_of ct_index_of oc_set_item kV_set_item dc_set_item pm_set_item cd_set_item ct_set_item oc_Layout___init kV_Layout___init dc_Layout___init pm_Layout___init cd_Layout___init ct_Layout___init oc_parts_of kV_parts_of dc_parts_of pm_parts_of cd_parts_of ct_parts_of oc_PlainFile___init kV_PlainFile___init dc_PlainFile___init pm_PlainFile___init cd_PlainFile___init ct_PlainFile___init oc_Store___init kV_Store___init dc_Store___init pm_Store___init cd_Store___init ct_Store___init oc_Store_get kV_Store_get dc_Store_get pm_Store_get cd_Store_get ct_Store_get oc_Store_put kV_Store_put dc_Store_put pm_Store_put cd_Store_put ct_Store_put oc_Store_new_id kV_Store_new_id dc_Store_new_id pm_Store_new_id cd_Store_new_id ct_Store_new_id oc_Store_block_count kV_Store_block_count dc_Store_block_count pm_Store_block_count cd_Store_block_count ct_Store_block_count oc_law_row kV_law_row dc_law_row pm_law_row cd_law_row ct_law_row oc_law_is_integer kV_law_is_integer dc_law_is_integer pm_law_is_integer cd_law_is_integer ct_law_is_integer oc_law_layout kV_law_layout dc_law_layout pm_law_layout cd_law_layout ct_law_layout oc_law_power kV_law_power dc_law_power pm_law_power cd_law_power ct_law_power oc_law_height kV_law_height dc_law_height pm_law_height cd_law_height ct_law_height oc_law_take kV_law_take dc_law_take pm_law_take cd_law_take ct_law_take oc_law_set kV_law_set dc_law_set pm_law_set cd_law_set ct_law_set oc_law_payload kV_law_payload dc_law_payload pm_law_payload cd_law_payload ct_law_payload oc_law_same kV_law_same dc_law_same pm_law_same cd_law_same ct_law_same oc_law_number kV_law_number dc_law_number pm_law_number cd_law_number ct_law_number oc_law_octets kV_law_octets dc_law_octets pm_law_octets cd_law_octets ct_law_octets oc_law kV_law dc_law pm_law cd_law ct_law : Value}
    {dd_PlainFile___init : Option Addr} {dn_PlainFile___init : Nat} {dsl_PlainFile___init : Array (Option Value)}
    {pR_Store_block_count : List Value}
    {t_DATA t_NODE t_SUMMARY_HEAD yt_BLOCK_SIZES_0 yt_BLOCK_SIZES_1 yt_BLOCK_SIZES_2 dtok_PlainFile___init_0 dtok_PlainFile___init_1 dtok_PlainFile___init_2 : Tok}
    {yd_BLOCK_SIZES : Option Addr} {yn_BLOCK_SIZES : Nat} {ys_BLOCK_SIZES : Array (Option Value)}
    (mC_Layout : PySem.W.nsIn K mainGlobals "Layout" = some (some (.ref C_Layout)))
    (pg_Layout : PySem.W.plainGet K C_Layout Str.empty = true)
    (hd_Layout : PySem.W.hasDictIn K C_Layout = true)
    (po_Layout : PySem.W.plainOver K C_Layout = true)
    (sa_Layout : PySem.W.findIn K (.ref C_Layout) "__setattr__" = some (some (.builtin "object.__setattr__")))
    (mk_Layout : PySem.W.makesIn K C_Layout = true)
    (kc_Layout : PySem.W.keepIn K (.ref C_Layout) = true)
    (na_Layout_segments : PySem.W.findIn K (.ref C_Layout) "segments" = some none)
    (na_Layout_segment_blocks : PySem.W.findIn K (.ref C_Layout) "segment_blocks" = some none)
    (na_Layout_block_size : PySem.W.findIn K (.ref C_Layout) "block_size" = some none)
    (na_Layout_payload : PySem.W.findIn K (.ref C_Layout) "payload" = some none)
    (na_Layout_limit : PySem.W.findIn K (.ref C_Layout) "limit" = some none)
    (na_Layout_last_id : PySem.W.findIn K (.ref C_Layout) "last_id" = some none)
    (na_Layout_fan : PySem.W.findIn K (.ref C_Layout) "fan" = some none)
    (na_Layout_region_blocks : PySem.W.findIn K (.ref C_Layout) "region_blocks" = some none)
    (na_Layout_device_blocks : PySem.W.findIn K (.ref C_Layout) "device_blocks" = some none)
    (mC_PlainFile : PySem.W.nsIn K mainGlobals "PlainFile" = some (some (.ref C_PlainFile)))
    (pg_PlainFile : PySem.W.plainGet K C_PlainFile Str.empty = true)
    (hd_PlainFile : PySem.W.hasDictIn K C_PlainFile = true)
    (po_PlainFile : PySem.W.plainOver K C_PlainFile = true)
    (sa_PlainFile : PySem.W.findIn K (.ref C_PlainFile) "__setattr__" = some (some (.builtin "object.__setattr__")))
    (mk_PlainFile : PySem.W.makesIn K C_PlainFile = true)
    (kc_PlainFile : PySem.W.keepIn K (.ref C_PlainFile) = true)
    (na_PlainFile_size : PySem.W.findIn K (.ref C_PlainFile) "size" = some none)
    (na_PlainFile_height : PySem.W.findIn K (.ref C_PlainFile) "height" = some none)
    (na_PlainFile_root : PySem.W.findIn K (.ref C_PlainFile) "root" = some none)
    (mC_Store : PySem.W.nsIn K mainGlobals "Store" = some (some (.ref C_Store)))
    (pg_Store : PySem.W.plainGet K C_Store Str.empty = true)
    (hd_Store : PySem.W.hasDictIn K C_Store = true)
    (po_Store : PySem.W.plainOver K C_Store = true)
    (sa_Store : PySem.W.findIn K (.ref C_Store) "__setattr__" = some (some (.builtin "object.__setattr__")))
    (mk_Store : PySem.W.makesIn K C_Store = true)
    (kc_Store : PySem.W.keepIn K (.ref C_Store) = true)
    (na_Store_layout : PySem.W.findIn K (.ref C_Store) "layout" = some none)
    (na_Store_blocks : PySem.W.findIn K (.ref C_Store) "blocks" = some none)
    (na_Store__least_candidate : PySem.W.findIn K (.ref C_Store) "_least_candidate" = some none)
    (a_least_height : PySem.W.nsIn K mainGlobals "least_height" = some (some (.ref f_least_height)))
    (l_least_height : K.lookup f_least_height = some ⟨oc_least_height, od_least_height, .func (PySem.W.fnOf "least_height" "least_height" (defArgs s_least_height) (defBody s_least_height) (defScope s_least_height) .none kV_least_height dc_least_height pm_least_height an_least_height cd_least_height ct_least_height), sl_least_height⟩)
    (c_least_height : PySem.W.codeIn K cd_least_height "least_height" = true)
    (k_least_height : PySem.W.keepIn K (.ref f_least_height) = true)
    (a_span_of : PySem.W.nsIn K mainGlobals "span_of" = some (some (.ref f_span_of)))
    (l_span_of : K.lookup f_span_of = some ⟨oc_span_of, od_span_of, .func (PySem.W.fnOf "span_of" "span_of" (defArgs s_span_of) (defBody s_span_of) (defScope s_span_of) .none kV_span_of dc_span_of pm_span_of an_span_of cd_span_of ct_span_of), sl_span_of⟩)
    (c_span_of : PySem.W.codeIn K cd_span_of "span_of" = true)
    (k_span_of : PySem.W.keepIn K (.ref f_span_of) = true)
    (a_block_id : PySem.W.nsIn K mainGlobals "block_id" = some (some (.ref f_block_id)))
    (l_block_id : K.lookup f_block_id = some ⟨oc_block_id, od_block_id, .func (PySem.W.fnOf "block_id" "block_id" (defArgs s_block_id) (defBody s_block_id) (defScope s_block_id) .none kV_block_id dc_block_id pm_block_id an_block_id cd_block_id ct_block_id), sl_block_id⟩)
    (c_block_id : PySem.W.codeIn K cd_block_id "block_id" = true)
    (k_block_id : PySem.W.keepIn K (.ref f_block_id) = true)
    (a_set_block : PySem.W.nsIn K mainGlobals "set_block" = some (some (.ref f_set_block)))
    (l_set_block : K.lookup f_set_block = some ⟨oc_set_block, od_set_block, .func (PySem.W.fnOf "set_block" "set_block" (defArgs s_set_block) (defBody s_set_block) (defScope s_set_block) .none kV_set_block dc_set_block pm_set_block an_set_block cd_set_block ct_set_block), sl_set_block⟩)
    (c_set_block : PySem.W.codeIn K cd_set_block "set_block" = true)
    (k_set_block : PySem.W.keepIn K (.ref f_set_block) = true)
    (a_raise_tree : PySem.W.nsIn K mainGlobals "_raise_tree" = some (some (.ref f_raise_tree)))
    (l_raise_tree : K.lookup f_raise_tree = some ⟨oc_raise_tree, od_raise_tree, .func (PySem.W.fnOf "_raise_tree" "_raise_tree" (defArgs s_raise_tree) (defBody s_raise_tree) (defScope s_raise_tree) .none kV_raise_tree dc_raise_tree pm_raise_tree an_raise_tree cd_raise_tree ct_raise_tree), sl_raise_tree⟩)
    (c_raise_tree : PySem.W.codeIn K cd_raise_tree "_raise_tree" = true)
    (k_raise_tree : PySem.W.keepIn K (.ref f_raise_tree) = true)
    (a_way_to : PySem.W.nsIn K mainGlobals "_way_to" = some (some (.ref f_way_to)))
    (l_way_to : K.lookup f_way_to = some ⟨oc_way_to, od_way_to, .func (PySem.W.fnOf "_way_to" "_way_to" (defArgs s_way_to) (defBody s_way_to) (defScope s_way_to) .none kV_way_to dc_way_to pm_way_to an_way_to cd_way_to ct_way_to), sl_way_to⟩)
    (c_way_to : PySem.W.codeIn K cd_way_to "_way_to" = true)
    (k_way_to : PySem.W.keepIn K (.ref f_way_to) = true)
    (a_put_new : PySem.W.nsIn K mainGlobals "_put_new" = some (some (.ref f_put_new)))
    (l_put_new : K.lookup f_put_new = some ⟨oc_put_new, od_put_new, .func (PySem.W.fnOf "_put_new" "_put_new" (defArgs s_put_new) (defBody s_put_new) (defScope s_put_new) .none kV_put_new dc_put_new pm_put_new an_put_new cd_put_new ct_put_new), sl_put_new⟩)
    (c_put_new : PySem.W.codeIn K cd_put_new "_put_new" = true)
    (k_put_new : PySem.W.keepIn K (.ref f_put_new) = true)
    (a_index_of : PySem.W.nsIn K mainGlobals "_index_of" = some (some (.ref f_index_of)))
    (l_index_of : K.lookup f_index_of = some ⟨oc_index_of, od_index_of, .func (PySem.W.fnOf "_index_of" "_index_of" (defArgs s_index_of) (defBody s_index_of) (defScope s_index_of) .none kV_index_of dc_index_of pm_index_of an_index_of cd_index_of ct_index_of), sl_index_of⟩)
    (c_index_of : PySem.W.codeIn K cd_index_of "_index_of" = true)
    (k_index_of : PySem.W.keepIn K (.ref f_index_of) = true)
    (a_set_item : PySem.W.nsIn K mainGlobals "_set_item" = some (some (.ref f_set_item)))
    (l_set_item : K.lookup f_set_item = some ⟨oc_set_item, od_set_item, .func (PySem.W.fnOf "_set_item" "_set_item" (defArgs s_set_item) (defBody s_set_item) (defScope s_set_item) .none kV_set_item dc_set_item pm_set_item an_set_item cd_set_item ct_set_item), sl_set_item⟩)
    (c_set_item : PySem.W.codeIn K cd_set_item "_set_item" = true)
    (k_set_item : PySem.W.keepIn K (.ref f_set_item) = true)
    (a_Layout___init : PySem.W.findIn K (.ref C_Layout) "__init__" = some (some (.ref f_Layout___init)))
    (i_Layout___init : PySem.W.isFn K (.ref f_Layout___init) = true)
    (l_Layout___init : K.lookup f_Layout___init = some ⟨oc_Layout___init, od_Layout___init, .func (PySem.W.fnOf "__init__" "Layout.__init__" (defArgs s_Layout___init) (defBody s_Layout___init) (defScope s_Layout___init) .none kV_Layout___init dc_Layout___init pm_Layout___init an_Layout___init cd_Layout___init ct_Layout___init), sl_Layout___init⟩)
    (c_Layout___init : PySem.W.codeIn K cd_Layout___init "Layout.__init__" = true)
    (k_Layout___init : PySem.W.keepIn K (.ref f_Layout___init) = true)
    (a_parts_of : PySem.W.nsIn K mainGlobals "parts_of" = some (some (.ref f_parts_of)))
    (l_parts_of : K.lookup f_parts_of = some ⟨oc_parts_of, od_parts_of, .func (PySem.W.fnOf "parts_of" "parts_of" (defArgs s_parts_of) (defBody s_parts_of) (defScope s_parts_of) .none kV_parts_of dc_parts_of pm_parts_of an_parts_of cd_parts_of ct_parts_of), sl_parts_of⟩)
    (c_parts_of : PySem.W.codeIn K cd_parts_of "parts_of" = true)
    (k_parts_of : PySem.W.keepIn K (.ref f_parts_of) = true)
    (a_PlainFile___init : PySem.W.findIn K (.ref C_PlainFile) "__init__" = some (some (.ref f_PlainFile___init)))
    (i_PlainFile___init : PySem.W.isFn K (.ref f_PlainFile___init) = true)
    (l_PlainFile___init : K.lookup f_PlainFile___init = some ⟨oc_PlainFile___init, od_PlainFile___init, .func (PySem.W.fnOf "__init__" "PlainFile.__init__" (defArgs s_PlainFile___init) (defBody s_PlainFile___init) (defScope s_PlainFile___init) (.ref dT_PlainFile___init) kV_PlainFile___init dc_PlainFile___init pm_PlainFile___init an_PlainFile___init cd_PlainFile___init ct_PlainFile___init), sl_PlainFile___init⟩)
    (dl_PlainFile___init : K.lookup dT_PlainFile___init = some ⟨.type "tuple", dd_PlainFile___init, .seq #[Value.int 0 dtok_PlainFile___init_0, Value.int 0 dtok_PlainFile___init_1, Value.int 0 dtok_PlainFile___init_2] dn_PlainFile___init, dsl_PlainFile___init⟩)
    (c_PlainFile___init : PySem.W.codeIn K cd_PlainFile___init "PlainFile.__init__" = true)
    (k_PlainFile___init : PySem.W.keepIn K (.ref f_PlainFile___init) = true)
    (a_Store___init : PySem.W.findIn K (.ref C_Store) "__init__" = some (some (.ref f_Store___init)))
    (i_Store___init : PySem.W.isFn K (.ref f_Store___init) = true)
    (l_Store___init : K.lookup f_Store___init = some ⟨oc_Store___init, od_Store___init, .func (PySem.W.fnOf "__init__" "Store.__init__" (defArgs s_Store___init) (defBody s_Store___init) (defScope s_Store___init) .none kV_Store___init dc_Store___init pm_Store___init an_Store___init cd_Store___init ct_Store___init), sl_Store___init⟩)
    (c_Store___init : PySem.W.codeIn K cd_Store___init "Store.__init__" = true)
    (k_Store___init : PySem.W.keepIn K (.ref f_Store___init) = true)
    (a_Store_get : PySem.W.findIn K (.ref C_Store) "get" = some (some (.ref f_Store_get)))
    (i_Store_get : PySem.W.isFn K (.ref f_Store_get) = true)
    (l_Store_get : K.lookup f_Store_get = some ⟨oc_Store_get, od_Store_get, .func (PySem.W.fnOf "get" "Store.get" (defArgs s_Store_get) (defBody s_Store_get) (defScope s_Store_get) .none kV_Store_get dc_Store_get pm_Store_get an_Store_get cd_Store_get ct_Store_get), sl_Store_get⟩)
    (c_Store_get : PySem.W.codeIn K cd_Store_get "Store.get" = true)
    (k_Store_get : PySem.W.keepIn K (.ref f_Store_get) = true)
    (a_Store_put : PySem.W.findIn K (.ref C_Store) "put" = some (some (.ref f_Store_put)))
    (i_Store_put : PySem.W.isFn K (.ref f_Store_put) = true)
    (l_Store_put : K.lookup f_Store_put = some ⟨oc_Store_put, od_Store_put, .func (PySem.W.fnOf "put" "Store.put" (defArgs s_Store_put) (defBody s_Store_put) (defScope s_Store_put) .none kV_Store_put dc_Store_put pm_Store_put an_Store_put cd_Store_put ct_Store_put), sl_Store_put⟩)
    (c_Store_put : PySem.W.codeIn K cd_Store_put "Store.put" = true)
    (k_Store_put : PySem.W.keepIn K (.ref f_Store_put) = true)
    (a_Store_new_id : PySem.W.findIn K (.ref C_Store) "new_id" = some (some (.ref f_Store_new_id)))
    (i_Store_new_id : PySem.W.isFn K (.ref f_Store_new_id) = true)
    (l_Store_new_id : K.lookup f_Store_new_id = some ⟨oc_Store_new_id, od_Store_new_id, .func (PySem.W.fnOf "new_id" "Store.new_id" (defArgs s_Store_new_id) (defBody s_Store_new_id) (defScope s_Store_new_id) .none kV_Store_new_id dc_Store_new_id pm_Store_new_id an_Store_new_id cd_Store_new_id ct_Store_new_id), sl_Store_new_id⟩)
    (c_Store_new_id : PySem.W.codeIn K cd_Store_new_id "Store.new_id" = true)
    (k_Store_new_id : PySem.W.keepIn K (.ref f_Store_new_id) = true)
    (a_Store_block_count : PySem.W.findIn K (.ref C_Store) "block_count" = some (some (.ref p_Store_block_count)))
    (pg_Store_block_count : PySem.W.specialIn K (.ref p_Store_block_count) "__get__" = some (some (.builtin "property.__get__")))
    (pt_Store_block_count : PySem.W.takesIn K (.ref p_Store_block_count) = some true)
    (pc_Store_block_count : PySem.W.recIn K p_Store_block_count "property" = some (.ref f_Store_block_count :: pR_Store_block_count))
    (l_Store_block_count : K.lookup f_Store_block_count = some ⟨oc_Store_block_count, od_Store_block_count, .func (PySem.W.fnOf "block_count" "Store.block_count" (defArgs s_Store_block_count) (defBody s_Store_block_count) (defScope s_Store_block_count) .none kV_Store_block_count dc_Store_block_count pm_Store_block_count an_Store_block_count cd_Store_block_count ct_Store_block_count), sl_Store_block_count⟩)
    (c_Store_block_count : PySem.W.codeIn K cd_Store_block_count "Store.block_count" = true)
    (k_Store_block_count : PySem.W.keepIn K (.ref f_Store_block_count) = true)
    (a_law_row : PySem.W.nsIn K mainGlobals "_law_row" = some (some (.ref f_law_row)))
    (l_law_row : K.lookup f_law_row = some ⟨oc_law_row, od_law_row, .func (PySem.W.fnOf "_law_row" "_law_row" (defArgs s_law_row) (defBody s_law_row) (defScope s_law_row) .none kV_law_row dc_law_row pm_law_row an_law_row cd_law_row ct_law_row), sl_law_row⟩)
    (c_law_row : PySem.W.codeIn K cd_law_row "_law_row" = true)
    (k_law_row : PySem.W.keepIn K (.ref f_law_row) = true)
    (a_law_is_integer : PySem.W.nsIn K mainGlobals "_law_is_integer" = some (some (.ref f_law_is_integer)))
    (l_law_is_integer : K.lookup f_law_is_integer = some ⟨oc_law_is_integer, od_law_is_integer, .func (PySem.W.fnOf "_law_is_integer" "_law_is_integer" (defArgs s_law_is_integer) (defBody s_law_is_integer) (defScope s_law_is_integer) .none kV_law_is_integer dc_law_is_integer pm_law_is_integer an_law_is_integer cd_law_is_integer ct_law_is_integer), sl_law_is_integer⟩)
    (c_law_is_integer : PySem.W.codeIn K cd_law_is_integer "_law_is_integer" = true)
    (k_law_is_integer : PySem.W.keepIn K (.ref f_law_is_integer) = true)
    (a_law_layout : PySem.W.nsIn K mainGlobals "_law_layout" = some (some (.ref f_law_layout)))
    (l_law_layout : K.lookup f_law_layout = some ⟨oc_law_layout, od_law_layout, .func (PySem.W.fnOf "_law_layout" "_law_layout" (defArgs s_law_layout) (defBody s_law_layout) (defScope s_law_layout) .none kV_law_layout dc_law_layout pm_law_layout an_law_layout cd_law_layout ct_law_layout), sl_law_layout⟩)
    (c_law_layout : PySem.W.codeIn K cd_law_layout "_law_layout" = true)
    (k_law_layout : PySem.W.keepIn K (.ref f_law_layout) = true)
    (a_law_power : PySem.W.nsIn K mainGlobals "_law_power" = some (some (.ref f_law_power)))
    (l_law_power : K.lookup f_law_power = some ⟨oc_law_power, od_law_power, .func (PySem.W.fnOf "_law_power" "_law_power" (defArgs s_law_power) (defBody s_law_power) (defScope s_law_power) .none kV_law_power dc_law_power pm_law_power an_law_power cd_law_power ct_law_power), sl_law_power⟩)
    (c_law_power : PySem.W.codeIn K cd_law_power "_law_power" = true)
    (k_law_power : PySem.W.keepIn K (.ref f_law_power) = true)
    (a_law_height : PySem.W.nsIn K mainGlobals "_law_height" = some (some (.ref f_law_height)))
    (l_law_height : K.lookup f_law_height = some ⟨oc_law_height, od_law_height, .func (PySem.W.fnOf "_law_height" "_law_height" (defArgs s_law_height) (defBody s_law_height) (defScope s_law_height) .none kV_law_height dc_law_height pm_law_height an_law_height cd_law_height ct_law_height), sl_law_height⟩)
    (c_law_height : PySem.W.codeIn K cd_law_height "_law_height" = true)
    (k_law_height : PySem.W.keepIn K (.ref f_law_height) = true)
    (a_law_take : PySem.W.nsIn K mainGlobals "_law_take" = some (some (.ref f_law_take)))
    (l_law_take : K.lookup f_law_take = some ⟨oc_law_take, od_law_take, .func (PySem.W.fnOf "_law_take" "_law_take" (defArgs s_law_take) (defBody s_law_take) (defScope s_law_take) .none kV_law_take dc_law_take pm_law_take an_law_take cd_law_take ct_law_take), sl_law_take⟩)
    (c_law_take : PySem.W.codeIn K cd_law_take "_law_take" = true)
    (k_law_take : PySem.W.keepIn K (.ref f_law_take) = true)
    (a_law_set : PySem.W.nsIn K mainGlobals "_law_set" = some (some (.ref f_law_set)))
    (l_law_set : K.lookup f_law_set = some ⟨oc_law_set, od_law_set, .func (PySem.W.fnOf "_law_set" "_law_set" (defArgs s_law_set) (defBody s_law_set) (defScope s_law_set) .none kV_law_set dc_law_set pm_law_set an_law_set cd_law_set ct_law_set), sl_law_set⟩)
    (c_law_set : PySem.W.codeIn K cd_law_set "_law_set" = true)
    (k_law_set : PySem.W.keepIn K (.ref f_law_set) = true)
    (a_law_payload : PySem.W.nsIn K mainGlobals "_law_payload" = some (some (.ref f_law_payload)))
    (l_law_payload : K.lookup f_law_payload = some ⟨oc_law_payload, od_law_payload, .func (PySem.W.fnOf "_law_payload" "_law_payload" (defArgs s_law_payload) (defBody s_law_payload) (defScope s_law_payload) .none kV_law_payload dc_law_payload pm_law_payload an_law_payload cd_law_payload ct_law_payload), sl_law_payload⟩)
    (c_law_payload : PySem.W.codeIn K cd_law_payload "_law_payload" = true)
    (k_law_payload : PySem.W.keepIn K (.ref f_law_payload) = true)
    (a_law_same : PySem.W.nsIn K mainGlobals "_law_same" = some (some (.ref f_law_same)))
    (l_law_same : K.lookup f_law_same = some ⟨oc_law_same, od_law_same, .func (PySem.W.fnOf "_law_same" "_law_same" (defArgs s_law_same) (defBody s_law_same) (defScope s_law_same) .none kV_law_same dc_law_same pm_law_same an_law_same cd_law_same ct_law_same), sl_law_same⟩)
    (c_law_same : PySem.W.codeIn K cd_law_same "_law_same" = true)
    (k_law_same : PySem.W.keepIn K (.ref f_law_same) = true)
    (a_law_number : PySem.W.nsIn K mainGlobals "_law_number" = some (some (.ref f_law_number)))
    (l_law_number : K.lookup f_law_number = some ⟨oc_law_number, od_law_number, .func (PySem.W.fnOf "_law_number" "_law_number" (defArgs s_law_number) (defBody s_law_number) (defScope s_law_number) .none kV_law_number dc_law_number pm_law_number an_law_number cd_law_number ct_law_number), sl_law_number⟩)
    (c_law_number : PySem.W.codeIn K cd_law_number "_law_number" = true)
    (k_law_number : PySem.W.keepIn K (.ref f_law_number) = true)
    (a_law_octets : PySem.W.nsIn K mainGlobals "_law_octets" = some (some (.ref f_law_octets)))
    (l_law_octets : K.lookup f_law_octets = some ⟨oc_law_octets, od_law_octets, .func (PySem.W.fnOf "_law_octets" "_law_octets" (defArgs s_law_octets) (defBody s_law_octets) (defScope s_law_octets) .none kV_law_octets dc_law_octets pm_law_octets an_law_octets cd_law_octets ct_law_octets), sl_law_octets⟩)
    (c_law_octets : PySem.W.codeIn K cd_law_octets "_law_octets" = true)
    (k_law_octets : PySem.W.keepIn K (.ref f_law_octets) = true)
    (a_law : PySem.W.nsIn K mainGlobals "law" = some (some (.ref f_law)))
    (l_law : K.lookup f_law = some ⟨oc_law, od_law, .func (PySem.W.fnOf "law" "law" (defArgs s_law) (defBody s_law) (defScope s_law) .none kV_law dc_law pm_law an_law cd_law ct_law), sl_law⟩)
    (c_law : PySem.W.codeIn K cd_law "law" = true)
    (k_law : PySem.W.keepIn K (.ref f_law) = true)
    (q_BLOCK_SIZES : PySem.W.nsIn K mainGlobals "BLOCK_SIZES" = some (some (.ref k_BLOCK_SIZES)))
    (y_BLOCK_SIZES : K.lookup k_BLOCK_SIZES = some ⟨.type "tuple", yd_BLOCK_SIZES, .seq #[.int 64 yt_BLOCK_SIZES_0, .int 128 yt_BLOCK_SIZES_1, .int 256 yt_BLOCK_SIZES_2] yn_BLOCK_SIZES, ys_BLOCK_SIZES⟩)
    (q_DATA : PySem.W.nsIn K mainGlobals "DATA" = some (some (.int 3 t_DATA)))
    (q_NODE : PySem.W.nsIn K mainGlobals "NODE" = some (some (.int 4 t_NODE)))
    (q_SUMMARY_HEAD : PySem.W.nsIn K mainGlobals "SUMMARY_HEAD" = some (some (.int 16 t_SUMMARY_HEAD)))
    (n_bool : PySem.W.nsIn K mainGlobals "bool" = some none)
    (n_dict : PySem.W.nsIn K mainGlobals "dict" = some none)
    (n_int : PySem.W.nsIn K mainGlobals "int" = some none)
    (n_isinstance : PySem.W.nsIn K mainGlobals "isinstance" = some none)
    (n_len : PySem.W.nsIn K mainGlobals "len" = some none)
    (n_list : PySem.W.nsIn K mainGlobals "list" = some none)
    (n_max : PySem.W.nsIn K mainGlobals "max" = some none)
    (n_range : PySem.W.nsIn K mainGlobals "range" = some none)
    (n_reversed : PySem.W.nsIn K mainGlobals "reversed" = some none)
    (n_sorted : PySem.W.nsIn K mainGlobals "sorted" = some none)
    (n_tuple : PySem.W.nsIn K mainGlobals "tuple" = some none)
    : ∃ fd : FuncData, (∀ (s : Shared) (v : Value), BindsTo s fd ⟨[v], []⟩ [("script", v)]) ∧ ∀ base : Heap, K.In base → base.Ns mainGlobals mg → FnOk l.prog w K mg base CX0 5 fa fd ["script"] (spLawK K) := by
  have e := hfa.symm.trans (PySem.W.mg_of X G a_law)
  cases e
  have F_least_height := fun_mk (st := s_least_height) l_least_height c_least_height k_least_height
  have b_least_height := F_least_height.binds (ps := ["layout", "number"]) fun _ _ _ _ _ _ us hl => match us, hl with | [_, _], _ => rfl
  have F_span_of := fun_mk (st := s_span_of) l_span_of c_span_of k_span_of
  have b_span_of := F_span_of.binds (ps := ["layout", "height"]) fun _ _ _ _ _ _ us hl => match us, hl with | [_, _], _ => rfl
  have F_block_id := fun_mk (st := s_block_id) l_block_id c_block_id k_block_id
  have b_block_id := F_block_id.binds (ps := ["store", "file", "number"]) fun _ _ _ _ _ _ us hl => match us, hl with | [_, _, _], _ => rfl
  have F_set_block := fun_mk (st := s_set_block) l_set_block c_set_block k_set_block
  have b_set_block := F_set_block.binds (ps := ["store", "file", "number", "octets"]) fun _ _ _ _ _ _ us hl => match us, hl with | [_, _, _, _], _ => rfl
  have F_raise_tree := fun_mk (st := s_raise_tree) l_raise_tree c_raise_tree k_raise_tree
  have b_raise_tree := F_raise_tree.binds (ps := ["store", "file", "height"]) fun _ _ _ _ _ _ us hl => match us, hl with | [_, _, _], _ => rfl
  have F_way_to := fun_mk (st := s_way_to) l_way_to c_way_to k_way_to
  have b_way_to := F_way_to.binds (ps := ["store", "file", "number"]) fun _ _ _ _ _ _ us hl => match us, hl with | [_, _, _], _ => rfl
  have F_put_new := fun_mk (st := s_put_new) l_put_new c_put_new k_put_new
  have b_put_new := F_put_new.binds (ps := ["store", "payload"]) fun _ _ _ _ _ _ us hl => match us, hl with | [_, _], _ => rfl
  have F_index_of := fun_mk (st := s_index_of) l_index_of c_index_of k_index_of
  have b_index_of := F_index_of.binds (ps := ["layout", "item", "below"]) fun _ _ _ _ _ _ us hl => match us, hl with | [_, _, _], _ => rfl
  have F_set_item := fun_mk (st := s_set_item) l_set_item c_set_item k_set_item
  have b_set_item := F_set_item.binds (ps := ["store", "ident", "item", "below"]) fun _ _ _ _ _ _ us hl => match us, hl with | [_, _, _, _], _ => rfl
  have F_Layout___init := fun_mk (st := s_Layout___init) l_Layout___init c_Layout___init k_Layout___init
  have b_Layout___init := F_Layout___init.binds (ps := ["self", "segments", "segment_blocks", "block_size"]) fun _ _ _ _ _ _ us hl => match us, hl with | [_, _, _, _], _ => rfl
  have F_parts_of := fun_mk (st := s_parts_of) l_parts_of c_parts_of k_parts_of
  have b_parts_of := F_parts_of.binds (ps := ["number", "size"]) fun _ _ _ _ _ _ us hl => match us, hl with | [_, _], _ => rfl
  have F_PlainFile___init : FunD K "__init__" "PlainFile.__init__" (defArgs s_PlainFile___init) (defBody s_PlainFile___init) (defScope s_PlainFile___init) [V.int 0, V.int 0, V.int 0] [] f_PlainFile___init _ := ⟨⟨_, _, _, _, _, _, _, _, _, _, rfl, l_PlainFile___init, c_PlainFile___init, .inr ⟨by simp, _, _, _, _, rfl, dl_PlainFile___init, rfl, (.cons ⟨_, rfl⟩ (.cons ⟨_, rfl⟩ (.cons ⟨_, rfl⟩ .nil)))⟩, .inl rfl⟩, k_PlainFile___init⟩
  obtain ⟨ds_PlainFile___init_4, v_PlainFile___init_4, b_PlainFile___init_4⟩ := F_PlainFile___init.binds1 (ps := ["self", "size", "height", "root"]) 4 3 (by simp) rfl fun _ _ _ _ _ _ _ us its hl hi => match us, its, hl, hi with | [_, _, _, _], [_, _, _], _, _ => ⟨_, rfl, rfl⟩
  cases v_PlainFile___init_4
  have F_Store___init := fun_mk (st := s_Store___init) l_Store___init c_Store___init k_Store___init
  have b_Store___init := F_Store___init.binds (ps := ["self", "layout", "blocks"]) fun _ _ _ _ _ _ us hl => match us, hl with | [_, _, _], _ => rfl
  have F_Store_get := fun_mk (st := s_Store_get) l_Store_get c_Store_get k_Store_get
  have b_Store_get := F_Store_get.binds (ps := ["self", "ident"]) fun _ _ _ _ _ _ us hl => match us, hl with | [_, _], _ => rfl
  have F_Store_put := fun_mk (st := s_Store_put) l_Store_put c_Store_put k_Store_put
  have b_Store_put := F_Store_put.binds (ps := ["self", "ident", "payload"]) fun _ _ _ _ _ _ us hl => match us, hl with | [_, _, _], _ => rfl
  have F_Store_new_id := fun_mk (st := s_Store_new_id) l_Store_new_id c_Store_new_id k_Store_new_id
  have b_Store_new_id := F_Store_new_id.binds (ps := ["self"]) fun _ _ _ _ _ _ us hl => match us, hl with | [_], _ => rfl
  have F_Store_block_count := fun_mk (st := s_Store_block_count) l_Store_block_count c_Store_block_count k_Store_block_count
  have b_Store_block_count := F_Store_block_count.binds (ps := ["self"]) fun _ _ _ _ _ _ us hl => match us, hl with | [_], _ => rfl
  have F_law_row := fun_mk (st := s_law_row) l_law_row c_law_row k_law_row
  have b_law_row := F_law_row.binds (ps := ["script", "k"]) fun _ _ _ _ _ _ us hl => match us, hl with | [_, _], _ => rfl
  have F_law_is_integer := fun_mk (st := s_law_is_integer) l_law_is_integer c_law_is_integer k_law_is_integer
  have b_law_is_integer := F_law_is_integer.binds (ps := ["actual"]) fun _ _ _ _ _ _ us hl => match us, hl with | [_], _ => rfl
  have F_law_layout := fun_mk (st := s_law_layout) l_law_layout c_law_layout k_law_layout
  have b_law_layout := F_law_layout.binds (ps := ["number"]) fun _ _ _ _ _ _ us hl => match us, hl with | [_], _ => rfl
  have F_law_power := fun_mk (st := s_law_power) l_law_power c_law_power k_law_power
  have b_law_power := F_law_power.binds (ps := ["fan", "level"]) fun _ _ _ _ _ _ us hl => match us, hl with | [_, _], _ => rfl
  have F_law_height := fun_mk (st := s_law_height) l_law_height c_law_height k_law_height
  have b_law_height := F_law_height.binds (ps := ["fan", "number"]) fun _ _ _ _ _ _ us hl => match us, hl with | [_, _], _ => rfl
  have F_law_take := fun_mk (st := s_law_take) l_law_take c_law_take k_law_take
  have b_law_take := F_law_take.binds (ps := ["cells", "used", "key"]) fun _ _ _ _ _ _ us hl => match us, hl with | [_, _, _], _ => rfl
  have F_law_set := fun_mk (st := s_law_set) l_law_set c_law_set k_law_set
  have b_law_set := F_law_set.binds (ps := ["cells", "used", "data", "tree", "number", "octets"]) fun _ _ _ _ _ _ us hl => match us, hl with | [_, _, _, _, _, _], _ => rfl
  have F_law_payload := fun_mk (st := s_law_payload) l_law_payload c_law_payload k_law_payload
  have b_law_payload := F_law_payload.binds (ps := ["cells", "data", "fan", "key"]) fun _ _ _ _ _ _ us hl => match us, hl with | [_, _, _, _], _ => rfl
  have F_law_same := fun_mk (st := s_law_same) l_law_same c_law_same k_law_same
  have b_law_same := F_law_same.binds (ps := ["store", "file", "cells", "used", "data", "tree"]) fun _ _ _ _ _ _ us hl => match us, hl with | [_, _, _, _, _, _], _ => rfl
  have F_law_number := fun_mk (st := s_law_number) l_law_number c_law_number k_law_number
  have b_law_number := F_law_number.binds (ps := ["number", "fan", "data"]) fun _ _ _ _ _ _ us hl => match us, hl with | [_, _, _], _ => rfl
  have F_law_octets := fun_mk (st := s_law_octets) l_law_octets c_law_octets k_law_octets
  have b_law_octets := F_law_octets.binds (ps := ["number", "size"]) fun _ _ _ _ _ _ us hl => match us, hl with | [_, _], _ => rfl
  have F_law := fun_mk (st := s_law) l_law c_law k_law
  have b_law := F_law.binds (ps := ["script"]) fun _ _ _ _ _ _ us hl => match us, hl with | [_], _ => rfl
  let T : Txt K mg := {
    a_least_height := f_least_height,
    fd_least_height := _,
    F_least_height := F_least_height,
    b_least_height := b_least_height,
    m_least_height := PySem.W.mg_of X G a_least_height,
    a_span_of := f_span_of,
    fd_span_of := _,
    F_span_of := F_span_of,
    b_span_of := b_span_of,
    m_span_of := PySem.W.mg_of X G a_span_of,
    a_block_id := f_block_id,
    fd_block_id := _,
    F_block_id := F_block_id,
    b_block_id := b_block_id,
    m_block_id := PySem.W.mg_of X G a_block_id,
    a_set_block := f_set_block,
    fd_set_block := _,
    F_set_block := F_set_block,
    b_set_block := b_set_block,
    m_set_block := PySem.W.mg_of X G a_set_block,
    a_raise_tree := f_raise_tree,
    fd_raise_tree := _,
    F_raise_tree := F_raise_tree,
    b_raise_tree := b_raise_tree,
    m_raise_tree := PySem.W.mg_of X G a_raise_tree,
    a_way_to := f_way_to,
    fd_way_to := _,
    F_way_to := F_way_to,
    b_way_to := b_way_to,
    m_way_to := PySem.W.mg_of X G a_way_to,
    a_put_new := f_put_new,
    fd_put_new := _,
    F_put_new := F_put_new,
    b_put_new := b_put_new,
    m_put_new := PySem.W.mg_of X G a_put_new,
    a_index_of := f_index_of,
    fd_index_of := _,
    F_index_of := F_index_of,
    b_index_of := b_index_of,
    m_index_of := PySem.W.mg_of X G a_index_of,
    a_set_item := f_set_item,
    fd_set_item := _,
    F_set_item := F_set_item,
    b_set_item := b_set_item,
    m_set_item := PySem.W.mg_of X G a_set_item,
    a_Layout___init := f_Layout___init,
    fd_Layout___init := _,
    F_Layout___init := F_Layout___init,
    b_Layout___init := b_Layout___init,
    a_parts_of := f_parts_of,
    fd_parts_of := _,
    F_parts_of := F_parts_of,
    b_parts_of := b_parts_of,
    m_parts_of := PySem.W.mg_of X G a_parts_of,
    a_PlainFile___init := f_PlainFile___init,
    fd_PlainFile___init := _,
    F_PlainFile___init := F_PlainFile___init,
    b_PlainFile___init := b_PlainFile___init_4,
    a_Store___init := f_Store___init,
    fd_Store___init := _,
    F_Store___init := F_Store___init,
    b_Store___init := b_Store___init,
    a_Store_get := f_Store_get,
    fd_Store_get := _,
    F_Store_get := F_Store_get,
    b_Store_get := b_Store_get,
    me_Store_get := ⟨a_Store_get, i_Store_get, k_Store_get⟩,
    a_Store_put := f_Store_put,
    fd_Store_put := _,
    F_Store_put := F_Store_put,
    b_Store_put := b_Store_put,
    me_Store_put := ⟨a_Store_put, i_Store_put, k_Store_put⟩,
    a_Store_new_id := f_Store_new_id,
    fd_Store_new_id := _,
    F_Store_new_id := F_Store_new_id,
    b_Store_new_id := b_Store_new_id,
    me_Store_new_id := ⟨a_Store_new_id, i_Store_new_id, k_Store_new_id⟩,
    a_Store_block_count := f_Store_block_count,
    fd_Store_block_count := _,
    F_Store_block_count := F_Store_block_count,
    b_Store_block_count := b_Store_block_count,
    p_Store_block_count := p_Store_block_count,
    pr_Store_block_count := ⟨a_Store_block_count, pg_Store_block_count, pt_Store_block_count, ⟨_, pc_Store_block_count⟩⟩,
    a_law_row := f_law_row,
    fd_law_row := _,
    F_law_row := F_law_row,
    b_law_row := b_law_row,
    m_law_row := PySem.W.mg_of X G a_law_row,
    a_law_is_integer := f_law_is_integer,
    fd_law_is_integer := _,
    F_law_is_integer := F_law_is_integer,
    b_law_is_integer := b_law_is_integer,
    m_law_is_integer := PySem.W.mg_of X G a_law_is_integer,
    a_law_layout := f_law_layout,
    fd_law_layout := _,
    F_law_layout := F_law_layout,
    b_law_layout := b_law_layout,
    m_law_layout := PySem.W.mg_of X G a_law_layout,
    a_law_power := f_law_power,
    fd_law_power := _,
    F_law_power := F_law_power,
    b_law_power := b_law_power,
    m_law_power := PySem.W.mg_of X G a_law_power,
    a_law_height := f_law_height,
    fd_law_height := _,
    F_law_height := F_law_height,
    b_law_height := b_law_height,
    m_law_height := PySem.W.mg_of X G a_law_height,
    a_law_take := f_law_take,
    fd_law_take := _,
    F_law_take := F_law_take,
    b_law_take := b_law_take,
    m_law_take := PySem.W.mg_of X G a_law_take,
    a_law_set := f_law_set,
    fd_law_set := _,
    F_law_set := F_law_set,
    b_law_set := b_law_set,
    m_law_set := PySem.W.mg_of X G a_law_set,
    a_law_payload := f_law_payload,
    fd_law_payload := _,
    F_law_payload := F_law_payload,
    b_law_payload := b_law_payload,
    m_law_payload := PySem.W.mg_of X G a_law_payload,
    a_law_same := f_law_same,
    fd_law_same := _,
    F_law_same := F_law_same,
    b_law_same := b_law_same,
    m_law_same := PySem.W.mg_of X G a_law_same,
    a_law_number := f_law_number,
    fd_law_number := _,
    F_law_number := F_law_number,
    b_law_number := b_law_number,
    m_law_number := PySem.W.mg_of X G a_law_number,
    a_law_octets := f_law_octets,
    fd_law_octets := _,
    F_law_octets := F_law_octets,
    b_law_octets := b_law_octets,
    m_law_octets := PySem.W.mg_of X G a_law_octets,
    a_law := fa,
    fd_law := _,
    F_law := F_law,
    b_law := b_law,
    m_law := PySem.W.mg_of X G a_law,
    A_Layout := C_Layout,
    m_Layout := PySem.W.mg_of X G mC_Layout,
    cl_Layout := ⟨pg_Layout, hd_Layout, po_Layout, sa_Layout⟩,
    M_Layout := ⟨mk_Layout, a_Layout___init, i_Layout___init, kc_Layout⟩,
    na_Layout_segments := na_Layout_segments,
    na_Layout_segment_blocks := na_Layout_segment_blocks,
    na_Layout_block_size := na_Layout_block_size,
    na_Layout_payload := na_Layout_payload,
    na_Layout_limit := na_Layout_limit,
    na_Layout_last_id := na_Layout_last_id,
    na_Layout_fan := na_Layout_fan,
    na_Layout_region_blocks := na_Layout_region_blocks,
    na_Layout_device_blocks := na_Layout_device_blocks,
    A_PlainFile := C_PlainFile,
    m_PlainFile := PySem.W.mg_of X G mC_PlainFile,
    cl_PlainFile := ⟨pg_PlainFile, hd_PlainFile, po_PlainFile, sa_PlainFile⟩,
    M_PlainFile := ⟨mk_PlainFile, a_PlainFile___init, i_PlainFile___init, kc_PlainFile⟩,
    na_PlainFile_size := na_PlainFile_size,
    na_PlainFile_height := na_PlainFile_height,
    na_PlainFile_root := na_PlainFile_root,
    A_Store := C_Store,
    m_Store := PySem.W.mg_of X G mC_Store,
    cl_Store := ⟨pg_Store, hd_Store, po_Store, sa_Store⟩,
    M_Store := ⟨mk_Store, a_Store___init, i_Store___init, kc_Store⟩,
    na_Store_layout := na_Store_layout,
    na_Store_blocks := na_Store_blocks,
    na_Store__least_candidate := na_Store__least_candidate,
    a_BLOCK_SIZES := k_BLOCK_SIZES,
    c_BLOCK_SIZES := PySem.W.mg_of X G q_BLOCK_SIZES,
    r_BLOCK_SIZES := rfl,
    v_BLOCK_SIZES := fun _ => .inr ⟨_, _, _, y_BLOCK_SIZES, rfl, rfl, Nat.le_of_ble_eq_true rfl, (.cons ⟨_, rfl⟩ (.cons ⟨_, rfl⟩ (.cons ⟨_, rfl⟩ .nil)))⟩,
    t_DATA := t_DATA,
    c_DATA := PySem.W.mg_of X G q_DATA,
    r_DATA := ⟨_, rfl⟩,
    t_NODE := t_NODE,
    c_NODE := PySem.W.mg_of X G q_NODE,
    r_NODE := ⟨_, rfl⟩,
    t_SUMMARY_HEAD := t_SUMMARY_HEAD,
    c_SUMMARY_HEAD := PySem.W.mg_of X G q_SUMMARY_HEAD,
    r_SUMMARY_HEAD := ⟨_, rfl⟩,
    n_bool := PySem.W.mg_none_of X G n_bool,
    n_dict := PySem.W.mg_none_of X G n_dict,
    n_int := PySem.W.mg_none_of X G n_int,
    n_isinstance := PySem.W.mg_none_of X G n_isinstance,
    n_len := PySem.W.mg_none_of X G n_len,
    n_list := PySem.W.mg_none_of X G n_list,
    n_max := PySem.W.mg_none_of X G n_max,
    n_range := PySem.W.mg_none_of X G n_range,
    n_reversed := PySem.W.mg_none_of X G n_reversed,
    n_sorted := PySem.W.mg_none_of X G n_sorted,
    n_tuple := PySem.W.mg_none_of X G n_tuple }
  exact ⟨_, fun s v => .of_eq rfl, fun base _ _ => ok_law T⟩
theorem walk {l : PySem.W.OpenLaw} {q : Program} {loose : List Str} {XP : (Str → Option Value) → Heap → Prop} {YP : World → Heap → Prop} {d : DefRec} {K : Params → PySem.W.Frag} (hn : l.most = some 63) (hdf : d.params.defaults = [])
    (hY : ∀ (w : World) (h : Heap), YP w h → (K w.params).In h)
    (F : ∀ (w : World) (mg : Str → Option Value) (fa : Addr) (h : Heap), (K w.params).In h → h.Ns mainGlobals mg → mg d.name = some (.ref fa) →
      ∃ fd : FuncData, (∀ (s : Shared) (u : Value), BindsTo s fd ⟨[u], []⟩ [("script", u)]) ∧ ∀ base : Heap, (K w.params).In base → base.Ns mainGlobals mg → FnOk l.prog w (K w.params) mg base CX0 5 fa fd ["script"] (spLawK (K w.params))) :
    PySem.W.WalkO q loose XP YP l.row.toRowW d [] (fun f vs => PySem.call f vs) :=
  L2.walk_of (n := 63) (k := 5) (x := "script") (CX := fun _ => CX0) (sp := fun w => spLawK (K w.params)) hn (by decide) hdf ⟨rfl, by decide, by decide⟩ hY F (fun _ _ a ns hl hO hS => ⟨a, ns, rfl, scr_of hO hS, hl, fun _ => rfl⟩) fun _ _ _ _ _ z => z
end Sg

open PySem PySem.W PyProof.Rows in
set_option maxRecDepth 100000 in
set_option maxHeartbeats 0 in
theorem PySem.Challenge.cw_segmentfs_k35_set_blocks_of_a_tree_holds : PySem.Challenge.rw_segmentfs_k35_set_blocks_of_a_tree.Holds := by
  w_on; o_law; k_head; (case hw => w_witness2)
  k_fill
  refine Sg.walk (l := PySem.Challenge.rw_segmentfs_k35_set_blocks_of_a_tree) rfl rfl (fun w h Y => PySem.W.kIn_of Y) ?F
  case F =>
    intro w mg fa h KX G hmg
    refine' Sg.all_mk KX G hmg ?mC_Layout ?pg_Layout ?hd_Layout ?po_Layout ?sa_Layout ?mk_Layout ?kc_Layout ?na_Layout_segments ?na_Layout_segment_blocks ?na_Layout_block_size ?na_Layout_payload ?na_Layout_limit ?na_Layout_last_id ?na_Layout_fan ?na_Layout_region_blocks ?na_Layout_device_blocks ?mC_PlainFile ?pg_PlainFile ?hd_PlainFile ?po_PlainFile ?sa_PlainFile ?mk_PlainFile ?kc_PlainFile ?na_PlainFile_size ?na_PlainFile_height ?na_PlainFile_root ?mC_Store ?pg_Store ?hd_Store ?po_Store ?sa_Store ?mk_Store ?kc_Store ?na_Store_layout ?na_Store_blocks ?na_Store__least_candidate ?a_least_height ?l_least_height ?c_least_height ?k_least_height ?a_span_of ?l_span_of ?c_span_of ?k_span_of ?a_block_id ?l_block_id ?c_block_id ?k_block_id ?a_set_block ?l_set_block ?c_set_block ?k_set_block ?a_raise_tree ?l_raise_tree ?c_raise_tree ?k_raise_tree ?a_way_to ?l_way_to ?c_way_to ?k_way_to ?a_put_new ?l_put_new ?c_put_new ?k_put_new ?a_index_of ?l_index_of ?c_index_of ?k_index_of ?a_set_item ?l_set_item ?c_set_item ?k_set_item ?a_Layout___init ?i_Layout___init ?l_Layout___init ?c_Layout___init ?k_Layout___init ?a_parts_of ?l_parts_of ?c_parts_of ?k_parts_of ?a_PlainFile___init ?i_PlainFile___init ?l_PlainFile___init ?dl_PlainFile___init ?c_PlainFile___init ?k_PlainFile___init ?a_Store___init ?i_Store___init ?l_Store___init ?c_Store___init ?k_Store___init ?a_Store_get ?i_Store_get ?l_Store_get ?c_Store_get ?k_Store_get ?a_Store_put ?i_Store_put ?l_Store_put ?c_Store_put ?k_Store_put ?a_Store_new_id ?i_Store_new_id ?l_Store_new_id ?c_Store_new_id ?k_Store_new_id ?a_Store_block_count ?pg_Store_block_count ?pt_Store_block_count ?pc_Store_block_count ?l_Store_block_count ?c_Store_block_count ?k_Store_block_count ?a_law_row ?l_law_row ?c_law_row ?k_law_row ?a_law_is_integer ?l_law_is_integer ?c_law_is_integer ?k_law_is_integer ?a_law_layout ?l_law_layout ?c_law_layout ?k_law_layout ?a_law_power ?l_law_power ?c_law_power ?k_law_power ?a_law_height ?l_law_height ?c_law_height ?k_law_height ?a_law_take ?l_law_take ?c_law_take ?k_law_take ?a_law_set ?l_law_set ?c_law_set ?k_law_set ?a_law_payload ?l_law_payload ?c_law_payload ?k_law_payload ?a_law_same ?l_law_same ?c_law_same ?k_law_same ?a_law_number ?l_law_number ?c_law_number ?k_law_number ?a_law_octets ?l_law_octets ?c_law_octets ?k_law_octets ?a_law ?l_law ?c_law ?k_law ?q_BLOCK_SIZES ?y_BLOCK_SIZES ?q_DATA ?q_NODE ?q_SUMMARY_HEAD ?n_bool ?n_dict ?n_int ?n_isinstance ?n_len ?n_list ?n_max ?n_range ?n_reversed ?n_sorted ?n_tuple
    (case mC_Layout => k_is)
    (case pg_Layout => k_is)
    (case hd_Layout => k_is)
    (case po_Layout => k_is)
    (case sa_Layout => k_is)
    (case mk_Layout => k_is)
    (case kc_Layout => k_is)
    (case na_Layout_segments => k_is)
    (case na_Layout_segment_blocks => k_is)
    (case na_Layout_block_size => k_is)
    (case na_Layout_payload => k_is)
    (case na_Layout_limit => k_is)
    (case na_Layout_last_id => k_is)
    (case na_Layout_fan => k_is)
    (case na_Layout_region_blocks => k_is)
    (case na_Layout_device_blocks => k_is)
    (case mC_PlainFile => k_is)
    (case pg_PlainFile => k_is)
    (case hd_PlainFile => k_is)
    (case po_PlainFile => k_is)
    (case sa_PlainFile => k_is)
    (case mk_PlainFile => k_is)
    (case kc_PlainFile => k_is)
    (case na_PlainFile_size => k_is)
    (case na_PlainFile_height => k_is)
    (case na_PlainFile_root => k_is)
    (case mC_Store => k_is)
    (case pg_Store => k_is)
    (case hd_Store => k_is)
    (case po_Store => k_is)
    (case sa_Store => k_is)
    (case mk_Store => k_is)
    (case kc_Store => k_is)
    (case na_Store_layout => k_is)
    (case na_Store_blocks => k_is)
    (case na_Store__least_candidate => k_is)
    (case a_least_height => k_is)
    (case l_least_height => k_is)
    (case c_least_height => k_is)
    (case k_least_height => k_is)
    (case a_span_of => k_is)
    (case l_span_of => k_is)
    (case c_span_of => k_is)
    (case k_span_of => k_is)
    (case a_block_id => k_is)
    (case l_block_id => k_is)
    (case c_block_id => k_is)
    (case k_block_id => k_is)
    (case a_set_block => k_is)
    (case l_set_block => k_is)
    (case c_set_block => k_is)
    (case k_set_block => k_is)
    (case a_raise_tree => k_is)
    (case l_raise_tree => k_is)
    (case c_raise_tree => k_is)
    (case k_raise_tree => k_is)
    (case a_way_to => k_is)
    (case l_way_to => k_is)
    (case c_way_to => k_is)
    (case k_way_to => k_is)
    (case a_put_new => k_is)
    (case l_put_new => k_is)
    (case c_put_new => k_is)
    (case k_put_new => k_is)
    (case a_index_of => k_is)
    (case l_index_of => k_is)
    (case c_index_of => k_is)
    (case k_index_of => k_is)
    (case a_set_item => k_is)
    (case l_set_item => k_is)
    (case c_set_item => k_is)
    (case k_set_item => k_is)
    (case a_Layout___init => k_is)
    (case i_Layout___init => k_is)
    (case l_Layout___init => k_is)
    (case c_Layout___init => k_is)
    (case k_Layout___init => k_is)
    (case a_parts_of => k_is)
    (case l_parts_of => k_is)
    (case c_parts_of => k_is)
    (case k_parts_of => k_is)
    (case a_PlainFile___init => k_is)
    (case i_PlainFile___init => k_is)
    (case l_PlainFile___init => k_is)
    (case dl_PlainFile___init => k_is)
    (case c_PlainFile___init => k_is)
    (case k_PlainFile___init => k_is)
    (case a_Store___init => k_is)
    (case i_Store___init => k_is)
    (case l_Store___init => k_is)
    (case c_Store___init => k_is)
    (case k_Store___init => k_is)
    (case a_Store_get => k_is)
    (case i_Store_get => k_is)
    (case l_Store_get => k_is)
    (case c_Store_get => k_is)
    (case k_Store_get => k_is)
    (case a_Store_put => k_is)
    (case i_Store_put => k_is)
    (case l_Store_put => k_is)
    (case c_Store_put => k_is)
    (case k_Store_put => k_is)
    (case a_Store_new_id => k_is)
    (case i_Store_new_id => k_is)
    (case l_Store_new_id => k_is)
    (case c_Store_new_id => k_is)
    (case k_Store_new_id => k_is)
    (case a_Store_block_count => k_is)
    (case pg_Store_block_count => k_is)
    (case pt_Store_block_count => k_is)
    (case pc_Store_block_count => k_is)
    (case l_Store_block_count => k_is)
    (case c_Store_block_count => k_is)
    (case k_Store_block_count => k_is)
    (case a_law_row => k_is)
    (case l_law_row => k_is)
    (case c_law_row => k_is)
    (case k_law_row => k_is)
    (case a_law_is_integer => k_is)
    (case l_law_is_integer => k_is)
    (case c_law_is_integer => k_is)
    (case k_law_is_integer => k_is)
    (case a_law_layout => k_is)
    (case l_law_layout => k_is)
    (case c_law_layout => k_is)
    (case k_law_layout => k_is)
    (case a_law_power => k_is)
    (case l_law_power => k_is)
    (case c_law_power => k_is)
    (case k_law_power => k_is)
    (case a_law_height => k_is)
    (case l_law_height => k_is)
    (case c_law_height => k_is)
    (case k_law_height => k_is)
    (case a_law_take => k_is)
    (case l_law_take => k_is)
    (case c_law_take => k_is)
    (case k_law_take => k_is)
    (case a_law_set => k_is)
    (case l_law_set => k_is)
    (case c_law_set => k_is)
    (case k_law_set => k_is)
    (case a_law_payload => k_is)
    (case l_law_payload => k_is)
    (case c_law_payload => k_is)
    (case k_law_payload => k_is)
    (case a_law_same => k_is)
    (case l_law_same => k_is)
    (case c_law_same => k_is)
    (case k_law_same => k_is)
    (case a_law_number => k_is)
    (case l_law_number => k_is)
    (case c_law_number => k_is)
    (case k_law_number => k_is)
    (case a_law_octets => k_is)
    (case l_law_octets => k_is)
    (case c_law_octets => k_is)
    (case k_law_octets => k_is)
    (case a_law => k_is)
    (case l_law => k_is)
    (case c_law => k_is)
    (case k_law => k_is)
    (case q_BLOCK_SIZES => k_is)
    (case y_BLOCK_SIZES => k_is)
    (case q_DATA => k_is)
    (case q_NODE => k_is)
    (case q_SUMMARY_HEAD => k_is)
    (case n_bool => k_is)
    (case n_dict => k_is)
    (case n_int => k_is)
    (case n_isinstance => k_is)
    (case n_len => k_is)
    (case n_list => k_is)
    (case n_max => k_is)
    (case n_range => k_is)
    (case n_reversed => k_is)
    (case n_sorted => k_is)
    (case n_tuple => k_is)

