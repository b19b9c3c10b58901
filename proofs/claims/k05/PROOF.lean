import PyProof.Rows.All
import Wide.All
import OpenK.AllK
import Wide.FinOn
import HandS.ForMost
import HandS.IsInst
import HandS.Style
import HandS.Wide
import HandS.Codes
import HandS.NoneIn
import HandS.Defaults
import HandS.TupMul
import HandS.Zip
import HandS.SetFor
import HandS.SetKeys
import HandS.Walk
import HandS.MakeKwOnly
import HandS.Style
import HandS.ForExc
import HandS.GenYield
import HandS.GenCall
import HandS.GenList
import KE.GoesEnum
import PyProof.ConsumeWalk
import PySem.Challenge.RW_segmentfs_k05_forks_of_a_device
set_option Elab.async false
set_option maxRecDepth 100000
set_option maxHeartbeats 4000000
/-! what every text of mine begins with: heaps that grow, and a rule for each head that a reading has -/
namespace Sg
open PySem L2
theorem sz : sizeLine = 16777216 := by decide
theorem Same.of_new {H H' : Hp} {p : Addr} {o : HO} (e : upd H p o = H') (h : H p = none) : Same H H' := fun b u q => by
  rw [← e, upd_ne (ne_of_none q h)]; exact q
theorem at_new {H H' : Hp} {p : Addr} {o : HO} (e : upd H p o = H') : H' p = some o := by rw [← e]; exact upd_same
theorem Same.tup {K : PySem.W.Frag} {H H' : Hp} {a : Addr} {xs : List V} (e : Same H H') (h : SqT K H a xs) : SqT K H' a xs := by
  rcases h with (h | ⟨o, h⟩) | h
  · exact .inl (.inl (e _ _ h))
  · exact .inl (.inr ⟨o, e _ _ h⟩)
  · exact .inr h
/-- an object that is younger than H0 is changed -/
theorem Same.old {H0 H H' : Hp} {p : Addr} {o : HO} (s : Same H0 H) (h : H0 p = none) (e : upd H p o = H') : Same H0 H' := fun b u q => by
  rw [← e, upd_ne (ne_of_none q h)]; exact s _ _ q
theorem at_keep {H H' : Hp} {l a : Addr} {o o' ol : HO} (e : upd H l o' = H') (h : H a = some o) (h' : H l = some ol) (d : o ≠ ol) : H' a = some o := by
  rw [← e, upd_ne (ne_of h h' d)]; exact h
theorem lk_eq {f : Str} {v : V} {fs : List (Str × V)} : (putF f v fs).lookup f = some v := by rw [lookup_putF, if_pos rfl]
theorem lk_ne {f g : Str} {v x : V} {fs : List (Str × V)} (h : ¬ g = f) (q : fs.lookup g = some v) : (putF f x fs).lookup g = some v := by rw [lookup_putF, if_neg h]; exact q
theorem lk_no {f g : Str} {x : V} {fs : List (Str × V)} (h : ¬ g = f) (q : fs.lookup g = none) : (putF f x fs).lookup g = none := by rw [lookup_putF, if_neg h]; exact q
theorem putF_len {f : Str} {v : V} : ∀ {fs : List (Str × V)} {n : Nat}, fs.length ≤ n → (putF f v fs).length ≤ n + 1
  | [], n, _ => by simp [putF]
  | (g, x) :: r, n, h => by
    unfold putF
    split
    · simp at h ⊢; omega
    · cases n with
      | zero => simp at h
      | succ n =>
        simp at h ⊢
        exact putF_len h
theorem to_ite {A B : Prop} {b : Bool} (h1 : b = true → A) (h2 : b = false → B) : if b = true then A else B := by
  cases b with
  | true => exact iteT (h1 rfl)
  | false => exact iteF (h2 rfl)
theorem iteT' {A B : Prop} (h : A) : if (true : Bool) = true then A else B := iteT h
theorem iteF' {A B : Prop} (h : B) : if (false : Bool) = true then A else B := iteF h
theorem r_iteb {A B : Prop} {b : Bool} (hb : b = true) (h : A) : if b = true then A else B := to_ite (fun _ => h) fun z => by rw [hb] at z; cases z
theorem r_iteB {A B : Prop} {b : Bool} (hb : b = false) (h : B) : if b = true then A else B := to_ite (fun z => by rw [hb] at z; cases z) fun _ => h
theorem r_ite {A B c : Prop} [Decidable c] (h1 : c → A) (h2 : ¬ c → B) : if decide c = true then A else B :=
  to_ite (fun h => h1 (of_decide_eq_true h)) (fun h => h2 (of_decide_eq_false h))
theorem r_iteN {A B c : Prop} [Decidable c] (h1 : ¬ c → A) (h2 : c → B) : if (!decide c) = true then A else B :=
  to_ite (fun h => h1 (by simpa using h)) (fun h => h2 (by simpa using h))
theorem r_iteD {A B c : Prop} [Decidable c] (hc : c) (h : A) : if decide c = true then A else B := r_ite (fun _ => h) fun z => absurd hc z
theorem r_iteDn {A B c : Prop} [Decidable c] (hc : ¬ c) (h : B) : if decide c = true then A else B := r_ite (fun z => absurd z hc) fun _ => h
theorem r_iteND {A B c : Prop} [Decidable c] (hc : ¬ c) (h : A) : if (!decide c) = true then A else B := r_iteN (fun _ => h) fun z => absurd z hc
theorem r_iteNDn {A B c : Prop} [Decidable c] (hc : c) (h : B) : if (!decide c) = true then A else B := r_iteN (fun z => absurd hc z) fun _ => h
/-- the continuations of a reading, by name -/
def kTest (QB : Bool → Hp → Prop) : V → Hp → Prop := fun x H => ∃ k, x = .bl k ∧ QB k H
def kFld (K : PySem.W.Frag) (f : Str) (Q : V → Hp → Prop) : V → Hp → Prop := fun x H => ∃ a C dx fs v, x = .ref a ∧ H a = some (.ins C dx fs) ∧ Cls K C ∧ NoAttr K C f ∧ fs.lookup f = some v ∧ Q v H
def kSfld (K : PySem.W.Frag) (D : Ends) (σ : L2.St) (f : Str) (y : V) : V → Hp → Prop := fun x H => ∃ a C dx fs, x = .ref a ∧ H a = some (.ins C dx fs) ∧ Cls K C ∧ NoAttr K C f ∧ fs.length < 1000 ∧
  D.nx σ (upd H a (.ins C dx (putF f y fs)))
def kMeth (C : Addr) (m : Str) (sp : Sp) (dvs : List V) (E : XK) (σ : L2.St) (t : TA) (Q : V → Hp → Prop) : V → Hp → Prop := fun x H => ∃ a dx fs, x = .ref a ∧ H a = some (.ins C dx fs) ∧ fs.lookup m = none ∧ t σ H fun vs H2 => sp (x :: (vs ++ dvs)) H2 Q E
def kTup (Q : V → Hp → Prop) : List V → Hp → Prop := fun xs H => xs.length ≤ sizeLine ∧ ∀ p, H p = none → Q (.ref p) (upd H p (.tup xs))
def kLst (Q : V → Hp → Prop) : List V → Hp → Prop := fun xs H => xs.length ≤ sizeLine ∧ ∀ p, H p = none → Q (.ref p) (upd H p (.lst xs))
def rLen (K : PySem.W.Frag) : List V → Hp → (V → Hp → Prop) → Prop := fun xs H Q => ∃ p ys, xs = [.ref p] ∧ (SqL K H p ys ∨ SqT K H p ys) ∧ Q (.int ys.length) H
theorem c_len {X : Cx} : CallR X (.builtin "len") (rLen X.K) := call_len_seq
def rInt : List V → Hp → (V → Hp → Prop) → Prop := fun xs H Q => (∃ i, xs = [.int i] ∧ Q (.int i) H) ∨ ∃ k, xs = [.bl k] ∧ Q (.int (if k then 1 else 0)) H
theorem c_int {X : Cx} : CallR X (.type "int") rInt := call_int1
def rListOf (K : PySem.W.Frag) : List V → Hp → (V → Hp → Prop) → Prop := fun xs H Q => ∃ p ys, xs = [.ref p] ∧ (SqL K H p ys ∨ SqT K H p ys) ∧ ∀ l, H l = none → Q (.ref l) (upd H l (.lst ys))
theorem c_list {X : Cx} : CallR X (.type "list") (rListOf X.K) := call_list_of
def rTupOf (K : PySem.W.Frag) : List V → Hp → (V → Hp → Prop) → Prop := fun xs H Q => ∃ p ys, xs = [.ref p] ∧ ((SqL K H p ys ∧ ∀ l, H l = none → Q (.ref l) (upd H l (.tup ys))) ∨ (SqT K H p ys ∧ Q (.ref p) H))
theorem c_tuple {X : Cx} : CallR X (.type "tuple") (rTupOf X.K) := call_tuple_of
/-! the same rules within a comprehension: the written part by its own name -/
section
variable {X : Cx}
theorem c_listK (K : PySem.W.Frag) (h : X.K = K) : CallR X (.type "list") (rListOf K) := by subst h; exact c_list
theorem c_tupleK (K : PySem.W.Frag) (h : X.K = K) : CallR X (.type "tuple") (rTupOf K) := by subst h; exact c_tuple
theorem c_lenK (K : PySem.W.Frag) (h : X.K = K) : CallR X (.builtin "len") (rLen K) := by subst h; exact c_len
theorem ix_listK (K : PySem.W.Frag) (h : X.K = K) : IxR X (rIxL K) := by subst h; exact ix_list
theorem ix_tupK (K : PySem.W.Frag) (h : X.K = K) : IxR X (rIxT K) := by subst h; exact ix_tup
theorem op_in_seqK (K : PySem.W.Frag) (h : X.K = K) : OpR X (compareOp .In) (rIn K false) := by subst h; exact op_in_seq
theorem op_notIn_seqK (K : PySem.W.Frag) (h : X.K = K) : OpR X (compareOp .NotIn) (rIn K true) := by subst h; exact op_notIn_seq
theorem pe_fldK (K : PySem.W.Frag) (h : X.K = K) {e : Expr} {f : Str} {pos : Pos} {ta : TE} (he : PE X e ta) (hb : attributeBase e f X.env (eval e X.env) = eval e X.env) : PE X (.Attribute e f pos) (tFld K ta f) := by subst h; exact pe_fld he hb
end
section
variable {σ : L2.St} {H : Hp} {D : Ends} {t u : TS} {te ta tb tc : TE} {g : TG} {c ct cu : TT} {Q : VK} {QB : Bool → Hp → Prop} {QS : L2.St → Hp → Prop} {QA : List V → Hp → Prop} {v x y : V} {K : PySem.W.Frag} {a p l : Addr} {xs ys : List V} {i j : Int} {b : Bool}
theorem r_seq (h : t { D with nx := u D } σ H) : tSeq t u D σ H := h
theorem r_cut (Mid : L2.St → Hp → Prop) (h1 : t { D with nx := Mid } σ H) (h2 : ∀ σ' H', Mid σ' H' → u D σ' H') : C8.tCut t u D σ H := ⟨Mid, h1, h2⟩
/-- a test with nothing kept behind it -/
theorem r_cutS (h1 : t { D with nx := fun σ' H' => σ = σ' ∧ H = H' } σ H) (h2 : u D σ H) : C8.tCut t u D σ H := ⟨_, h1, fun _ _ ⟨e1, e2⟩ => by subst e1; subst e2; exact h2⟩
/-- .. but a heap that grew -/
theorem r_cutH (h1 : t { D with nx := fun σ' H' => σ = σ' ∧ L2.Same H H' } σ H) (h2 : ∀ H', L2.Same H H' → u D σ H') : C8.tCut t u D σ H := ⟨_, h1, fun _ _ ⟨e1, e2⟩ => by subst e1; exact h2 _ e2⟩
theorem r_asg (h : te σ H fun x H1 => g x σ H1 D.nx) : tAsg te g D σ H := h
theorem r_drop (h : te σ H fun _ H1 => D.nx σ H1) : tDrop te D σ H := h
theorem r_ret (h : te σ H D.rt) : tRet te D σ H := h
theorem r_ifs (h : c σ H fun b H1 => if b = true then t D σ H1 else u D σ H1) : tIfS c t u D σ H := h
theorem r_next (h : D.nx σ H) : tNext D σ H := h
theorem r_gname {n : Nat} (h : QS (σ.set n (some v)) H) : gName n v σ H QS := h
theorem r_gtup {n : Nat} {t : TGs} (hx : SqT K H a xs) (hl : xs.length = n) (h : t xs σ H QS) : gTup K n t (.ref a) σ H QS := ⟨a, xs, rfl, hx, hl, h⟩
theorem r_gunl {n : Nat} {t : TGs} (hx : SqL K H a xs) (hl : xs.length = n) (h : t xs σ H QS) : gUnl K n t (.ref a) σ H QS := ⟨a, xs, rfl, hx, hl, h⟩
theorem r_chain {r r' : R2} (h : ta σ H fun x H1 => tb σ H1 fun y H2 => r x y H2 fun z H3 => ∃ k, z = .bl k ∧ (if k = true then tc σ H3 fun w' H4 => r' y w' H4 Q else Q (.bl false) H3)) : tChain r r' ta tb tc σ H Q := h
theorem r_sfldL {C dx : Addr} {fs : List (Str × V)} {f : Str} (h : H a = some (.ins C dx fs)) (hc : Cls K C) (hn : NoAttr K C f) (hl : fs.length < 1000) (q : D.nx σ (upd H a (.ins C dx (putF f y fs)))) : kSfld K D σ f y (.ref a) H := ⟨a, C, dx, fs, rfl, h, hc, hn, hl, q⟩
theorem r_gmap {α : Type} {f : α → V} {y : α} {r : List α} {t : TG} {u : TGs} (h : t (f y) σ H fun σ' H' => u (List.map f r) σ' H' QS) : gCons t u (List.map f (y :: r)) σ H QS := ⟨_, _, rfl, h⟩
theorem r_gmapn {α : Type} {f : α → V} (h : QS σ H) : gNil (List.map f []) σ H QS := ⟨rfl, h⟩
theorem r_gnil (h : QS σ H) : gNil [] σ H QS := ⟨rfl, h⟩
theorem r_gcons {t : TG} {u : TGs} {r : List V} (h : t v σ H fun σ' H' => u r σ' H' QS) : gCons t u (v :: r) σ H QS := ⟨v, r, rfl, h⟩
theorem r_gsub {t : TSet} (h : ta σ H fun o H1 => tb σ H1 fun i H2 => t o i v H2 fun H3 => QS σ H3) : gSub ta tb t v σ H QS := h
theorem r_setl {k : Int} {n : Nat} {R : Hp → Prop} (h1 : H p = some (.lst xs)) (h2 : ixN xs.length k = some n) (q : R (upd H p (.lst (xs.set n v)))) : rSetL (.ref p) (.int k) v H R := ⟨p, xs, k, n, rfl, rfl, h1, h2, q⟩
theorem r_var {n : Nat} (h : σ[n]? = some (some v)) (q : Q v H) : tVar n σ H Q := ⟨v, h, q⟩
theorem r_c (q : Q v H) : tC v σ H Q := q
theorem r_op {r : R2} (h : ta σ H fun x H1 => tb σ H1 fun y H2 => r x y H2 Q) : tOp r ta tb σ H Q := h
theorem r_un {r : V → Hp → VK → Prop} (h : ta σ H fun x H1 => r x H1 Q) : tUn r ta σ H Q := h
theorem r_rI {C : Int → Int → Prop} {g : Int → Int → V} (hc : C i j) (q : Q (g i j) H) : rI C g (.int i) (.int j) H Q := ⟨i, j, rfl, rfl, hc, q⟩
theorem r_mod (hc : 0 < j) (q : ∀ z : Int, z = i % j → 0 ≤ z → z < j → Q (.int z) H) : rI (fun _ j => 0 < j) (fun i j => .int (i % j)) (.int i) (.int j) H Q :=
  ⟨i, j, rfl, rfl, hc, q _ rfl (Int.emod_nonneg i (by omega)) (Int.emod_lt_of_pos i hc)⟩
theorem r_rI0 {g : Int → Int → V} (q : Q (g i j) H) : rI0 g (.int i) (.int j) H Q := ⟨i, j, rfl, rfl, q⟩
theorem r_rU {g : Int → V} (q : Q (g i) H) : rU g (.int i) H Q := ⟨i, rfl, q⟩
theorem r_eq (hs : scal x y = true) (q : Q (.bl (decide (x = y))) H) : rEq x y H Q := ⟨hs, q⟩
theorem r_ne (hs : scal x y = true) (q : Q (.bl (!decide (x = y))) H) : rNe x y H Q := ⟨hs, q⟩
theorem r_eqi (q : Q (.bl (decide (i = j))) H) : rEq (.int i) (.int j) H Q := ⟨rfl, by
  rw [show decide (V.int i = V.int j) = decide (i = j) from by by_cases e : i = j <;> simp [e]]; exact q⟩
theorem r_nei (q : Q (.bl (!decide (i = j))) H) : rNe (.int i) (.int j) H Q := ⟨rfl, by
  rw [show decide (V.int i = V.int j) = decide (i = j) from by by_cases e : i = j <;> simp [e]]; exact q⟩
theorem r_eqs {s t : Str} (q : Q (.bl (decide (s = t))) H) : rEq (.str s) (.str t) H Q := ⟨rfl, by
  rw [show decide (V.str s = V.str t) = decide (s = t) from by by_cases e : s = t <;> simp [e]]; exact q⟩
theorem r_nes {s t : Str} (q : Q (.bl (!decide (s = t))) H) : rNe (.str s) (.str t) H Q := ⟨rfl, by
  rw [show decide (V.str s = V.str t) = decide (s = t) from by by_cases e : s = t <;> simp [e]]; exact q⟩
theorem r_adds {s t : Str} (hz : s.length + t.length ≤ 1000000) (q : Q (.str (s ++ t)) H) : (fun (x y : V) (H : Hp) (Q : VK) => ∃ i j, x = .str i ∧ y = .str j ∧ i.length + j.length ≤ sizeLine ∧ Q (.str (i ++ j)) H) (.str s) (.str t) H Q := ⟨s, t, rfl, rfl, by rw [sz]; omega, q⟩
theorem r_nonR {A B : Prop} (h : A) : if (!decide (V.ref a = V.non)) = true then A else B := iteT' h
theorem r_nonN {A B : Prop} (h : B) : if (!decide (V.non = V.non)) = true then A else B := iteF' h
theorem r_isR {A B : Prop} (h : B) : if decide (V.ref a = V.non) = true then A else B := iteF' h
theorem r_isNN {A B : Prop} (h : A) : if decide (V.non = V.non) = true then A else B := iteT' h
theorem r_nonI {A B : Prop} (h : A) : if (!decide (V.int i = V.non)) = true then A else B := iteT' h
theorem r_isI {A B : Prop} (h : B) : if decide (V.int i = V.non) = true then A else B := iteF' h
theorem r_eqb {a b : Bool} (q : Q (.bl (decide (a = b))) H) : rEq (.bl a) (.bl b) H Q := ⟨rfl, by
  rw [show decide (V.bl a = V.bl b) = decide (a = b) from by by_cases e : a = b <;> simp [e]]; exact q⟩
theorem r_isS {A B : Prop} {z : Str} (h : B) : if decide (V.str z = V.non) = true then A else B := iteF' h
theorem r_nonS {A B : Prop} {z : Str} (h : A) : if (!decide (V.str z = V.non)) = true then A else B := iteT' h
theorem r_nil (q : QA [] H) : tNil σ H QA := q
theorem r_cons {tr : TA} (h : ta σ H fun x H1 => tr σ H1 fun xs H2 => QA (x :: xs) H2) : tCons ta tr σ H QA := h
theorem r_cb {r : List V → Hp → VK → Prop} {t : TA} (h : t σ H fun vs H1 => r vs H1 Q) : tCB r t σ H Q := h
theorem r_call {sp : Sp} {dvs : List V} {E : XK} {t : TA} (h : t σ H fun vs H1 => sp (vs ++ dvs) H1 Q E) : tCall sp dvs E t σ H Q := h
theorem r_make {C : Addr} {sp : Sp} {dvs : List V} {E : XK} {t : TA} (h : t σ H fun vs H1 => ∀ x dx, H1 x = none → H1 dx = none → dx ≠ x →
  sp (.ref x :: (vs ++ dvs)) (upd (upd H1 dx (.own x)) x (.ins C dx [])) (fun v H2 => v = .non ∧ Q (.ref x) H2) E) : tMake C sp dvs E t σ H Q := h
theorem r_meth {C : Addr} {m : Str} {sp : Sp} {dvs : List V} {E : XK} {t : TA} (h : ta σ H (kMeth C m sp dvs E σ t Q)) : tMeth C m sp dvs E ta t σ H Q := h
theorem r_methL {C : Addr} {dx : Addr} {fs : List (Str × V)} {m : Str} {sp : Sp} {dvs : List V} {E : XK} {t : TA} (h : H a = some (.ins C dx fs)) (hl : fs.lookup m = none) (q : t σ H fun vs H2 => sp (.ref a :: (vs ++ dvs)) H2 Q E) : kMeth C m sp dvs E σ t Q (.ref a) H := ⟨a, dx, fs, rfl, h, hl, q⟩
theorem r_fld {f : Str} (h : ta σ H (kFld K f Q)) : tFld K ta f σ H Q := h
theorem r_fldL {C dx : Addr} {fs : List (Str × V)} {f : Str} (h : H a = some (.ins C dx fs)) (hc : Cls K C) (hn : NoAttr K C f) (hl : fs.lookup f = some v) (q : Q v H) : kFld K f Q (.ref a) H := ⟨a, C, dx, fs, v, rfl, h, hc, hn, hl, q⟩
theorem r_sfld {f : Str} (h : tb σ H fun y H1 => ta σ H1 (kSfld K D σ f y)) : sFld K ta tb f D σ H := h
theorem r_test (h : te σ H (kTest QB)) : tTest te σ H QB := h
theorem r_tB (h : te σ H (kTest QB)) : tB te σ H QB := h
theorem r_exb (q : QB b H) : kTest QB (.bl b) H := ⟨b, rfl, q⟩
theorem r_and (h : ct σ H fun c H1 => if c = true then cu σ H1 QB else QB false H1) : tAnd ct cu σ H QB := h
theorem r_or (h : ct σ H fun c H1 => if c = true then QB true H1 else cu σ H1 QB) : tOr ct cu σ H QB := h
theorem r_not (h : ct σ H fun c H1 => QB (!c) H1) : tNot ct σ H QB := h
theorem r_andV (h : ta σ H fun x H1 => ∃ c, x = .bl c ∧ if c = true then tb σ H1 Q else Q (.bl false) H1) : tAndV ta tb σ H Q := h
theorem r_orV (h : ta σ H fun x H1 => ∃ c, x = .bl c ∧ if c = true then Q (.bl true) H1 else tb σ H1 Q) : tOrV ta tb σ H Q := h
theorem r_exbP {A : Bool → Prop} (q : A b) : ∃ c, V.bl b = .bl c ∧ A c := ⟨b, rfl, q⟩
theorem r_notV (h : ta σ H fun x H1 => ∃ c, x = .bl c ∧ Q (.bl (!c)) H1) : tNotV ta σ H Q := h
theorem r_tif (h : c σ H fun b H1 => if b = true then ta σ H1 Q else tb σ H1 Q) : tIf c ta tb σ H Q := h
theorem r_isN (h : ta σ H fun x H1 => Q (.bl (decide (x = .non))) H1) : tIsN ta σ H Q := h
theorem r_notN (h : ta σ H fun x H1 => Q (.bl (!decide (x = .non))) H1) : tNotN ta σ H Q := h
theorem r_tup {t : TA} (h : t σ H (kTup Q)) : tTup t σ H Q := h
theorem r_lst {t : TA} (h : t σ H (kLst Q)) : tLst t σ H Q := h
theorem r_ktup (hl : xs.length ≤ sizeLine) (h : ∀ p, H p = none → Q (.ref p) (upd H p (.tup xs))) : kTup Q xs H := ⟨hl, h⟩
theorem r_klst (hl : xs.length ≤ sizeLine) (h : ∀ p, H p = none → Q (.ref p) (upd H p (.lst xs))) : kLst Q xs H := ⟨hl, h⟩
theorem r_ixl (h : SqL K H p xs) (e : atI xs i = some v) (q : Q v H) : rIxL K (.ref p) (.int i) H Q := ⟨p, xs, i, v, rfl, rfl, h, e, q⟩
theorem r_ixt (h : SqT K H p xs) (e : atI xs i = some v) (q : Q v H) : rIxT K (.ref p) (.int i) H Q := ⟨p, xs, i, v, rfl, rfl, h, e, q⟩
theorem r_int (q : Q (.int i) H) : rInt [V.int i] H Q := .inl ⟨i, rfl, q⟩
theorem r_lenl (h : SqL K H p xs) (q : Q (.int xs.length) H) : rLen K [V.ref p] H Q := ⟨p, xs, rfl, .inl h, q⟩
theorem r_lent (h : SqT K H p xs) (q : Q (.int xs.length) H) : rLen K [V.ref p] H Q := ⟨p, xs, rfl, .inr h, q⟩
theorem r_listl (h : SqL K H p xs) (q : ∀ l, H l = none → Q (.ref l) (upd H l (.lst xs))) : rListOf K [V.ref p] H Q := ⟨p, xs, rfl, .inl h, q⟩
theorem r_listt (h : SqT K H p xs) (q : ∀ l, H l = none → Q (.ref l) (upd H l (.lst xs))) : rListOf K [V.ref p] H Q := ⟨p, xs, rfl, .inr h, q⟩
theorem r_tupl (h : SqL K H p xs) (q : ∀ l, H l = none → Q (.ref l) (upd H l (.tup xs))) : rTupOf K [V.ref p] H Q := ⟨p, xs, rfl, .inl ⟨h, q⟩⟩
theorem r_tupt (h : SqT K H p xs) (q : Q (.ref p) H) : rTupOf K [V.ref p] H Q := ⟨p, xs, rfl, .inr ⟨h, q⟩⟩
theorem r_in {neg : Bool} (h : SqL K H p xs ∨ SqT K H p xs) (fx : flatV x = true) (fs : xs.all flatV = true) (q : Q (.bl (if neg = true then !inV x xs else inV x xs)) H) : rIn K neg x (.ref p) H Q := ⟨p, xs, rfl, h, fx, fs, q⟩
theorem r_bm {T : String} {r : V → List V → Hp → VK → Prop} {t : TA} (h : ta σ H fun x H1 => tyV K T x H1 ∧ t σ H1 fun xs H2 => r x xs H2 Q) : tBM K T r ta t σ H Q := h
theorem r_bm0 {T : String} {r : V → List V → Hp → VK → Prop} (h : ta σ H fun x H1 => tyV K T x H1 ∧ r x [] H1 Q) : tBM0 K T r ta σ H Q := h
theorem r_tyl {A : Prop} (h : SqL K H l xs) (q : A) : tyV K "list" (.ref l) H ∧ A := ⟨.inl ⟨rfl, _, h⟩, q⟩
theorem r_app (h : H l = some (.lst xs)) (hl : xs.length < sizeLine) (q : Q .non (upd H l (.lst (xs ++ [v])))) : rAppend (.ref l) [v] H Q := ⟨l, xs, v, rfl, rfl, h, hl, q⟩
theorem r_isi {c : V} {t u : Value} (hc : ClsV c u) (ht : TyX K H x t) (hk : PySem.W.kitOne K t u = some b) (q : Q (.bl b) H) : rIsi K [x, c] H Q := ⟨x, c, t, u, b, rfl, hc, ht, hk, q⟩
theorem r_isb {a b : Bool} (q : Q (.bl (decide (a = b))) H) : rIsB (.bl a) (.bl b) H Q := ⟨a, b, rfl, rfl, q⟩
theorem r_notb {a b : Bool} (q : Q (.bl (!decide (a = b))) H) : rNotB (.bl a) (.bl b) H Q := ⟨a, b, rfl, rfl, q⟩
theorem r_eqd {d e : PyData} (h1 : Dp K H x d) (h2 : Dp K H y e) (s1 : SeqAt.shaped d = true) (s2 : SeqAt.shaped e = true) (q : Q (.bl (PyData.eqv d e)) H) : rEqD K x y H Q := ⟨d, e, h1, h2, s1, s2, q⟩
theorem r_ned {d e : PyData} (h1 : Dp K H x d) (h2 : Dp K H y e) (s1 : SeqAt.shaped d = true) (s2 : SeqAt.shaped e = true) (q : Q (.bl (!PyData.eqv d e)) H) : rNeD K x y H Q := ⟨d, e, h1, h2, s1, s2, q⟩
theorem r_rep {k : Int} (h : H l = some (.lst xs)) (h1 : -(2 ^ 63) ≤ k) (h2 : k < 2 ^ 63) (hz : xs.length * k.toNat ≤ sizeLine) (q : ∀ p, H p = none → Q (.ref p) (upd H p (.lst (List.replicate k.toNat xs).flatten))) : rRep (.ref l) (.int k) H Q := ⟨l, k, xs, rfl, rfl, h, h1, h2, hz, q⟩
theorem r_rep1 {k : Int} (h : H l = some (.lst [v])) (h1 : -1000000 ≤ k) (h2 : k ≤ 1000000) (q : ∀ p, H p = none → Q (.ref p) (upd H p (.lst (List.replicate k.toNat v)))) : rRep (.ref l) (.int k) H Q := ⟨l, k, [v], rfl, rfl, h, by omega, by omega, by rw [sz]; show 1 * _ ≤ _; omega, by
  rw [show (List.replicate k.toNat [v]).flatten = List.replicate k.toNat v from by
    generalize k.toNat = n
    induction n with
    | zero => rfl
    | succ n ih => rw [List.replicate_succ, List.flatten_cons, ih, List.replicate_succ]; rfl]
  exact q⟩
theorem r_cat (h : H l = some (.lst xs)) (h' : H p = some (.lst ys)) (hz : xs.length + ys.length ≤ sizeLine) (q : ∀ r, H r = none → Q (.ref r) (upd H r (.lst (xs ++ ys)))) : rCat (.ref l) (.ref p) H Q := ⟨l, p, xs, ys, rfl, rfl, h, h', hz, q⟩
theorem r_aug {n : Nat} {ti : TIp} (h : σ[n]? = some (some x)) (q : te σ H fun y H1 => ti x y H1 fun z H2 => D.nx (σ.set n (some z)) H2) : tAug n te ti D σ H := ⟨x, h, q⟩
theorem r_ipI {f : Int → Int → Int} (q : Q (.int (f i j)) H) : ipI f (.int i) (.int j) H Q := ⟨i, j, rfl, rfl, q⟩
theorem r_sorted {ns : List Int} (h : SqL K H a (ns.map V.int)) (h64 : ns.length < 64) (q : ∀ (ns' : List Int) (p : Addr), ns'.Perm ns → ns'.Pairwise (· ≤ ·) → H p = none → Q (.ref p) (upd H p (.lst (ns'.map V.int)))) : rSorted K [.ref a] H Q := ⟨a, ns, rfl, h, h64, q⟩
end
/-! slices, texts -/
def kPart (Q : Option Int → Hp → Prop) : V → Hp → Prop := fun x H => ∃ i, x = .int i ∧ Q (some i) H
section
variable {σ : L2.St} {H : Hp} {te : TE} {tl th : TO} {Q : V → Hp → Prop} {QO : Option Int → Hp → Prop} {K : PySem.W.Frag} {a : Addr} {xs : List V} {lo hi : Option Int} {i : Int} {z : Str}
theorem r_sl {r : V → Option Int → Option Int → Hp → VK → Prop} (h : te σ H fun x H1 => tl σ H1 fun l H2 => th σ H2 fun u H3 => r x l u H3 Q) : tSl r te tl th σ H Q := h
theorem r_noP (q : QO none H) : tNoPart σ H QO := q
theorem r_part (h : te σ H (kPart QO)) : tPart te σ H QO := h
theorem r_kPart (q : QO (some i) H) : kPart QO (.int i) H := ⟨i, rfl, q⟩
theorem r_slS (hl : z.length ≤ 1000000) (q : Q (.str (cutS z lo hi)) H) : rSlS (.str z) lo hi H Q := ⟨z, rfl, by rw [sz]; omega, q⟩
theorem r_slL (h : SqL K H a xs) (q : ∀ p, H p = none → Q (.ref p) (upd H p (.lst (cutV xs lo hi)))) : rSlL K (.ref a) lo hi H Q := ⟨a, xs, rfl, h, q⟩
end
/-! loops and comprehensions -/
def kLc (g : TG) (tt : TT) (te : TE) (vs : List Nat) (σ : L2.St) (Q : V → Hp → Prop) : It → Hp → Prop := fun J H1 => ∀ D, H1 D = none → ∃ W : Nat → Nat → Hp → Prop, (∃ m, W 0 m (upd H1 D (.lst []))) ∧ ∀ i m H, W i m H →
  (J.stop i H ∧ Q (.ref D) H) ∨ (J.go i H ∧ ∃ Nx : Hp → Prop, (∀ H', Nx H' → ∃ m', m' < m ∧ W (i + 1) m' H') ∧ ∀ x H', J.yld i H x H' → g x (wipe σ vs) H' fun σ2 H2 => wipe σ2 vs = wipe σ vs ∧ tt σ2 H2 fun b H3 =>
    if b = true then te σ2 H3 fun y H4 => ∃ acc, H4 D = some (.lst acc) ∧ acc.length < sizeLine ∧ Nx (upd H4 D (.lst (acc ++ [y]))) else Nx H3)
def kR1 (R : It → Hp → Prop) : List V → Hp → Prop := fun vs H1 => ∃ j : Int, vs = [.int j] ∧ -(2 ^ 62) ≤ j ∧ j < 2 ^ 62 ∧ R (Itr 0 j.toNat) H1
def kR2 (R : It → Hp → Prop) : List V → Hp → Prop := fun vs H1 => ∃ i j : Int, vs = [.int i, .int j] ∧ (-(2 ^ 62) ≤ i ∧ i < 2 ^ 62 ∧ -(2 ^ 62) ≤ j ∧ j < 2 ^ 62) ∧ R (Itr i (j - i).toNat) H1
def kIl (K : PySem.W.Frag) (R : It → Hp → Prop) : V → Hp → Prop := fun x H1 => ∃ a, x = .ref a ∧ (∃ xs, SqL K H1 a xs) ∧ R (Itl K a) H1
def kIt (K : PySem.W.Frag) (R : It → Hp → Prop) : V → Hp → Prop := fun x H1 => ∃ a, x = .ref a ∧ (∃ xs, SqT K H1 a xs) ∧ R (Itt K a) H1
def kFor (g : TG) (tb : TS) (D : Ends) (σ : L2.St) : It → Hp → Prop := fun J H1 => ∃ W : Nat → Nat → L2.St → Hp → Prop, (∃ m, W 0 m σ H1) ∧ ∀ i m σ H, W i m σ H →
  (J.stop i H ∧ D.nx σ H) ∨ (J.go i H ∧ ∃ N : L2.St → Hp → Prop, (∀ σ' H', N σ' H' → ∃ m', m' < m ∧ W (i + 1) m' σ' H') ∧ ∀ x H', J.yld i H x H' → g x σ H' fun σ2 H2 => tb { D with nx := N, ct := N, bk := D.nx } σ2 H2)
section
variable {σ : L2.St} {H : Hp} {D : Ends} {te : TE} {ta : TA} {g : TG} {tt : TT} {tb : TS} {wi : TI} {vs : List Nat} {Q : V → Hp → Prop} {R : It → Hp → Prop} {K : PySem.W.Frag} {a : Addr} {xs : List V} {i j : Int}
theorem r_lc (h : wi σ H (kLc g tt te vs σ Q)) : tLc wi g tt te vs σ H Q := h
theorem r_for (h : wi σ H (kFor g tb D σ)) : tFor wi g tb D σ H := h
theorem r_irng1 (h : ta σ H (kR1 R)) : iRng1 ta σ H R := h
theorem r_irng2 (h : ta σ H (kR2 R)) : iRng2 ta σ H R := h
theorem r_ilist (h : te σ H (kIl K R)) : iList K te σ H R := h
theorem r_itup (h : te σ H (kIt K R)) : iTup K te σ H R := h
theorem r_kR1 (h1 : -(2 ^ 62) ≤ j) (h2 : j < 2 ^ 62) (h : R (Itr 0 j.toNat) H) : kR1 R [.int j] H := ⟨j, rfl, h1, h2, h⟩
theorem r_kR2 (h1 : -(2 ^ 62) ≤ i ∧ i < 2 ^ 62 ∧ -(2 ^ 62) ≤ j ∧ j < 2 ^ 62) (h : R (Itr i (j - i).toNat) H) : kR2 R [.int i, .int j] H := ⟨i, j, rfl, h1, h⟩
theorem r_kIl (h1 : SqL K H a xs) (h : R (Itl K a) H) : kIl K R (.ref a) H := ⟨a, rfl, ⟨_, h1⟩, h⟩
theorem r_kIt (h1 : SqT K H a xs) (h : R (Itt K a) H) : kIt K R (.ref a) H := ⟨a, rfl, ⟨_, h1⟩, h⟩
theorem r_forR {lo : Int} {n : Nat} (Pv : Nat → L2.St → Hp → Prop) (h0 : Pv 0 σ H)
    (hs : ∀ i σ H, i < n → Pv i σ H → g (.int (lo + i)) σ H fun σ2 H2 => tb { D with nx := Pv (i + 1), ct := Pv (i + 1), bk := D.nx } σ2 H2) (hd : ∀ σ H, Pv n σ H → D.nx σ H) : kFor g tb D σ (Itr lo n) H := for_range Pv h0 hs hd
theorem r_forL (Pv : Nat → L2.St → Hp → Prop) (h0 : Pv 0 σ H) (hl : ∀ i σ H, i ≤ xs.length → Pv i σ H → SqL K H a xs)
    (hs : ∀ i x σ H, xs[i]? = some x → Pv i σ H → g x σ H fun σ2 H2 => tb { D with nx := Pv (i + 1), ct := Pv (i + 1), bk := D.nx } σ2 H2) (hd : ∀ σ H, Pv xs.length σ H → D.nx σ H) : kFor g tb D σ (Itl K a) H := for_list Pv h0 hl hs hd
theorem r_forT (Pv : Nat → L2.St → Hp → Prop) (h0 : Pv 0 σ H) (hl : ∀ i σ H, i ≤ xs.length → Pv i σ H → SqT K H a xs)
    (hs : ∀ i x σ H, xs[i]? = some x → Pv i σ H → g x σ H fun σ2 H2 => tb { D with nx := Pv (i + 1), ct := Pv (i + 1), bk := D.nx } σ2 H2) (hd : ∀ σ H, Pv xs.length σ H → D.nx σ H) : kFor g tb D σ (Itt K a) H := for_tup Pv h0 hl hs hd
/-- [e for x in range], e an int -/
theorem r_lcI {lo : Int} {n slot : Nat} (P : Nat → Int → Prop) (hn : n ≤ 100000) (hv : vs = [slot])
    (hs : ∀ (i : Nat) (H' : Hp), i < n → L2.Same H H' → ∀ R : V → Hp → Prop, (∀ z : Int, P i z → R (.int z) H') → te ((wipe σ vs).set slot (some (.int (lo + i)))) H' R)
    (q : ∀ (H' : Hp) (l : Addr) (zs : List Int), L2.Same H H' → H l = none → H' l = some (.lst (zs.map V.int)) → zs.length = n → (∀ (i : Nat) (z : Int), zs[i]? = some z → P i z) → Q (.ref l) H') :
    kLc (gName slot) tYes te vs σ Q (Itr lo n) H := by
  intro L hL
  have hw : ∀ (τ : L2.St) (x : V), wipe (τ.set slot (some x)) [slot] = wipe τ [slot] := fun τ x => by simp [wipe, List.set_set]
  have hw2 : wipe (wipe σ vs) vs = wipe σ vs := by subst hv; simp [wipe, List.set_set]
  refine lc_range (fun i H' => ∃ zs : List Int, zs.length = i ∧ H' L = some (.lst (zs.map V.int)) ∧ L2.Same H H' ∧ ∀ (k : Nat) (z : Int), zs[k]? = some z → P k z) ⟨[], rfl, upd_same, fun b o e => by rw [upd_ne (ne_of_none e hL)]; exact e, fun k z e => by simp at e⟩ ?_ ?_
  · rintro i H' hi ⟨zs, el, eL, s, hp⟩
    refine ⟨?_, ?_⟩
    · subst hv
      rw [hw]
      exact hw2
    · show te ((wipe σ vs).set slot (some (.int (lo + i)))) H' _
      refine hs i H' hi s _ fun z hz => ⟨_, eL, ?_, zs ++ [z], ?_, ?_, ?_, ?_⟩
      · rw [List.length_map, el]
        exact Nat.lt_of_lt_of_le (Nat.lt_of_lt_of_le hi hn) (by decide)
      · rw [List.length_append, el]; rfl
      · rw [upd_same, List.map_append]; rfl
      · intro b o e
        rw [upd_ne (ne_of_none e hL)]
        exact s _ _ e
      · intro k y e
        rw [List.getElem?_append] at e
        split at e
        · exact hp k y e
        · rename_i hk
          have ek : k = zs.length := by
            have := (List.getElem?_eq_some_iff.mp e).1
            simp at this
            omega
          subst ek
          simp at e
          rw [el, ← e]
          exact hz
  · rintro H' ⟨zs, el, eL, s, hp⟩
    exact q H' L zs s hL eL el hp
end
/-! named readings for texts, the lesser and the greater of two -/
def rLenS : List V → Hp → VK → Prop := fun xs H Q => ∃ z, xs = [.str z] ∧ z.length ≤ sizeLine ∧ Q (.int z.length) H
theorem c_lenS {X : Cx} : CallR X (.builtin "len") rLenS := call_len_str
def rMin2 : List V → Hp → VK → Prop := fun xs H Q => ∃ i j, xs = [.int i, .int j] ∧ Q (.int (if j < i then j else i)) H
theorem c_min2 {X : Cx} (hc : X.calm = true) : CallR X (.builtin "min") rMin2 := call_min2 hc
def rMax2 : List V → Hp → VK → Prop := fun xs H Q => ∃ i j, xs = [.int i, .int j] ∧ Q (.int (if j > i then j else i)) H
theorem c_max2 {X : Cx} (hc : X.calm = true) : CallR X (.builtin "max") rMax2 := call_max2 hc
def rAddT : R2 := fun x y H Q => ∃ i j, x = .str i ∧ y = .str j ∧ i.length + j.length ≤ sizeLine ∧ Q (.str (i ++ j)) H
theorem op_addT {X : Cx} : OpR X (binaryOp .Add) rAddT := op_add_str
section
variable {H : Hp} {Q : V → Hp → Prop} {z y : Str} {i j : Int}
theorem r_lenS (hl : z.length ≤ 1000000) (q : Q (.int z.length) H) : rLenS [.str z] H Q := ⟨z, rfl, by rw [sz]; omega, q⟩
theorem r_min2 (q : ∀ m : Int, m ≤ i → m ≤ j → m = i ∨ m = j → Q (.int m) H) : rMin2 [.int i, .int j] H Q := ⟨i, j, rfl, by split <;> exact q _ (by omega) (by omega) (by omega)⟩
theorem r_max2 (q : ∀ m : Int, i ≤ m → j ≤ m → m = i ∨ m = j → Q (.int m) H) : rMax2 [.int i, .int j] H Q := ⟨i, j, rfl, by split <;> exact q _ (by omega) (by omega) (by omega)⟩
theorem r_addT (hl : z.length + y.length ≤ 1000000) (q : Q (.str (z ++ y)) H) : rAddT (.str z) (.str y) H Q := ⟨z, y, rfl, rfl, by rw [sz]; omega, q⟩
end
def kIstr (R : It → Hp → Prop) : V → Hp → Prop := fun x H1 => ∃ z, x = .str z ∧ R (Its z) H1
theorem r_istr {te : TE} {σ : L2.St} {H : Hp} {R : It → Hp → Prop} (h : te σ H (kIstr R)) : iStr te σ H R := h
theorem r_kIs {z : Str} {H : Hp} {R : It → Hp → Prop} (h : R (Its z) H) : kIstr R (.str z) H := ⟨z, rfl, h⟩
end Sg
/-! data behind values, as the heap grows -/
namespace Sg
open PySem L2
mutual
theorem Dp.mono {K : PySem.W.Frag} {H H' : Hp} (s : L2.Same H H') : ∀ (d : PyData) (v : V), Dp K H v d → Dp K H' v d
  | .none, _, h => by cases h; exact .non
  | .bool b, _, h => by cases h; exact .bl b
  | .int i, _, h => by cases h; exact .int i
  | .str x, _, h => by cases h; exact .str x
  | .list ds, _, h => by
    cases h with
    | lst hs ha => exact .lst (L2.Same.seq s hs) (DpAll.mono s ds _ ha)
  | .tuple ds, _, h => by
    cases h with
    | tup hs ha => exact .tup (Sg.Same.tup s hs) (DpAll.mono s ds _ ha)
  | .dict _, _, h => by cases h
theorem DpAll.mono {K : PySem.W.Frag} {H H' : Hp} (s : L2.Same H H') : ∀ (ds : List PyData) (vs : List V), DpAll K H vs ds → DpAll K H' vs ds
  | [], _, h => by cases h; exact .nil
  | d :: ds, _, h => by
    cases h with
    | cons h1 h2 => exact .cons (Dp.mono s d _ h1) (DpAll.mono s ds _ h2)
end
theorem DpAll.ints {K : PySem.W.Frag} {H : Hp} : ∀ ns : List Int, DpAll K H (ns.map V.int) (ns.map PyData.int)
  | [] => .nil
  | n :: ns => .cons (.int n) (DpAll.ints ns)
theorem DpAll.at {K : PySem.W.Frag} {H : Hp} : ∀ {vs : List V} {ds : List PyData}, DpAll K H vs ds → ∀ (i : Nat) (v : V), vs[i]? = some v → ∃ d, ds[i]? = some d ∧ Dp K H v d
  | _, _, .nil, i, v, e => by simp at e
  | _, _, .cons h t, 0, v, e => by simp at e; subst e; exact ⟨_, rfl, h⟩
  | _, _, .cons h t, i + 1, v, e => by
    obtain ⟨d, e1, h1⟩ := DpAll.at t i v (by simpa using e)
    exact ⟨d, by simpa using e1, h1⟩
theorem DpAll.length {K : PySem.W.Frag} {H : Hp} : ∀ {vs : List V} {ds : List PyData}, DpAll K H vs ds → vs.length = ds.length
  | _, _, .nil => rfl
  | _, _, .cons _ t => by simp [DpAll.length t]
/-- data that can be compared, at most n deep -/
def Fl (n : Nat) (d : PyData) : Prop := d.canLay0 = true ∧ d.depth ≤ n
theorem Fl.int (i : Int) (n : Nat) : Fl n (.int i) := ⟨by simp [PyData.canLay0], by simp [PyData.depth]⟩
theorem Fl.non (n : Nat) : Fl n .none := ⟨by simp [PyData.canLay0], by simp [PyData.depth]⟩
theorem Fl.bool (b : Bool) (n : Nat) : Fl n (.bool b) := ⟨by simp [PyData.canLay0], by simp [PyData.depth]⟩
theorem Fl.all {n : Nat} : ∀ {ds : List PyData}, (∀ d ∈ ds, Fl n d) → PyData.canLayAll0 ds = true ∧ PyData.depthAll ds ≤ n
  | [], _ => ⟨by simp [PyData.canLayAll0], by simp [PyData.depthAll]⟩
  | d :: ds, h => by
    obtain ⟨h1, h2⟩ := h d List.mem_cons_self
    obtain ⟨h3, h4⟩ := Fl.all (ds := ds) fun x hx => h x (List.mem_cons_of_mem _ hx)
    refine ⟨by simp [PyData.canLayAll0, h1, h3], ?_⟩
    simp only [PyData.depthAll]
    exact Nat.max_le.mpr ⟨h2, h4⟩
theorem Fl.tup {n : Nat} {ds : List PyData} (h : ∀ d ∈ ds, Fl n d) : Fl (n + 1) (.tuple ds) := by
  obtain ⟨h1, h2⟩ := Fl.all h
  exact ⟨by simp [PyData.canLay0, h1], by simp only [PyData.depth]; omega⟩
theorem Fl.lst {n : Nat} {ds : List PyData} (h : ∀ d ∈ ds, Fl n d) : Fl (n + 1) (.list ds) := by
  obtain ⟨h1, h2⟩ := Fl.all h
  exact ⟨by simp [PyData.canLay0, h1], by simp only [PyData.depth]; omega⟩
theorem Fl.mono {n m : Nat} {d : PyData} (h : Fl n d) (hm : n ≤ m) : Fl m d := ⟨h.1, Nat.le_trans h.2 hm⟩
theorem Fl.ints (ns : List Int) : Fl 1 (.tuple (ns.map PyData.int)) := Fl.tup fun d hd => by
  obtain ⟨i, _, rfl⟩ := List.mem_map.mp hd
  exact Fl.int i 0
theorem Fl.intl (ns : List Int) : Fl 1 (.list (ns.map PyData.int)) := Fl.lst fun d hd => by
  obtain ⟨i, _, rfl⟩ := List.mem_map.mp hd
  exact Fl.int i 0
theorem Fl.nil {n : Nat} : ∀ d ∈ ([] : List PyData), Fl n d := fun d h => by cases h
theorem Fl.cons {n : Nat} {d : PyData} {ds : List PyData} (h : Fl n d) (t : ∀ x ∈ ds, Fl n x) : ∀ x ∈ d :: ds, Fl n x := fun x hx => by
  rcases List.mem_cons.mp hx with rfl | hx
  · exact h
  · exact t x hx
theorem Fl.mapi {n : Nat} {ns : List Int} : ∀ d ∈ ns.map PyData.int, Fl n d := fun d hd => by
  obtain ⟨i, _, rfl⟩ := List.mem_map.mp hd
  exact Fl.int i n
theorem Fl.shaped {n : Nat} {d : PyData} (h : Fl n d) (hn : n ≤ 64 := by decide) : SeqAt.shaped d = true := by
  unfold SeqAt.shaped
  rw [h.1, decide_eq_true (Nat.le_trans h.2 hn)]
  rfl
theorem Fl.self {n : Nat} {d : PyData} (h : Fl n d) : PyData.eqv d d = true := SeqAt.eqv_refl d h.1
/-! lists of ints -/
theorem ixN_ok {n : Nat} {k : Int} (h0 : 0 ≤ k) (h1 : k < n) : ixN n k = some k.toNat := by unfold ixN; rw [if_pos h0, if_pos h1]
theorem at_ints {ts : List Int} {k : Int} (h0 : 0 ≤ k) (h1 : k < ts.length) : atI (ts.map V.int) k = some (.int (ts.getD k.toNat 0)) := by
  obtain ⟨n, rfl⟩ := Int.eq_ofNat_of_zero_le h0
  have hn : n < ts.length := by omega
  refine atI_nat ?_
  rw [List.getElem?_map, List.getElem?_eq_getElem hn, List.getD_eq_getElem?_getD, Int.toNat_natCast, List.getElem?_eq_getElem hn]
  rfl
theorem rep_ints (n : Nat) (z : Int) : (List.replicate n [V.int z]).flatten = (List.replicate n z).map V.int := by
  induction n with
  | zero => rfl
  | succ n ih => rw [List.replicate_succ, List.flatten_cons, ih, List.replicate_succ, List.map_cons]; rfl
theorem set_ints (ts : List Int) (n : Nat) (z : Int) : (ts.map V.int).set n (.int z) = (ts.set n z).map V.int := by rw [List.map_set]
theorem eqv_ints {as bs : List Int} : PyData.eqv (.list (as.map PyData.int)) (.list (bs.map PyData.int)) = decide (as = bs) := by
  rw [PyData.eqv]
  induction as generalizing bs with
  | nil => cases bs <;> simp [PyData.eqvAll]
  | cons a as ih =>
    cases bs with
    | nil => simp [PyData.eqvAll]
    | cons b bs =>
      rw [List.map_cons, List.map_cons, PyData.eqvAll, ih, PyData.eqv]
      by_cases e : a = b
      · subst e; simp
      · simp [e]
theorem Dp.ints {K : PySem.W.Frag} {H : Hp} {a : Addr} {ns : List Int} (h : SqL K H a (ns.map V.int)) : Dp K H (.ref a) (.list (ns.map PyData.int)) := .lst h (DpAll.ints ns)
theorem Fl.intlS (ns : List Int) : SeqAt.shaped (.list (ns.map PyData.int)) = true := (Fl.intl ns).shaped
/-! a comprehension over a list, its items anything -/
/-- the heap without the list that grows -/
def hid (D : Addr) (H : Hp) : Hp := fun b => if b = D then none else H b
theorem hid_ne {D b : Addr} {H : Hp} (h : b ≠ D) : hid D H b = H b := by unfold hid; rw [if_neg h]
theorem hid_at {D : Addr} {H : Hp} : hid D H D = none := by unfold hid; rw [if_pos rfl]
theorem hid_same {D : Addr} {H : Hp} : L2.Same (hid D H) H := fun b o e => by
  by_cases hb : b = D
  · rw [hb, hid_at] at e; cases e
  · rw [hid_ne hb] at e; exact e
theorem of_hid {D b : Addr} {H : Hp} {o : HO} (e : hid D H b = some o) : b ≠ D ∧ H b = some o := by
  by_cases hb : b = D
  · rw [hb, hid_at] at e; cases e
  · rw [hid_ne hb] at e; exact ⟨hb, e⟩
theorem same_hid {D : Addr} {H H' : Hp} (s : L2.Same H H') (n : H D = none) : L2.Same H (hid D H') := fun b o e => by
  rw [hid_ne (ne_of_none e n)]; exact s _ _ e
theorem hid_upd {D : Addr} {H : Hp} {o : HO} : hid D (upd H D o) = hid D H := by
  funext b
  by_cases hb : b = D
  · rw [hb, hid_at, hid_at]
  · rw [hid_ne hb, hid_ne hb, upd_ne hb]
theorem hid_none {D : Addr} {H : Hp} (n : H D = none) : hid D H = H := by
  funext b
  by_cases hb : b = D
  · rw [hb, hid_at, n]
  · rw [hid_ne hb]
theorem r_lcL {K : PySem.W.Frag} {a : Addr} {xs : List V} {slot : Nat} {vs : List Nat} {te : TE} {σ : L2.St} {H : Hp} {Q : V → Hp → Prop} (P : Nat → List V → Hp → Prop) (hx : SqL K H a xs) (hn : xs.length ≤ 100000) (hv : vs = [slot])
    (h0 : P 0 [] H)
    (hs : ∀ (i : Nat) (x : V) (acc : List V) (H0 H' : Hp), xs[i]? = some x → L2.Same H H0 → P i acc H0 → L2.Same H0 H' → ∀ R : V → Hp → Prop,
      (∀ (v : V) (H'' : Hp), L2.Same H' H'' → (∀ D, H0 D = none → H' D ≠ none → P (i + 1) (acc ++ [v]) (hid D H'')) → R v H'') → te ((wipe σ vs).set slot (some x)) H' R)
    (q : ∀ (H' : Hp) (l : Addr) (acc : List V), L2.Same H H' → H l = none → H' l = some (.lst acc) → acc.length = xs.length → P xs.length acc (hid l H') → Q (.ref l) H') :
    kLc (gName slot) tYes te vs σ Q (Itl K a) H := by
  intro L hL
  have hw : ∀ (τ : L2.St) (x : V), wipe (τ.set slot (some x)) [slot] = wipe τ [slot] := fun τ x => by simp [wipe, List.set_set]
  have hw2 : wipe (wipe σ vs) vs = wipe σ vs := by subst hv; simp [wipe, List.set_set]
  refine lc_list (xs := xs) (fun i H' => ∃ acc : List V, acc.length = i ∧ H' L = some (.lst acc) ∧ L2.Same H H' ∧ P i acc (hid L H')) ⟨[], rfl, upd_same, fun b o e => by rw [upd_ne (ne_of_none e hL)]; exact e, by rw [hid_upd, hid_none hL]; exact h0⟩ ?_ ?_ ?_
  · rintro i H' hi ⟨acc, _, _, s, _⟩
    exact s.seq hx
  · rintro i x H' hi ⟨acc, el, eL, s, hp⟩
    refine ⟨?_, ?_⟩
    · subst hv
      rw [hw]
      exact hw2
    · show te ((wipe σ vs).set slot (some x)) H' _
      refine hs i x acc (hid L H') H' hi (same_hid s hL) hp hid_same _ fun v H'' s2 hP => ⟨acc, s2 _ _ eL, ?_, acc ++ [v], ?_, upd_same, ?_, ?_⟩
      · have := (List.getElem?_eq_some_iff.mp hi).1
        rw [el, sz]
        omega
      · rw [List.length_append, el]; rfl
      · intro b o e
        rw [upd_ne (ne_of_none e hL)]
        exact s2 _ _ (s _ _ e)
      · rw [hid_upd]
        exact hP L hid_at (by rw [eL]; intro z; cases z)
  · rintro H' ⟨acc, el, eL, s, hp⟩
    exact q H' L acc s hL eL el hp
end Sg
namespace Sg
open PySem L2
def top (i : Nat) : Stmt := PySem.Challenge.pw_segmentfs_k05_forks_of_a_device.main.body.getD i (.Pass ⟨0, 0, 0, 0⟩)
abbrev s_Device___init : Stmt := inClass (top 2) 0
abbrev s_Device_read : Stmt := inClass (top 2) 1
abbrev s_Device_write : Stmt := inClass (top 2) 2
abbrev s_Device_barrier : Stmt := inClass (top 2) 3
abbrev s_Device_cut_after : Stmt := inClass (top 2) 4
abbrev s_Device_was_cut : Stmt := inClass (top 2) 5
abbrev s_Device_pending : Stmt := inClass (top 2) 6
abbrev s_Device_sure_blocks : Stmt := inClass (top 2) 7
abbrev s_Device_written_blocks : Stmt := inClass (top 2) 9
abbrev s_Device_fork : Stmt := inClass (top 2) 10
abbrev s_Device__takes_place : Stmt := inClass (top 2) 11
abbrev s_put_block : Stmt := top 3
abbrev s_Layout___init : Stmt := inClass (top 10) 0
abbrev s_parts_of : Stmt := top 11
abbrev s_law_row : Stmt := top 13
abbrev s_law_digits : Stmt := top 14
abbrev s_law_layout : Stmt := top 15
abbrev s_law_block : Stmt := top 16
abbrev s_law_step : Stmt := top 17
abbrev s_law_agrees : Stmt := top 18
abbrev s_law : Stmt := top 19
abbrev n_Device___init : List Str := ["self", "layout", "blocks"]
theorem sc_Device___init : FnScope n_Device___init ["self", "layout", "blocks"] (defScope s_Device___init) := ⟨rfl, rfl, rfl, by decide +kernel, rfl, by decide +kernel, by decide +kernel⟩
abbrev n_Device_read : List Str := ["self", "address"]
theorem sc_Device_read : FnScope n_Device_read ["self", "address"] (defScope s_Device_read) := ⟨rfl, rfl, rfl, by decide +kernel, rfl, by decide +kernel, by decide +kernel⟩
abbrev n_Device_write : List Str := ["self", "address", "block"]
theorem sc_Device_write : FnScope n_Device_write ["self", "address", "block"] (defScope s_Device_write) := ⟨rfl, rfl, rfl, by decide +kernel, rfl, by decide +kernel, by decide +kernel⟩
abbrev n_Device_barrier : List Str := ["self", "address", "block"]
theorem sc_Device_barrier : FnScope n_Device_barrier ["self"] (defScope s_Device_barrier) := ⟨rfl, rfl, rfl, by decide +kernel, rfl, by decide +kernel, by decide +kernel⟩
abbrev n_Device_cut_after : List Str := ["self", "count"]
theorem sc_Device_cut_after : FnScope n_Device_cut_after ["self", "count"] (defScope s_Device_cut_after) := ⟨rfl, rfl, rfl, by decide +kernel, rfl, by decide +kernel, by decide +kernel⟩
abbrev n_Device_was_cut : List Str := ["self"]
theorem sc_Device_was_cut : FnScope n_Device_was_cut ["self"] (defScope s_Device_was_cut) := ⟨rfl, rfl, rfl, by decide +kernel, rfl, by decide +kernel, by decide +kernel⟩
abbrev n_Device_pending : List Str := ["self"]
theorem sc_Device_pending : FnScope n_Device_pending ["self"] (defScope s_Device_pending) := ⟨rfl, rfl, rfl, by decide +kernel, rfl, by decide +kernel, by decide +kernel⟩
abbrev n_Device_sure_blocks : List Str := ["self"]
theorem sc_Device_sure_blocks : FnScope n_Device_sure_blocks ["self"] (defScope s_Device_sure_blocks) := ⟨rfl, rfl, rfl, by decide +kernel, rfl, by decide +kernel, by decide +kernel⟩
abbrev n_Device_written_blocks : List Str := ["self", "address", "block"]
theorem sc_Device_written_blocks : GScope n_Device_written_blocks ["self"] (defScope s_Device_written_blocks) := ⟨rfl, rfl, rfl, by decide +kernel, rfl, by decide +kernel, by decide +kernel⟩
abbrev n_Device_fork : List Str := ["self", "twin"]
theorem sc_Device_fork : FnScope n_Device_fork ["self"] (defScope s_Device_fork) := ⟨rfl, rfl, rfl, by decide +kernel, rfl, by decide +kernel, by decide +kernel⟩
abbrev n_Device__takes_place : List Str := ["self"]
theorem sc_Device__takes_place : FnScope n_Device__takes_place ["self"] (defScope s_Device__takes_place) := ⟨rfl, rfl, rfl, by decide +kernel, rfl, by decide +kernel, by decide +kernel⟩
abbrev n_put_block : List Str := ["blocks", "address", "block"]
theorem sc_put_block : FnScope n_put_block ["blocks", "address", "block"] (defScope s_put_block) := ⟨rfl, rfl, rfl, by decide +kernel, rfl, by decide +kernel, by decide +kernel⟩
abbrev n_Layout___init : List Str := ["self", "segments", "segment_blocks", "block_size"]
theorem sc_Layout___init : FnScope n_Layout___init ["self", "segments", "segment_blocks", "block_size"] (defScope s_Layout___init) := ⟨rfl, rfl, rfl, by decide +kernel, rfl, by decide +kernel, by decide +kernel⟩
abbrev n_parts_of : List Str := ["number", "size"]
theorem sc_parts_of : FnScope n_parts_of ["number", "size"] (defScope s_parts_of) := ⟨rfl, rfl, rfl, by decide +kernel, rfl, by decide +kernel, by decide +kernel⟩
abbrev n_law_row : List Str := ["script", "k", "cell", "first", "second"]
theorem sc_law_row : FnScope n_law_row ["script", "k"] (defScope s_law_row) := ⟨rfl, rfl, rfl, by decide +kernel, rfl, by decide +kernel, by decide +kernel⟩
abbrev n_law_digits : List Str := ["row", "sizes", "digits", "size"]
theorem sc_law_digits : FnScope n_law_digits ["row", "sizes"] (defScope s_law_digits) := ⟨rfl, rfl, rfl, by decide +kernel, rfl, by decide +kernel, by decide +kernel⟩
abbrev n_law_layout : List Str := ["row", "choice", "more", "size", "segments", "blocks", "ids"]
theorem sc_law_layout : FnScope n_law_layout ["row"] (defScope s_law_layout) := ⟨rfl, rfl, rfl, by decide +kernel, rfl, by decide +kernel, by decide +kernel⟩
abbrev n_law_block : List Str := ["layout", "row", "sequence", "choice", "rank", "rest", "key"]
theorem sc_law_block : FnScope n_law_block ["layout", "row", "sequence"] (defScope s_law_block) := ⟨rfl, rfl, rfl, by decide +kernel, rfl, by decide +kernel, by decide +kernel⟩
abbrev n_law_step : List Str := ["device", "model", "kind", "address", "block", "number", "seen"]
theorem sc_law_step : FnScope n_law_step ["device", "model", "kind", "address", "block", "number"] (defScope s_law_step) := ⟨rfl, rfl, rfl, by decide +kernel, rfl, by decide +kernel, by decide +kernel⟩
abbrev n_law_agrees : List Str := ["device", "model", "addresses", "address"]
theorem sc_law_agrees : FnScope n_law_agrees ["device", "model", "addresses"] (defScope s_law_agrees) := ⟨rfl, rfl, rfl, by decide +kernel, rfl, by decide +kernel, by decide +kernel⟩
abbrev n_law : List Str := ["script", "layout", "count", "moment", "often", "empty", "devices", "models", "k", "row", "which", "kind", "near", "address", "other", "number", "rest", "first", "twin", "j", "seen", "at"]
theorem sc_law : FnScope n_law ["script"] (defScope s_law) := ⟨rfl, rfl, rfl, by decide +kernel, rfl, by decide +kernel, by decide +kernel⟩
structure Txt (K : PySem.W.Frag) (mg : Str → Option Value) where
  a_Device___init : Addr
  fd_Device___init : FuncData
  a_Device_read : Addr
  fd_Device_read : FuncData
  a_Device_write : Addr
  fd_Device_write : FuncData
  a_Device_barrier : Addr
  fd_Device_barrier : FuncData
  a_Device_cut_after : Addr
  fd_Device_cut_after : FuncData
  a_Device_was_cut : Addr
  fd_Device_was_cut : FuncData
  a_Device_pending : Addr
  fd_Device_pending : FuncData
  a_Device_sure_blocks : Addr
  fd_Device_sure_blocks : FuncData
  a_Device_written_blocks : Addr
  fd_Device_written_blocks : FuncData
  a_Device_fork : Addr
  fd_Device_fork : FuncData
  a_Device__takes_place : Addr
  fd_Device__takes_place : FuncData
  a_put_block : Addr
  fd_put_block : FuncData
  a_Layout___init : Addr
  fd_Layout___init : FuncData
  a_parts_of : Addr
  fd_parts_of : FuncData
  a_law_row : Addr
  fd_law_row : FuncData
  a_law_digits : Addr
  fd_law_digits : FuncData
  a_law_layout : Addr
  fd_law_layout : FuncData
  a_law_block : Addr
  fd_law_block : FuncData
  a_law_step : Addr
  fd_law_step : FuncData
  a_law_agrees : Addr
  fd_law_agrees : FuncData
  a_law : Addr
  fd_law : FuncData
  A_Device : Addr
  A_Layout : Addr
  a_BLOCK_SIZES : Addr
  t_SUMMARY_HEAD : Tok
  F_Device___init : FunD K "__init__" "Device.__init__" (defArgs s_Device___init) (defBody s_Device___init) (defScope s_Device___init) [V.non] [] a_Device___init fd_Device___init
  ds_Device___init_2 : List Value
  v_Device___init_2 : Vals [V.non] ds_Device___init_2
  b_Device___init_2 : Binds K fd_Device___init ["self", "layout", "blocks"] ds_Device___init_2
  b_Device___init : Binds K fd_Device___init ["self", "layout", "blocks"] []
  F_Device_read : Fun K "read" "Device.read" s_Device_read a_Device_read fd_Device_read
  b_Device_read : Binds K fd_Device_read ["self", "address"] []
  me_Device_read : Meth K A_Device "read" a_Device_read
  F_Device_write : Fun K "write" "Device.write" s_Device_write a_Device_write fd_Device_write
  b_Device_write : Binds K fd_Device_write ["self", "address", "block"] []
  me_Device_write : Meth K A_Device "write" a_Device_write
  F_Device_barrier : Fun K "barrier" "Device.barrier" s_Device_barrier a_Device_barrier fd_Device_barrier
  b_Device_barrier : Binds K fd_Device_barrier ["self"] []
  me_Device_barrier : Meth K A_Device "barrier" a_Device_barrier
  F_Device_cut_after : Fun K "cut_after" "Device.cut_after" s_Device_cut_after a_Device_cut_after fd_Device_cut_after
  b_Device_cut_after : Binds K fd_Device_cut_after ["self", "count"] []
  me_Device_cut_after : Meth K A_Device "cut_after" a_Device_cut_after
  F_Device_was_cut : Fun K "was_cut" "Device.was_cut" s_Device_was_cut a_Device_was_cut fd_Device_was_cut
  b_Device_was_cut : Binds K fd_Device_was_cut ["self"] []
  me_Device_was_cut : Meth K A_Device "was_cut" a_Device_was_cut
  F_Device_pending : Fun K "pending" "Device.pending" s_Device_pending a_Device_pending fd_Device_pending
  b_Device_pending : Binds K fd_Device_pending ["self"] []
  me_Device_pending : Meth K A_Device "pending" a_Device_pending
  F_Device_sure_blocks : Fun K "sure_blocks" "Device.sure_blocks" s_Device_sure_blocks a_Device_sure_blocks fd_Device_sure_blocks
  b_Device_sure_blocks : Binds K fd_Device_sure_blocks ["self"] []
  me_Device_sure_blocks : Meth K A_Device "sure_blocks" a_Device_sure_blocks
  F_Device_written_blocks : Fun K "written_blocks" "Device.written_blocks" s_Device_written_blocks a_Device_written_blocks fd_Device_written_blocks
  b_Device_written_blocks : Binds K fd_Device_written_blocks ["self"] []
  me_Device_written_blocks : Meth K A_Device "written_blocks" a_Device_written_blocks
  F_Device_fork : Fun K "fork" "Device.fork" s_Device_fork a_Device_fork fd_Device_fork
  b_Device_fork : Binds K fd_Device_fork ["self"] []
  me_Device_fork : Meth K A_Device "fork" a_Device_fork
  F_Device__takes_place : Fun K "_takes_place" "Device._takes_place" s_Device__takes_place a_Device__takes_place fd_Device__takes_place
  b_Device__takes_place : Binds K fd_Device__takes_place ["self"] []
  me_Device__takes_place : Meth K A_Device "_takes_place" a_Device__takes_place
  F_put_block : Fun K "_put_block" "_put_block" s_put_block a_put_block fd_put_block
  b_put_block : Binds K fd_put_block ["blocks", "address", "block"] []
  m_put_block : mg "_put_block" = some (.ref a_put_block)
  F_Layout___init : Fun K "__init__" "Layout.__init__" s_Layout___init a_Layout___init fd_Layout___init
  b_Layout___init : Binds K fd_Layout___init ["self", "segments", "segment_blocks", "block_size"] []
  F_parts_of : Fun K "parts_of" "parts_of" s_parts_of a_parts_of fd_parts_of
  b_parts_of : Binds K fd_parts_of ["number", "size"] []
  m_parts_of : mg "parts_of" = some (.ref a_parts_of)
  F_law_row : Fun K "_law_row" "_law_row" s_law_row a_law_row fd_law_row
  b_law_row : Binds K fd_law_row ["script", "k"] []
  m_law_row : mg "_law_row" = some (.ref a_law_row)
  F_law_digits : Fun K "_law_digits" "_law_digits" s_law_digits a_law_digits fd_law_digits
  b_law_digits : Binds K fd_law_digits ["row", "sizes"] []
  m_law_digits : mg "_law_digits" = some (.ref a_law_digits)
  F_law_layout : Fun K "_law_layout" "_law_layout" s_law_layout a_law_layout fd_law_layout
  b_law_layout : Binds K fd_law_layout ["row"] []
  m_law_layout : mg "_law_layout" = some (.ref a_law_layout)
  F_law_block : Fun K "_law_block" "_law_block" s_law_block a_law_block fd_law_block
  b_law_block : Binds K fd_law_block ["layout", "row", "sequence"] []
  m_law_block : mg "_law_block" = some (.ref a_law_block)
  F_law_step : Fun K "_law_step" "_law_step" s_law_step a_law_step fd_law_step
  b_law_step : Binds K fd_law_step ["device", "model", "kind", "address", "block", "number"] []
  m_law_step : mg "_law_step" = some (.ref a_law_step)
  F_law_agrees : Fun K "_law_agrees" "_law_agrees" s_law_agrees a_law_agrees fd_law_agrees
  b_law_agrees : Binds K fd_law_agrees ["device", "model", "addresses"] []
  m_law_agrees : mg "_law_agrees" = some (.ref a_law_agrees)
  F_law : Fun K "law" "law" s_law a_law fd_law
  b_law : Binds K fd_law ["script"] []
  m_law : mg "law" = some (.ref a_law)
  m_Device : mg "Device" = some (.ref A_Device)
  cl_Device : Cls K A_Device
  M_Device : Mk K A_Device a_Device___init
  na_Device_layout : NoAttr K A_Device "layout"
  na_Device__sure : NoAttr K A_Device "_sure"
  na_Device__shown : NoAttr K A_Device "_shown"
  na_Device__unsure : NoAttr K A_Device "_unsure"
  na_Device__commands_left : NoAttr K A_Device "_commands_left"
  na_Device__power_is_off : NoAttr K A_Device "_power_is_off"
  m_Layout : mg "Layout" = some (.ref A_Layout)
  cl_Layout : Cls K A_Layout
  M_Layout : Mk K A_Layout a_Layout___init
  na_Layout_segments : NoAttr K A_Layout "segments"
  na_Layout_segment_blocks : NoAttr K A_Layout "segment_blocks"
  na_Layout_block_size : NoAttr K A_Layout "block_size"
  na_Layout_payload : NoAttr K A_Layout "payload"
  na_Layout_limit : NoAttr K A_Layout "limit"
  na_Layout_last_id : NoAttr K A_Layout "last_id"
  na_Layout_fan : NoAttr K A_Layout "fan"
  na_Layout_region_blocks : NoAttr K A_Layout "region_blocks"
  na_Layout_device_blocks : NoAttr K A_Layout "device_blocks"
  c_BLOCK_SIZES : mg "BLOCK_SIZES" = some (.ref a_BLOCK_SIZES)
  r_BLOCK_SIZES : RelV (.ref a_BLOCK_SIZES) (.ref a_BLOCK_SIZES)
  v_BLOCK_SIZES : ∀ H : Hp, SqT K H a_BLOCK_SIZES [.int 64, .int 128, .int 256]
  c_SUMMARY_HEAD : mg "SUMMARY_HEAD" = some (.int 16 t_SUMMARY_HEAD)
  r_SUMMARY_HEAD : RelV (.int 16) (.int 16 t_SUMMARY_HEAD)
  n_enumerate : mg "enumerate" = none
  n_int : mg "int" = none
  n_len : mg "len" = none
  n_list : mg "list" = none
  n_range : mg "range" = none
end Sg
namespace Sg
open PySem L2
local macro_rules | `(tactic| walk_at "size") => `(tactic| first | ((simp only [List.length_append, List.length_cons, List.length_nil, List.length_map, Sg.sz]) <;> omega) | (rw [Sg.sz]; simp <;> omega))
local macro_rules | `(tactic| walk_at "side") => `(tactic| first | with_reducible rfl | with_reducible assumption | (show (_ : Int) < _; omega) | omega | (simp only [List.length_map]; omega) | assumption | rfl | decide | exact Or.inr ⟨by decide, by decide⟩ | exact Or.inl ⟨by decide, by decide⟩ | exact Or.inr ⟨by omega, by omega⟩ | exact Or.inl ⟨by omega, by omega⟩ | exact ⟨by omega, by omega⟩ | exact ⟨by decide, by decide, by decide⟩ | (simp; done))
local macro_rules | `(tactic| walk_at "hp") => `(tactic| first | assumption | (refine' L2.SqT.of ?h1; (case h1 => walk_at "hp")) | (refine' L2.SqL.of ?h1; (case h1 => walk_at "hp")) | (refine' Sg.Same.tup ?h1 ?h2; (case h1 => assumption); (case h2 => walk_at "hp")) | (refine' L2.Same.seq ?h1 ?h2; (case h1 => assumption); (case h2 => walk_at "hp")) | (refine' (show L2.Same _ _ from ?h1) _ _ ?h2; (case h1 => assumption); (case h2 => walk_at "hp")) | (refine' Sg.at_keep ?he ?h1 ?h2 ?h3; (case he => assumption); (case h1 => walk_at "hp"); (case h2 => walk_at "hp"); (case h3 => (intro z; cases z))))
local macro_rules | `(tactic| walk_at "al") => `(tactic| (intro p hn; generalize hH : upd _ _ _ = H'; have hs := Sg.Same.of_new hH hn; have ho := Sg.at_new hH; clear hH))
local macro_rules | `(tactic| walk_at "sm1") => `(tactic| first | (refine' L2.Same.trans ?ha ?hb; (case hb => assumption)) | (refine' Sg.Same.old ?ha ?hb ?hc; (case hc => assumption); (case hb => walk_at "nn")))
local macro_rules | `(tactic| walk_at "sm") => `(tactic| first | exact L2.Same.refl _ | assumption | (walk_at "sm1"; walk_at "sm"))
local macro_rules | `(tactic| walk_at "nn") => `(tactic| first | assumption | ((refine' L2.Same.free ?ha ?hb; (case hb => assumption)); walk_at "sm"))
local macro_rules | `(tactic| walk_at "dp") => `(tactic| first | assumption | exact L2.Dp.int _ | exact L2.Dp.non | exact L2.Dp.bl _ | exact L2.Dp.str _ | (refine' L2.Dp.tup ?ha ?hb; (case ha => walk_at "hp"); (case hb => walk_at "dpa")) | (refine' L2.Dp.lst ?ha ?hb; (case ha => walk_at "hp"); (case hb => walk_at "dpa")))
local macro_rules | `(tactic| walk_at "dpa") => `(tactic| first | assumption | exact L2.DpAll.nil | exact Sg.DpAll.ints _ | (refine' L2.DpAll.cons ?ha ?hb; (case ha => walk_at "dp"); (case hb => walk_at "dpa")))
local macro_rules | `(tactic| walk_at "fl") => `(tactic| first | assumption | exact Sg.Fl.int _ _ | exact Sg.Fl.non _ | exact Sg.Fl.bool _ _ | (refine' Sg.Fl.tup ?ha; (case ha => walk_at "fla")) | (refine' Sg.Fl.lst ?ha; (case ha => walk_at "fla")))
local macro_rules | `(tactic| walk_at "fla") => `(tactic| first | assumption | exact Sg.Fl.nil | exact Sg.Fl.mapi | (refine' Sg.Fl.cons ?ha ?hb; (case ha => walk_at "fl"); (case hb => walk_at "fla")))
local macro_rules | `(tactic| walk_at "tyx") => `(tactic| first | exact L2.TyX.base (L2.TyOf.int _) | exact L2.TyX.base (L2.TyOf.bl _) | exact L2.TyX.base L2.TyOf.non | exact L2.TyX.base (L2.TyOf.str _) | (refine' L2.TyX.base (L2.TyOf.tup ?ha); (case ha => walk_at "hp")) | (refine' L2.TyX.base (L2.TyOf.lst ?ha); (case ha => walk_at "hp")) | (refine' L2.TyX.base (L2.TyOf.frz ?ha); (case ha => walk_at "hp")))
local macro_rules | `(tactic| walk_at "up") => `(tactic| (generalize hH : upd _ _ _ = H'; have ho := Sg.at_new hH))
local macro_rules | `(tactic| walk_at "lk") => `(tactic| first | with_reducible assumption | with_reducible exact Sg.lk_eq | (refine' Sg.lk_ne ?ha ?hb; (case ha => decide +kernel); (case hb => walk_at "lk")) | (refine' Sg.lk_no ?ha ?hb; (case ha => decide +kernel); (case hb => walk_at "lk")) | rfl)
local macro_rules | `(tactic| walk_at "few") => `(tactic| first | assumption | omega | decide | (refine' Nat.lt_of_le_of_lt (Sg.putF_len ?ha) ?hb; (case ha => walk_at "fewi"); (case hb => decide)))
local macro_rules | `(tactic| walk_at "fewi") => `(tactic| first | assumption | (refine' Sg.putF_len ?ha; (case ha => walk_at "fewi")) | exact Nat.le_refl _)
local macro_rules | `(tactic| walk_at "rd1") => `(tactic| with_reducible (first | refine' Sg.r_seq ?_ | refine' Sg.r_asg ?_ | refine' Sg.r_gname ?_ | (refine' Sg.r_var (by with_unfolding_all rfl) ?_) | refine' Sg.r_c ?_ | refine' Sg.r_op ?_ | refine' Sg.r_un ?_ | refine' Sg.r_cb ?_ | refine' Sg.r_cons ?_ | refine' Sg.r_nil ?_ | (refine' Sg.r_mod ?hc ?_; (case hc => (with_unfolding_all walk_at "side")); (intro z hz z0 z1)) | (refine' Sg.r_rI ?hc ?_; (case hc => (with_unfolding_all walk_at "side"))) | refine' Sg.r_rI0 ?_ | refine' Sg.r_rU ?_ | refine' Sg.r_int ?_ | refine' Sg.r_eqi ?_ | refine' Sg.r_nei ?_ | (refine' Sg.r_ixl ?h ?e ?_; (case h => (with_unfolding_all walk_at "hp")); (case e => (with_unfolding_all rfl))) | (refine' Sg.r_ixt ?h ?e ?_; (case h => (with_unfolding_all walk_at "hp")); (case e => (with_unfolding_all rfl))) | (refine' Sg.r_lenl ?h ?_; (case h => (with_unfolding_all walk_at "hp"))) | (refine' Sg.r_lent ?h ?_; (case h => (with_unfolding_all walk_at "hp"))) | refine' Sg.r_test ?_ | refine' Sg.r_exb ?_ | refine' Sg.r_tB ?_ | refine' Sg.r_exbP ?_ | refine' Sg.r_ifs ?_ | refine' Sg.r_and ?_ | refine' Sg.r_or ?_ | refine' Sg.r_not ?_ | refine' Sg.r_andV ?_ | refine' Sg.r_orV ?_ | refine' Sg.r_notV ?_ | refine' Sg.r_tif ?_ | refine' Sg.r_isN ?_ | refine' Sg.r_notN ?_ | refine' Sg.r_ret ?_ | refine' Sg.r_drop ?_ | refine' Sg.r_next ?_ | refine' Sg.r_call ?_ | refine' Sg.r_make ?_ | refine' Sg.r_meth ?_ | refine' Sg.r_fld ?_ | refine' Sg.r_sfld ?_ | refine' Sg.r_chain ?_ | (refine' Sg.r_fldL ?h ?hc ?hn ?hl ?_; (case h => (with_unfolding_all walk_at "hp")); (case hc => assumption); (case hn => assumption); (case hl => (with_unfolding_all walk_at "lk"))) | (refine' Sg.r_sfldL ?h ?hc ?hn ?hl ?_; (case h => (with_unfolding_all walk_at "hp")); (case hc => assumption); (case hn => assumption); (case hl => (with_unfolding_all walk_at "few")); (with_unfolding_all walk_at "up")) | (refine' Sg.r_gunl ?h ?hl ?_; (case h => (with_unfolding_all walk_at "hp")); (case hl => (with_unfolding_all walk_at "side"))) | (refine' Sg.r_gtup ?h ?hl ?_; (case h => (with_unfolding_all walk_at "hp")); (case hl => (with_unfolding_all walk_at "side"))) | (refine' Sg.r_methL ?h ?hl ?_; (case h => (with_unfolding_all walk_at "hp")); (case hl => (with_unfolding_all walk_at "lk"))) | refine' Sg.r_tup ?_ | refine' Sg.r_lst ?_ | (refine' Sg.r_ktup ?hl ?_; (case hl => (with_unfolding_all first | exact Nat.le_of_ble_eq_true rfl | decide)); (with_unfolding_all walk_at "al")) | (refine' Sg.r_klst ?hl ?_; (case hl => (with_unfolding_all first | exact Nat.le_of_ble_eq_true rfl | decide)); (with_unfolding_all walk_at "al")) | (refine' Sg.r_listl ?h ?_; (case h => (with_unfolding_all walk_at "hp")); (with_unfolding_all walk_at "al")) | (refine' Sg.r_listt ?h ?_; (case h => (with_unfolding_all walk_at "hp")); (with_unfolding_all walk_at "al")) | (refine' Sg.r_tupl ?h ?_; (case h => (with_unfolding_all walk_at "hp")); (with_unfolding_all walk_at "al")) | (refine' Sg.r_tupt ?h ?_; (case h => (with_unfolding_all walk_at "hp"))) | (refine' Sg.r_in (.inr ?h) ?fx ?fs ?_; (case h => (with_unfolding_all walk_at "hp")); (case fx => (with_unfolding_all rfl)); (case fs => (with_unfolding_all rfl))) | (refine' Sg.r_in (.inl ?h) ?fx ?fs ?_; (case h => (with_unfolding_all walk_at "hp")); (case fx => (with_unfolding_all rfl)); (case fs => (with_unfolding_all rfl))) | (refine' Sg.r_sorted ?h ?h64 ?_; (case h => (with_unfolding_all walk_at "hp")); (case h64 => (with_unfolding_all walk_at "side")); (intro ns' p perm rising; revert p; (with_unfolding_all walk_at "al"))) | (refine' Sg.r_app ?h ?hl ?_; (case h => (with_unfolding_all walk_at "hp")); (case hl => (with_unfolding_all walk_at "size")); (with_unfolding_all walk_at "up")) | refine' Sg.r_lc ?_ | refine' Sg.r_for ?_ | refine' Sg.r_irng1 ?_ | refine' Sg.r_irng2 ?_ | refine' Sg.r_ilist ?_ | refine' Sg.r_itup ?_ | (refine' Sg.r_kR1 ?h1 ?h2 ?_; (case h1 => (with_unfolding_all walk_at "side")); (case h2 => (with_unfolding_all walk_at "side"))) | (refine' Sg.r_kR2 ?h1 ?_; (case h1 => (with_unfolding_all refine ⟨?_, ?_, ?_, ?_⟩ <;> walk_at "side"))) | (refine' Sg.r_kIl ?h ?_; (case h => (with_unfolding_all walk_at "hp"))) | (refine' Sg.r_kIt ?h ?_; (case h => (with_unfolding_all walk_at "hp"))) | refine' Sg.r_bm ?_ | refine' Sg.r_bm0 ?_ | (refine' Sg.r_tyl ?h ?_; (case h => (with_unfolding_all walk_at "hp"))) | refine' Sg.r_nonR ?_ | refine' Sg.r_nonN ?_ | refine' Sg.r_isR ?_ | refine' Sg.r_isNN ?_ | refine' Sg.r_nonI ?_ | refine' Sg.r_isI ?_ | refine' L2.iteT ?_ | refine' L2.iteF ?_ | refine' Sg.r_gcons ?_ | refine' Sg.r_gnil ?_ | refine' Sg.r_gsub ?_ | refine' Sg.r_isb ?_ | refine' Sg.r_notb ?_ | (refine' Sg.r_aug (by with_unfolding_all rfl) ?_) | refine' Sg.r_ipI ?_ | (refine' Sg.r_isi (b := true) (L2.ClsV.ty _) ?ht ?hk ?_; (case ht => (with_unfolding_all walk_at "tyx")); (case hk => (with_unfolding_all exact L2.kit_ty (by decide +kernel)))) | (refine' Sg.r_isi (b := false) (L2.ClsV.ty _) ?ht ?hk ?_; (case ht => (with_unfolding_all walk_at "tyx")); (case hk => (with_unfolding_all exact L2.kit_ty (by decide +kernel)))) | refine' Sg.r_gmap ?_ | refine' Sg.r_gmapn ?_ | (refine' Sg.r_iteb ?hb ?_; (case hb => (with_unfolding_all rfl))) | (refine' Sg.r_iteB ?hb ?_; (case hb => (with_unfolding_all rfl)))))
local macro_rules | `(tactic| walk_at "rd") => `(tactic| repeat walk_at "rd1")
local macro_rules | `(tactic| walk_at "rdo") => `(tactic| repeat (first | walk_at "rd1" | (with_reducible refine' Sg.r_iteD ?hc ?_; (case hc => first | assumption | omega)) | (with_reducible refine' Sg.r_iteDn ?hc ?_; (case hc => first | assumption | omega)) | (with_reducible refine' Sg.r_iteND ?hc ?_; (case hc => first | assumption | omega)) | (with_reducible refine' Sg.r_iteNDn ?hc ?_; (case hc => first | assumption | omega))))
local macro_rules | `(tactic| walk_at "rd1") => `(tactic| with_reducible (first | refine' Sg.r_istr ?_ | refine' Sg.r_kIs ?_ | refine' Sg.r_eqb ?_ | refine' Sg.r_isS ?_ | refine' Sg.r_nonS ?_ | refine' Sg.r_eqs ?_ | refine' Sg.r_nes ?_ | refine' Sg.r_sl ?_ | refine' Sg.r_noP ?_ | refine' Sg.r_part ?_ | refine' Sg.r_kPart ?_ | (refine' Sg.r_slL ?h ?_; (case h => (with_unfolding_all walk_at "hp")); (with_unfolding_all walk_at "al"))))
local macro_rules | `(tactic| walk_at "szle") => `(tactic| (rw [Sg.sz]; (try simp only [List.length_map, List.length_append, List.length_cons, List.length_nil, List.length_replicate]); omega))
local macro_rules | `(tactic| walk_at "rd1") => `(tactic| with_reducible (first | (refine' Sg.r_cat ?h ?h' ?hz ?_; (case h => (with_unfolding_all walk_at "hp")); (case h' => (with_unfolding_all walk_at "hp")); (case hz => (with_unfolding_all walk_at "szle")); (with_unfolding_all walk_at "al")) | (refine' Sg.r_rep1 ?h ?h1 ?h2 ?_; (case h => (with_unfolding_all walk_at "hp")); (case h1 => omega); (case h2 => omega); (with_unfolding_all walk_at "al"))))
local macro_rules | `(tactic| walk_at "rd1") => `(tactic| with_reducible (first | (refine' Sg.r_lenS ?hl ?_; (case hl => omega)) | (refine' Sg.r_min2 ?_; (intro m hm1 hm2 hm3)) | (refine' Sg.r_max2 ?_; (intro m hm1 hm2 hm3)) | (refine' Sg.r_addT ?hl ?_; (case hl => omega))))
local macro_rules | `(tactic| walk_at "ca1") => `(tactic| fail)
local macro_rules | `(tactic| walk_at "pr") => `(tactic| first | assumption | omega | walk_at "hp" | exact L2.upd_same | rfl | trivial | decide)
local macro_rules | `(tactic| walk_at "it1") => `(tactic| with_reducible (first | (refine' Sg.r_iteD ?hc ?_; (case hc => first | assumption | omega)) | (refine' Sg.r_iteDn ?hc ?_; (case hc => first | assumption | omega)) | (refine' Sg.r_iteND ?hc ?_; (case hc => first | assumption | omega)) | (refine' Sg.r_iteNDn ?hc ?_; (case hc => first | assumption | omega))))
local macro_rules | `(tactic| walk_at "go1") => `(tactic| first | walk_at "rd1" | walk_at "rx1" | walk_at "ca1" | walk_at "it1")
local macro_rules | `(tactic| walk_at "go") => `(tactic| repeat walk_at "go1")
local macro_rules | `(tactic| walk_at "gs") => `(tactic| repeat' (first | walk_at "go1" | with_reducible refine' Sg.r_ite (fun _ => ?_) (fun _ => ?_) | with_reducible refine' Sg.r_iteN (fun _ => ?_) (fun _ => ?_)))
-- imports: HandS.NoneIn HandS.Defaults HandS.TupMul HandS.Zip HandS.SetFor HandS.SetKeys HandS.Walk HandS.MakeKwOnly HandS.Style HandS.ForExc HandS.GenYield HandS.GenCall HandS.GenList KE.GoesEnum PyProof.ConsumeWalk
-- auto
section
variable {P : Program} {w : World} {K : PySem.W.Frag} {mg : Str → Option Value} {base : Heap}
/-! ### numbers drawn from the script -/
def sp_row (K : PySem.W.Frag) : Sp := fun vs H Q _ => ∃ (a : Addr) (ns : List Int) (k : Int), vs = [.ref a, .int k] ∧ SqL K H a (ns.map V.int) ∧ ns.length ≤ 63 ∧ 0 ≤ k ∧ k ≤ 1000 ∧ ∀ z : Int, 0 ≤ z → Q (.int z) H
theorem ok_law_row (T : Txt K mg) : FnOk P w K mg base CX0 1 T.a_law_row T.fd_law_row ["script", "k"] (sp_row K) := by
  refine T.F_law_row.ok sc_law_row (fun vs H Q E h => ?_) (fun cdv A outer s H vs Q E hr h => ?_)
  · obtain ⟨a, ns, k, rfl, _⟩ := h
    rfl
  · refine ⟨_, (pss_cons (ps_set (i := 2) sc_law_row.nd rfl (Or.inl rfl) pe_int)
       (C8.pss_cut (ps_if (pt_cmpR op_gt (pe_callB (c_len) (by rfl) T.n_len (by decide +kernel) (pa_cons (pv 0) pa_nil)) pe_int (nomark _))
       (pss_one (ps_set (i := 2) sc_law_row.nd rfl (Or.inl rfl) (pe_ix ix_list (pv 0) (pe_op op_mod (pe_callTy c_int (by rfl) T.n_int (by decide +kernel) (pa_cons (pv 1) pa_nil)) (pe_callB (c_len) (by rfl) T.n_len (by decide +kernel) (pa_cons (pv 0) pa_nil))) (fun _ _ => rfl))))
       pss_nil)
       (C8.pss_cut (ps_if (pt_cmpR op_lt (pv 2) pe_int (nomark _))
       (pss_one (ps_set (i := 2) sc_law_row.nd rfl (Or.inl rfl) (pe_op op_sub pe_int (pe_op op_mul pe_int (pv 2)))))
       pss_nil)
       (C8.pss_cut (ps_if (PW.pt (pw_and (pt_cmpR op_ge (pv 2) (pe_op op_pow pe_int pe_int) (nomark _)) (pw_and1 (pt_cmpR op_lt (pv 1) (pe_callB (c_len) (by rfl) T.n_len (by decide +kernel) (pa_cons (pv 0) pa_nil)) (nomark _)))))
       (pss_one (ps_ret (pv 2)))
       pss_nil)
       (pss_cons (ps_set (i := 3) sc_law_row.nd rfl (Or.inl rfl) (pe_op op_mod (pe_callTy c_int (by rfl) T.n_int (by decide +kernel) (pa_cons (pe_op op_add (pe_op op_add (pe_op op_mul (pv 2) pe_int) (pe_op op_mul (pe_op op_add (pv 1) pe_int) pe_int)) (pe_callB (c_len) (by rfl) T.n_len (by decide +kernel) (pa_cons (pv 0) pa_nil))) pa_nil)) pe_int))
       (pss_cons (ps_set (i := 4) sc_law_row.nd rfl (Or.inl rfl) (pe_op op_mod (pe_callTy c_int (by rfl) T.n_int (by decide +kernel) (pa_cons (pe_op op_add (pe_op op_add (pe_op op_mul (pv 3) (pv 3)) (pe_op op_mul (pv 2) pe_int)) (pv 1)) pa_nil)) pe_int))
       (pss_one (ps_ret (pe_op op_add (pe_op op_mul (pv 4) pe_int) (pe_op op_mod (pe_callTy c_int (by rfl) T.n_int (by decide +kernel) (pa_cons (pe_op op_mul (pv 3) pe_int) pa_nil)) pe_int)))))))))), ?_⟩
    try dsimp only [cxOf, Cx.nox, Cx.wish]
    obtain ⟨a, ns, k, rfl, hS, h63, k0, k1, q⟩ := h
    walk_at "rd"
    refine r_cut (fun σ' H' => ∃ z : Int, σ' = [some (.ref a), some (.int k), some (.int z), none, none] ∧ H = H') ?_ ?_
    · walk_at "rd"
      refine r_ite (fun hlen => ?_) (fun _ => ?_)
      · rw [List.length_map] at hlen
        walk_at "rd"
        rename_i z hz z0 z1
        rw [List.length_map] at z1
        refine r_ixl hS (v := .int (ns.getD z.toNat 0)) ?_ ?_
        · obtain ⟨n, rfl⟩ := Int.eq_ofNat_of_zero_le z0
          refine atI_nat ?_
          have hn : n < ns.length := by omega
          rw [List.getElem?_map, List.getElem?_eq_getElem hn, List.getD_eq_getElem?_getD, Int.toNat_natCast, List.getElem?_eq_getElem hn]
          rfl
        · walk_at "rd"
          exact ⟨_, rfl, rfl⟩
      · exact ⟨0, rfl, rfl⟩
    · rintro _ _ ⟨z, rfl, rfl⟩
      walk_at "rd"
      refine r_cut (fun σ' H' => ∃ z : Int, 0 ≤ z ∧ σ' = [some (.ref a), some (.int k), some (.int z), none, none] ∧ H = H') ?_ ?_
      · walk_at "rd"
        refine r_ite (fun _ => ?_) (fun _ => ?_)
        · walk_at "rd"
          exact ⟨_, by omega, rfl, rfl⟩
        · exact ⟨_, by omega, rfl, rfl⟩
      · rintro _ _ ⟨y, y0, rfl, rfl⟩
        walk_at "rd"
        refine r_cutS ?_ ?_
        · walk_at "rd"
          refine r_ite (fun _ => ?_) (fun _ => ?_)
          · walk_at "rd"
            refine r_ite (fun _ => ?_) (fun _ => ?_)
            · walk_at "rd"
              exact q _ y0
            · exact ⟨rfl, rfl⟩
          · walk_at "rd"
            exact ⟨rfl, rfl⟩
        · walk_at "rd"
          exact q _ (by omega)
/-- digits by their sizes -/
abbrev Digs (ds ss : List Int) : Prop := Paired (fun (d s : Int) => 0 ≤ d ∧ d < s) ds ss
def sp_digits (K : PySem.W.Frag) : Sp := fun vs H Q _ => ∃ (r : Int) (l : Addr) (ss : List Int), vs = [.int r, .ref l] ∧ SqL K H l (ss.map V.int) ∧ ss.length ≤ 1000 ∧ (∀ s ∈ ss, 0 < s ∧ s < 1000000000000000000) ∧
  ∀ H' d (ds : List Int), Same H H' → H d = none → H' d = some (.lst (ds.map V.int)) → Digs ds ss → Q (.ref d) H'
theorem paired_snoc {α β : Type} {F : α → β → Prop} : ∀ {xs : List α} {ys : List β} {x : α} {y : β}, Paired F xs ys → F x y → Paired F (xs ++ [x]) (ys ++ [y])
  | _, _, _, _, .nil, h => .cons h .nil
  | _, _, _, _, .cons r t, h => .cons r (paired_snoc t h)
theorem ok_law_digits (T : Txt K mg) : FnOk P w K mg base CX0 1 T.a_law_digits T.fd_law_digits ["row", "sizes"] (sp_digits K) := by
  refine T.F_law_digits.ok sc_law_digits (fun vs H Q E h => ?_) (fun cdv A outer s H vs Q E hr h => ?_)
  · obtain ⟨r, l, ss, rfl, _⟩ := h
    rfl
  · refine ⟨_, (pss_cons (ps_set (i := 2) sc_law_digits.nd rfl (Or.inl rfl) (pe_lst pa_nil))
       (pss_cons (ps_for PassesOwn.never rfl (pi_list (pv 1)) (pg_name (i := 3) sc_law_digits.nd rfl (Or.inl rfl))
       (pss_cons (ps_expr (pe_bm PySem.F.plainAttrs_list PySem.F.slot_list_append PySem.F.type_list_append mt_append (pv 2) (pa_cons (pe_op op_mod (pe_callTy c_int (by rfl) T.n_int (by decide +kernel) (pa_cons (pv 0) pa_nil)) (pv 3)) pa_nil)))
       (pss_one (ps_set (i := 0) sc_law_digits.nd rfl (Or.inl rfl) (pe_op op_fdivW (pv 0) (pv 3))))))
       (pss_one (ps_ret (pv 2))))), ?_⟩
    try dsimp only [cxOf, Cx.nox, Cx.wish]
    obtain ⟨r, l, ss, rfl, hS, hlen, hss, q⟩ := h
    walk_at "rd"
    rename_i p hn H1 s1 h1
    refine r_forL (xs := ss.map V.int) (fun i σ' H' => ∃ (z : Int) (ds : List Int) (v : Option V), σ' = [some (.int z), some (.ref l), some (.ref p), v] ∧ Same H H' ∧ H' p = some (.lst (ds.map V.int)) ∧ Digs ds (ss.take i)) ?_ ?_ ?_ ?_
    · exact ⟨r, [], none, rfl, s1, h1, .nil⟩
    · rintro i σ' H' _ ⟨z, ds, v, rfl, s2, h2, hd⟩
      exact s2.seq hS
    · rintro i x σ' H' hx ⟨z, ds, v, rfl, s2, h2, hd⟩
      rw [List.getElem?_map] at hx
      obtain ⟨y, hy, rfl⟩ := Option.map_eq_some_iff.mp hx
      obtain ⟨y0, y1⟩ := hss y (List.mem_of_getElem? hy)
      have hdl : ds.length ≤ 1000 := by
        rw [Paired.length hd, List.length_take]
        omega
      walk_at "rd"
      rename_i d hd1 d0 d1 H3 e3 h3
      refine ⟨_, _, rfl, rfl, wide_div (b := 64) y0 (by omega) (by decide) (by decide), ?_⟩
      walk_at "rd"
      refine ⟨_, ds ++ [d], _, rfl, Sg.Same.old s2 hn e3, ?_, ?_⟩
      · rw [h3, List.map_append]
        rfl
      · have e : ss.take (i + 1) = ss.take i ++ [y] := by rw [List.take_add_one, hy]; rfl
        rw [e]
        exact paired_snoc hd ⟨d0, d1⟩
    · rintro σ' H' ⟨z, ds, v, rfl, s2, h2, hd⟩
      rw [List.length_map, List.take_length] at hd
      walk_at "rd"
      exact q _ _ _ s2 hn h2 hd
def sp_parts_of : Sp := fun vs H Q _ => ∃ n s : Int, vs = [.int n, .int s] ∧ 0 < s ∧ s < 1073741824 ∧ Q (.int ((n + s - 1) / s)) H
theorem ok_parts_of (T : Txt K mg) : FnOk P w K mg base CX0 1 T.a_parts_of T.fd_parts_of ["number", "size"] sp_parts_of := by
  refine T.F_parts_of.ok sc_parts_of (fun vs H Q E h => ?_) (fun cdv A outer s H vs Q E hr h => ?_)
  · obtain ⟨n, s, rfl, _⟩ := h
    rfl
  · refine ⟨_, (pss_one (ps_ret (pe_op op_fdiv (pe_op op_sub (pe_op op_add (pv 0) (pv 1)) pe_int) (pv 1)))), ?_⟩
    try dsimp only [cxOf, Cx.nox, Cx.wish]
    obtain ⟨n, s, rfl, h1, h2, q⟩ := h
    walk_at "rd"
    exact q
/-! ### layouts -/
/-- the numbers of a layout -/
structure Lay where
  seg : Int
  blk : Int
  size : Int
  pay : Int
  lim : Int
  last : Int
  fan : Int
  reg : Int
  dev : Int
def layOf (s b z : Int) : Lay := ⟨s, b, z, b - 1, (s - 2) * (b - 1), (s - 2) * (b - 1) + (b - 1), z / 2, (2 * (4 * ((s - 2) * (b - 1) + (b - 1)) + 6 + s) + z - 1) / z, 2 * ((2 * (4 * ((s - 2) * (b - 1) + (b - 1)) + 6 + s) + z - 1) / z) + s * b⟩
/-- three sizes that a layout can have -/
structure Fits (s b z : Int) : Prop where
  s0 : 4 ≤ s
  s1 : s ≤ 16
  b0 : 16 ≤ b
  b1 : b ≤ 32
  zz : z = 64 ∨ z = 128 ∨ z = 256
  fit : 16 + 2 * (b - 1) + ((s - 2) * (b - 1) + (b - 1) + 8 - 1) / 8 ≤ z
/-- the fields of a layout -/
structure LayFs (L : Lay) (fs : List (Str × V)) : Prop where
  seg : fs.lookup ("segments" : Str) = some (V.int L.seg)
  blk : fs.lookup ("segment_blocks" : Str) = some (V.int L.blk)
  size : fs.lookup ("block_size" : Str) = some (V.int L.size)
  pay : fs.lookup ("payload" : Str) = some (V.int L.pay)
  lim : fs.lookup ("limit" : Str) = some (V.int L.lim)
  last : fs.lookup ("last_id" : Str) = some (V.int L.last)
  fan : fs.lookup ("fan" : Str) = some (V.int L.fan)
  reg : fs.lookup ("region_blocks" : Str) = some (V.int L.reg)
  dev : fs.lookup ("device_blocks" : Str) = some (V.int L.dev)
def LayAt (C : Addr) (L : Lay) (H : Hp) (p : Addr) : Prop := ∃ dx fs, H p = some (.ins C dx fs) ∧ LayFs L fs
theorem LayAt.mono {C : Addr} {L : Lay} {H H' : Hp} {p : Addr} (s : Same H H') (h : LayAt C L H p) : LayAt C L H' p := by
  obtain ⟨dx, fs, h1, h2⟩ := h
  exact ⟨dx, fs, s _ _ h1, h2⟩
def sp_layout (C : Addr) : Sp := fun vs H Q _ => ∃ (p dx : Addr) (s b z : Int), vs = [.ref p, .int s, .int b, .int z] ∧ H p = some (.ins C dx []) ∧ Fits s b z ∧
  ∀ H' fs, (∀ q, q ≠ p → H' q = H q) → H' p = some (.ins C dx fs) → LayFs (layOf s b z) fs → Q .non H'
theorem in_sizes {z : Int} (h : z = 64 ∨ z = 128 ∨ z = 256) : (!inV (V.int z) [V.int 64, V.int 128, V.int 256]) = false := by
  rcases h with rfl | rfl | rfl <;> decide
theorem keep1 {H H1 H' : Hp} {p : Addr} {o : HO} (h : ∀ q, q ≠ p → H1 q = H q) (e : upd H1 p o = H') : ∀ q, q ≠ p → H' q = H q := fun q hq => by
  rw [← e, upd_ne hq]
  exact h q hq
theorem ok_Layout___init (T : Txt K mg) : FnOk P w K mg base CX0 2 T.a_Layout___init T.fd_Layout___init ["self", "segments", "segment_blocks", "block_size"] (sp_layout T.A_Layout) := by
  refine T.F_Layout___init.ok sc_Layout___init (fun vs H Q E h => ?_) (fun cdv A outer s H vs Q E hr h => ?_)
  · obtain ⟨p, dx, s, b, z, rfl, _⟩ := h
    rfl
  · refine ⟨_, (pss_cons (ps_if (pt_not (pt_chain op_le op_le pe_int (pv 1) pe_int))
       (pss_one ps_never)
       pss_nil)
       (pss_cons (ps_if (pt_not (pt_chain op_le op_le pe_int (pv 2) pe_int))
       (pss_one ps_never)
       pss_nil)
       (pss_cons (ps_if (pt_cmpR op_notIn_seq (pv 3) (pe_glob rfl T.c_BLOCK_SIZES T.r_BLOCK_SIZES) (by with_unfolding_all rfl))
       (pss_one ps_never)
       pss_nil)
       (pss_cons (ps_fld (pv 0) (pv 1) rfl)
       (pss_cons (ps_fld (pv 0) (pv 2) rfl)
       (pss_cons (ps_fld (pv 0) (pv 3) rfl)
       (pss_cons (ps_fld (pv 0) (pe_op op_sub (pv 2) pe_int) rfl)
       (pss_cons (ps_fld (pv 0) (pe_op op_mul (pe_op op_sub (pv 1) pe_int) (pe_fld (pv 0) rfl)) rfl)
       (pss_cons (ps_fld (pv 0) (pe_op op_add (pe_fld (pv 0) rfl) (pe_fld (pv 0) rfl)) rfl)
       (pss_cons (ps_fld (pv 0) (pe_op op_fdiv (pv 3) pe_int) rfl)
       (pss_cons (ps_fld (pv 0) (pe_call (ok_parts_of T) (hr.mono (by decide)) rfl T.m_parts_of T.F_parts_of.kp T.b_parts_of .nil pass0 (pa_cons (pe_op op_mul pe_int (pe_op op_add (pe_op op_add (pe_op op_mul pe_int (pe_fld (pv 0) rfl)) pe_int) (pv 1))) (pa_cons (pv 3) pa_nil))) rfl)
       (pss_cons (ps_fld (pv 0) (pe_op op_add (pe_op op_mul pe_int (pe_fld (pv 0) rfl)) (pe_op op_mul (pv 1) (pv 2))) rfl)
       (pss_one (ps_if (pt_cmpR op_gt (pe_op op_add (pe_op op_add (pe_glob rfl T.c_SUMMARY_HEAD T.r_SUMMARY_HEAD) (pe_op op_mul pe_int (pe_fld (pv 0) rfl))) (pe_call (ok_parts_of T) (hr.mono (by decide)) rfl T.m_parts_of T.F_parts_of.kp T.b_parts_of .nil pass0 (pa_cons (pe_fld (pv 0) rfl) (pa_cons pe_int pa_nil)))) (pv 3) (nomark _))
       (pss_one ps_never)
       pss_nil)))))))))))))), ?_⟩
    try dsimp only [cxOf, Cx.nox, Cx.wish]
    obtain ⟨p, dx, s, b, z, rfl, hp, hF, q⟩ := h
    obtain ⟨s0, s1, b0, b1, hz, fit⟩ := hF
    have cl := T.cl_Layout
    have na1 := T.na_Layout_segments
    have na2 := T.na_Layout_segment_blocks
    have na3 := T.na_Layout_block_size
    have na4 := T.na_Layout_payload
    have na5 := T.na_Layout_limit
    have na6 := T.na_Layout_last_id
    have na7 := T.na_Layout_fan
    have na8 := T.na_Layout_region_blocks
    have na9 := T.na_Layout_device_blocks
    walk_at "rdo"
    refine r_in (.inr (T.v_BLOCK_SIZES _)) rfl rfl ?_
    walk_at "rd"
    refine r_iteB (in_sizes hz) ?_
    walk_at "rdo"
    refine ⟨_, _, rfl, by omega, by omega, ?_⟩
    walk_at "rdo"
    refine ⟨_, _, rfl, by omega, by omega, ?_⟩
    walk_at "rdo"
    refine q _ _ ?kk (by walk_at "hp") ⟨by walk_at "lk", by walk_at "lk", by walk_at "lk", by walk_at "lk", by walk_at "lk", by walk_at "lk", by walk_at "lk", by walk_at "lk", by walk_at "lk"⟩
    case kk =>
      repeat (refine keep1 ?_ (by assumption))
      exact fun _ _ => rfl
/-- the sizes of a law's layout -/
def sp_lawlay (C : Addr) : Sp := fun vs H Q _ => ∃ r : Int, vs = [.int r] ∧ ∀ (s b z : Int) (H' : Hp) (p : Addr), Fits s b z → Same H H' → H p = none → LayAt C (layOf s b z) H' p → Q (.ref p) H'
theorem made_same {H H1 : Hp} {x dx : Addr} {o : HO} (nx : H x = none) (nd : H dx = none) (k : ∀ q, q ≠ x → H1 q = upd (upd H dx (.own x)) x o q) : Same H H1 := fun b u e => by
  rw [k b (ne_of_none e nx), upd_ne (ne_of_none e nx), upd_ne (ne_of_none e nd)]
  exact e
theorem ok_law_layout (T : Txt K mg) : FnOk P w K mg base CX0 4 T.a_law_layout T.fd_law_layout ["row"] (sp_lawlay T.A_Layout) := by
  refine T.F_law_layout.ok sc_law_layout (fun vs H Q E h => ?_) (fun cdv A outer s H vs Q E hr h => ?_)
  · obtain ⟨r, rfl, _⟩ := h
    rfl
  · refine ⟨_, (pss_cons (ps_asg (pe_call (ok_law_digits T) (hr.mono (by decide)) rfl T.m_law_digits T.F_law_digits.kp T.b_law_digits .nil pass0 (pa_cons (pv 0) (pa_cons (pe_lst (pa_cons pe_int (pa_cons pe_int (pa_cons pe_int (pa_cons pe_int (pa_cons pe_int pa_nil)))))) pa_nil))) (pg_unl (by rfl) (pgs_cons (pg_name (i := 1) sc_law_layout.nd rfl (Or.inl rfl)) (pgs_cons (pg_name (i := 2) sc_law_layout.nd rfl (Or.inl rfl)) (pgs_cons (pg_name (i := 3) sc_law_layout.nd rfl (Or.inl rfl)) (pgs_cons (pg_name (i := 4) sc_law_layout.nd rfl (Or.inl rfl)) (pgs_cons (pg_name (i := 5) sc_law_layout.nd rfl (Or.inl rfl)) pgs_nil)))))))
       (C8.pss_cut (ps_if (pt_cmpR op_eq (pv 1) pe_int (nomark _))
       (pss_cons (ps_set (i := 4) sc_law_layout.nd rfl (Or.inl rfl) (pe_op op_add pe_int (pv 4)))
       (pss_cons (ps_set (i := 5) sc_law_layout.nd rfl (Or.inl rfl) (pe_op op_add pe_int (pv 5)))
       (pss_one (ps_set (i := 3) sc_law_layout.nd rfl (Or.inl rfl) (pe_ix ix_list (pe_lst (pa_cons pe_int (pa_cons pe_int (pa_cons pe_int pa_nil)))) (pv 3) (fun _ _ => rfl))))))
       (pss_cons (ps_set (i := 4) sc_law_layout.nd rfl (Or.inl rfl) (pe_op op_add pe_int (pe_op op_mul (pv 2) (pe_op op_fdiv (pv 1) pe_int))))
       (pss_cons (ps_set (i := 5) sc_law_layout.nd rfl (Or.inl rfl) pe_int)
       (pss_one (ps_set (i := 3) sc_law_layout.nd rfl (Or.inl rfl) pe_int)))))
       (pss_cons (ps_set (i := 6) sc_law_layout.nd rfl (Or.inl rfl) (pe_op op_mul (pe_op op_sub (pv 4) pe_int) (pe_op op_sub (pv 5) pe_int)))
       (pss_cons (ps_if (pt_cmpR op_gt (pe_op op_add (pe_op op_add pe_int (pe_op op_mul pe_int (pe_op op_sub (pv 5) pe_int))) (pe_op op_fdiv (pe_op op_add (pv 6) pe_int) pe_int)) (pv 3) (nomark _))
       (pss_one (ps_ret (pe_make T.M_Layout (ok_Layout___init T) (hr.mono (by decide)) rfl T.m_Layout T.b_Layout___init .nil pass0 (pa_cons pe_int (pa_cons pe_int (pa_cons pe_int pa_nil))))))
       pss_nil)
       (pss_one (ps_ret (pe_make T.M_Layout (ok_Layout___init T) (hr.mono (by decide)) rfl T.m_Layout T.b_Layout___init .nil pass0 (pa_cons (pv 4) (pa_cons (pv 5) (pa_cons (pv 3) pa_nil)))))))))), ?_⟩
    try dsimp only [cxOf, Cx.nox, Cx.wish]
    obtain ⟨r, rfl, q⟩ := h
    walk_at "rd"
    refine ⟨_, _, [4, 3, 3, 13, 17], rfl, by walk_at "hp", by decide, by decide, fun H1 d ds s1 n1 h1 hd => ?_⟩
    obtain _ | ⟨⟨c0, c1⟩, _ | ⟨⟨m0, m1⟩, _ | ⟨⟨z0, z1⟩, _ | ⟨⟨g0, g1⟩, _ | ⟨⟨b0, b1⟩, _ | _⟩⟩⟩⟩⟩ := hd
    rename_i choice more size segments blocks
    walk_at "rd"
    refine r_cut (fun σ' H' => ∃ s b z : Int, 4 ≤ s ∧ s ≤ 16 ∧ 16 ≤ b ∧ b ≤ 32 ∧ (z = 64 ∨ z = 128 ∨ z = 256) ∧ σ' = [some (.int r), some (.int choice), some (.int more), some (.int z), some (.int s), some (.int b), none] ∧ Same H1 H') ?_ ?_
    · walk_at "rd"
      refine r_ite (fun e => ?_) (fun _ => ?_)
      · walk_at "rd"
        have e3 : size = 0 ∨ size = 1 ∨ size = 2 := by omega
        rcases e3 with rfl | rfl | rfl
        · refine r_ixl (by walk_at "hp") rfl ?_
          walk_at "rd"
          exact ⟨_, _, _, by omega, by omega, by omega, by omega, .inl rfl, rfl, by walk_at "sm"⟩
        · refine r_ixl (by walk_at "hp") rfl ?_
          walk_at "rd"
          exact ⟨_, _, _, by omega, by omega, by omega, by omega, .inr (.inl rfl), rfl, by walk_at "sm"⟩
        · refine r_ixl (by walk_at "hp") rfl ?_
          walk_at "rd"
          exact ⟨_, _, _, by omega, by omega, by omega, by omega, .inr (.inr rfl), rfl, by walk_at "sm"⟩
      · walk_at "rd"
        have hc : choice / 2 = 0 ∨ choice / 2 = 1 := by omega
        rcases hc with hc | hc <;> rw [hc] <;> exact ⟨_, _, _, by omega, by omega, by omega, by omega, .inl rfl, rfl, by walk_at "sm"⟩
    rintro _ H2 ⟨s, b, z, s0, s1', b0', b1', hz, rfl, s2⟩
    walk_at "rd"
    have en : (s - 2) * (b - 1) + (b - 1) = (s - 1) * (b - 1) := by
      have e : s - 1 = (s - 2) + 1 := by omega
      rw [e, Int.add_mul, Int.one_mul]
    refine r_ite (fun _ => ?_) (fun hle => ?_)
    · walk_at "rd"
      intro x dx nx nd ne
      have hF : Fits 4 16 64 := ⟨by decide, by decide, by decide, by decide, .inl rfl, by decide⟩
      refine ⟨x, dx, _, _, _, rfl, upd_same, hF, fun H3 fs k h3 hL => ⟨rfl, ?_⟩⟩
      have s3 := made_same nx nd k
      exact q _ _ _ _ _ hF (by walk_at "sm") (by walk_at "nn") ⟨_, _, h3, hL⟩
    · walk_at "rd"
      intro x dx nx nd ne
      have hF : Fits s b z := ⟨s0, s1', b0', b1', hz, by rw [en]; omega⟩
      refine ⟨x, dx, _, _, _, rfl, upd_same, hF, fun H3 fs k h3 hL => ⟨rfl, ?_⟩⟩
      have s3 := made_same nx nd k
      exact q _ _ _ _ _ hF (by walk_at "sm") (by walk_at "nn") ⟨_, _, h3, hL⟩

/-! ### walking rules for numbers drawn from the script, layouts and tables -/
theorem i_row {K : PySem.W.Frag} {args_ : List V} {H : Hp} {Q : V → Hp → Prop} {E : XK} {a : Addr} {ns : List Int} {k : Int} (ev : args_ = [.ref a, .int k]) (hS : SqL K H a (ns.map V.int)) (h63 : ns.length ≤ 63) (k0 : 0 ≤ k) (k1 : k ≤ 1000) (q : ∀ z : Int, 0 ≤ z → Q (.int z) H) : sp_row K args_ H Q E := ⟨a, ns, k, ev, hS, h63, k0, k1, q⟩
local macro_rules | `(tactic| walk_at "ca1") => `(tactic| with_reducible (refine' Sg.i_row ?ev ?hS ?h63 ?k0 ?k1 ?_; (case ev => (with_unfolding_all rfl)); (case hS => (with_unfolding_all walk_at "pr")); (case h63 => (with_unfolding_all walk_at "pr")); (case k0 => (with_unfolding_all walk_at "pr")); (case k1 => (with_unfolding_all walk_at "pr")); intros))

/-- digits one by one -/
def DQ : List Int → (List Int → Prop) → Prop
  | [], k => k []
  | s :: r, k => ∀ d : Int, 0 ≤ d → d < s → DQ r fun ds => k (d :: ds)
theorem DQ.of : ∀ {ss ds : List Int} {k : List Int → Prop}, DQ ss k → Digs ds ss → k ds
  | [], _, _, h, .nil => h
  | s :: r, d :: ds, k, h, .cons hd t => DQ.of (ss := r) (ds := ds) (k := fun ds => k (d :: ds)) (h d hd.1 hd.2) t
def AreInts (vs : List V) (ss : List Int) : Prop := Paired (fun v s => v = V.int s) vs ss
theorem AreInts.map : ∀ {vs : List V} {ss : List Int}, AreInts vs ss → vs = ss.map V.int
  | _, _, .nil => rfl
  | _, _, .cons h t => by rw [h, AreInts.map t]; rfl
theorem AreInts.nil : AreInts [] [] := Paired.nil
theorem AreInts.cons {vs : List V} {ss : List Int} {s : Int} (t : AreInts vs ss) : AreInts (.int s :: vs) (s :: ss) := Paired.cons rfl t
def InR (ss : List Int) : Prop := ∀ s ∈ ss, 0 < s ∧ s < 1000000000000000000
theorem InR.nil : InR [] := fun _ h => nomatch h
theorem InR.cons {s : Int} {ss : List Int} (h0 : 0 < s) (h1 : s < 1000000000000000000) (t : InR ss) : InR (s :: ss) := fun x hx => by
  rcases List.mem_cons.mp hx with rfl | hx
  · exact ⟨h0, h1⟩
  · exact t x hx
theorem i_digits {K : PySem.W.Frag} {args_ : List V} {H : Hp} {Q : V → Hp → Prop} {E : XK} {r : Int} {l : Addr} {vs : List V} {ss : List Int} (ev : args_ = [.int r, .ref l]) (hS : SqL K H l vs) (hv : AreInts vs ss) (hl : ss.length ≤ 1000) (hss : InR ss)
    (q : DQ ss fun ds => ∀ H' d, Same H H' → H d = none → H' d = some (.lst (ds.map V.int)) → Q (.ref d) H') : sp_digits K args_ H Q E :=
  ⟨r, l, ss, ev, hv.map ▸ hS, hl, hss, fun H' d ds s n h hd => DQ.of q hd H' d s n h⟩
local macro_rules | `(tactic| walk_at "arei") => `(tactic| first | exact Sg.AreInts.nil | (refine' Sg.AreInts.cons ?h; (case h => walk_at "arei")))
local macro_rules | `(tactic| walk_at "inr") => `(tactic| first | exact Sg.InR.nil | (refine' Sg.InR.cons ?h0 ?h1 ?h2; (case h0 => first | omega | decide); (case h1 => first | omega | decide); (case h2 => walk_at "inr")))
local macro_rules | `(tactic| walk_at "ca1") => `(tactic| with_reducible (refine' Sg.i_digits ?ev ?hS ?hv ?hl ?hss ?_; (case ev => (with_unfolding_all rfl)); (case hS => (with_unfolding_all walk_at "pr")); (case hv => (with_unfolding_all walk_at "arei")); (case hl => (with_unfolding_all (first | exact Nat.le_of_ble_eq_true rfl | simp))); (case hss => (with_unfolding_all walk_at "inr")); simp only [Sg.DQ, List.map_cons, List.map_nil]; intros))
/-- what is known of a layout's numbers -/
structure LayC (L : Lay) : Prop where
  s0 : 4 ≤ L.seg
  s1 : L.seg ≤ 16
  b0 : 16 ≤ L.blk
  b1 : L.blk ≤ 32
  z0 : 64 ≤ L.size
  z1 : L.size ≤ 256
  pay : L.pay = L.blk - 1
  lim : L.lim = (L.seg - 2) * L.pay
  lst : L.last = L.lim + L.pay
  l0 : 45 ≤ L.last
  l1 : L.last ≤ 465
  fz : 2 * L.fan = L.size
  f0 : 32 ≤ L.fan
  f1 : L.fan ≤ 128
  r0 : 2 ≤ L.reg
  r1 : L.reg ≤ 60
  dv : L.dev = 2 * L.reg + L.seg * L.blk
  d0 : 64 ≤ L.dev
  d1 : L.dev ≤ 1000
  rf0 : 4 * L.last + 6 + L.seg ≤ L.reg * L.fan
  rf1 : L.reg * L.fan ≤ 3000
theorem Fits.all {s b z : Int} (h : Fits s b z) : LayC (layOf s b z) := by
  obtain ⟨s0, s1, b0, b1, hz, _⟩ := h
  have e : (s - 2) * (b - 1) + (b - 1) = (s - 1) * (b - 1) := by
    have e : s - 1 = (s - 2) + 1 := by omega
    rw [e, Int.add_mul, Int.one_mul]
  have h1 : 3 * (b - 1) ≤ (s - 1) * (b - 1) := Int.mul_le_mul_of_nonneg_right (by omega) (by omega)
  have h2 : (s - 1) * (b - 1) ≤ 15 * (b - 1) := Int.mul_le_mul_of_nonneg_right (by omega) (by omega)
  have h3 : 4 * b ≤ s * b := Int.mul_le_mul_of_nonneg_right (by omega) (by omega)
  have h4 : s * b ≤ 16 * b := Int.mul_le_mul_of_nonneg_right (by omega) (by omega)
  have hl : (layOf s b z).last = (s - 1) * (b - 1) := e
  have hr : (layOf s b z).reg = (2 * (4 * ((s - 2) * (b - 1) + (b - 1)) + 6 + s) + z - 1) / z := rfl
  have hf : (layOf s b z).fan = z / 2 := rfl
  have hd : (layOf s b z).dev = 2 * (layOf s b z).reg + s * b := rfl
  have hs : (layOf s b z).seg = s := rfl
  rw [e] at hr
  generalize hL : layOf s b z = L at hl hr hf hd hs
  have pp : L.pay = L.blk - 1 ∧ L.lim = (L.seg - 2) * L.pay ∧ L.last = L.lim + L.pay ∧ L.blk = b ∧ L.size = z ∧ L.dev = 2 * L.reg + L.seg * L.blk := by
    subst hL
    exact ⟨rfl, rfl, rfl, rfl, rfl, rfl⟩
  obtain ⟨p1, p2, p3, p4, p5, p6⟩ := pp
  generalize (s - 1) * (b - 1) = n at h1 h2 hl hr
  generalize hsb : s * b = k at h3 h4 hd
  have key : 2 * L.fan = z ∧ 32 ≤ L.fan ∧ L.fan ≤ 128 ∧ 2 ≤ L.reg ∧ L.reg ≤ 60 ∧ 4 * L.last + 6 + L.seg ≤ L.reg * L.fan ∧ L.reg * L.fan ≤ 3000 := by
    rcases hz with rfl | rfl | rfl
    · rw [hf, show (64 : Int) / 2 = 32 from by decide]; omega
    · rw [hf, show (128 : Int) / 2 = 64 from by decide]; omega
    · rw [hf, show (256 : Int) / 2 = 128 from by decide]; omega
  obtain ⟨k1, k2, k3, k4, k5, k6, k7⟩ := key
  refine ⟨by omega, by omega, by omega, by omega, by omega, by omega, p1, p2, p3, by omega, by omega, by omega, k2, k3, k4, k5, p6, by omega, by omega, k6, k7⟩
local macro_rules | `(tactic| walk_at "pr") => `(tactic| with_reducible (refine' Sg.LayAt.mono ?h1 ?h2; (case h1 => assumption); (case h2 => walk_at "pr")))

theorem i_lawlay {C : Addr} {args_ : List V} {H : Hp} {Q : V → Hp → Prop} {E : XK} {r : Int} (ev : args_ = [.int r]) (q : ∀ (L : Lay) (H' : Hp) (p : Addr), LayC L → Same H H' → H p = none → LayAt C L H' p → Q (.ref p) H') : sp_lawlay C args_ H Q E :=
  ⟨r, ev, fun _ _ _ H' p hF s n hL => q _ H' p hF.all s n hL⟩
local macro_rules | `(tactic| walk_at "ca1") => `(tactic| with_reducible (refine' Sg.i_lawlay ?ev ?_; (case ev => (with_unfolding_all rfl)); intros))

theorem paired_at {α β : Type} {F : α → β → Prop} : ∀ {xs : List α} {ys : List β} {i : Nat} {x : α}, Paired F xs ys → xs[i]? = some x → ∃ y, ys[i]? = some y ∧ F x y
  | _, _, _, _, .nil, e => by simp at e
  | _, _, 0, _, .cons r t, e => by simp at e; subst e; exact ⟨_, rfl, r⟩
  | _, _, i + 1, _, .cons r t, e => by
    obtain ⟨y, e1, h1⟩ := paired_at (i := i) t (by simpa using e)
    exact ⟨y, by simpa using e1, h1⟩
/-! ### what stays: tuples, and what is frozen -/
def Fixed : HO → Prop
  | .tup _ => True
  | .frz _ _ => True
  | _ => False
def Keeps (H H' : Hp) : Prop := ∀ b o, Fixed o → H b = some o → H' b = some o
theorem Keeps.refl (H : Hp) : Keeps H H := fun _ _ _ h => h
theorem Keeps.trans {H H1 H2 : Hp} (a : Keeps H H1) (b : Keeps H1 H2) : Keeps H H2 := fun c o f h => b c o f (a c o f h)
theorem Keeps.of {H H' : Hp} (s : Same H H') : Keeps H H' := fun b o _ h => s b o h
theorem Keeps.upd {H H' : Hp} {l : Addr} {o ol : HO} (h : H l = some ol) (n : ¬ Fixed ol) (e : L2.upd H l o = H') : Keeps H H' := fun b u f q => by
  rw [← e, upd_ne]
  · exact q
  · rintro rfl
    rw [h] at q
    cases q
    exact n f
theorem Keeps.tup {K : PySem.W.Frag} {H H' : Hp} {a : Addr} {xs : List V} (s : Keeps H H') (h : SqT K H a xs) : SqT K H' a xs := by
  rcases h with (h | ⟨o, h⟩) | h
  · exact .inl (.inl (s _ _ trivial h))
  · exact .inl (.inr ⟨o, s _ _ trivial h⟩)
  · exact .inr h
/-- the script, and what stands written -/
theorem Keeps.script {K : PySem.W.Frag} {H H' : Hp} {a : Addr} {o : Obj} {xs : List V} (s : Keeps H H') (h : H a = some (.frz o (.lst xs))) : SqL K H' a xs := .inl (.inr ⟨o, s _ _ trivial h⟩)
theorem SqL.keep {K : PySem.W.Frag} {H H' : Hp} {a d C dx : Addr} {fs : List (Str × V)} {o : HO} {xs : List V} (h : SqL K H a xs) (hd : H d = some (.ins C dx fs)) (e : L2.upd H d o = H') : SqL K H' a xs := by
  rcases h with (h | ⟨o', h⟩) | h
  · exact .inl (.inl (at_keep e h hd (by intro z; cases z)))
  · exact .inl (.inr ⟨o', at_keep e h hd (by intro z; cases z)⟩)
  · exact .inr h
/-- the script: a list that is read for as long as what is fixed stays -/
def Scr (K : PySem.W.Frag) (H : Hp) (a : Addr) (ns : List Int) : Prop := ∀ H', Keeps H H' → SqL K H' a (ns.map V.int)
theorem scr_of {K : PySem.W.Frag} {H : Hp} {a : Addr} {ns : List Int} (hO : Only H) (h : SqL K H a (ns.map V.int)) : Scr K H a ns := fun H' k => by
  rcases h with (h | ⟨o', h⟩) | h
  · rcases hO a with z | ⟨o, xs, z⟩ <;> rw [h] at z <;> cases z
  · exact .inl (.inr ⟨o', k _ _ trivial h⟩)
  · exact .inr h
/-- [e for x in range], its items anything -/
theorem r_lcR {lo : Int} {n slot : Nat} {vs : List Nat} {te : TE} {σ : L2.St} {H : Hp} {Q : V → Hp → Prop} (P : Nat → List V → Hp → Prop) (hn : n ≤ 100000) (hv : vs = [slot])
    (h0 : P 0 [] H)
    (hs : ∀ (i : Nat) (acc : List V) (H0 H' : Hp), i < n → L2.Same H H0 → P i acc H0 → L2.Same H0 H' → ∀ R : V → Hp → Prop,
      (∀ (v : V) (H'' : Hp), L2.Same H' H'' → (∀ D, H0 D = none → H' D = some (.lst acc) → P (i + 1) (acc ++ [v]) (hid D H'')) → R v H'') → te ((wipe σ vs).set slot (some (.int (lo + i)))) H' R)
    (q : ∀ (H' : Hp) (l : Addr) (acc : List V), L2.Same H H' → H l = none → H' l = some (.lst acc) → acc.length = n → P n acc (hid l H') → Q (.ref l) H') :
    kLc (gName slot) tYes te vs σ Q (Itr lo n) H := by
  intro L hL
  have hw : ∀ (τ : L2.St) (x : V), wipe (τ.set slot (some x)) [slot] = wipe τ [slot] := fun τ x => by simp [wipe, List.set_set]
  have hw2 : wipe (wipe σ vs) vs = wipe σ vs := by subst hv; simp [wipe, List.set_set]
  refine lc_range (fun i H' => ∃ acc : List V, acc.length = i ∧ H' L = some (.lst acc) ∧ L2.Same H H' ∧ P i acc (hid L H')) ⟨[], rfl, upd_same, fun b o e => by rw [upd_ne (ne_of_none e hL)]; exact e, by rw [hid_upd, hid_none hL]; exact h0⟩ ?_ ?_
  · rintro i H' hi ⟨acc, el, eL, s, hp⟩
    refine ⟨?_, ?_⟩
    · subst hv
      rw [hw]
      exact hw2
    · show te ((wipe σ vs).set slot (some (.int (lo + i)))) H' _
      refine hs i acc (hid L H') H' hi (same_hid s hL) hp hid_same _ fun v H'' s2 hP => ⟨acc, s2 _ _ eL, ?_, acc ++ [v], ?_, upd_same, ?_, ?_⟩
      · rw [el, sz]
        omega
      · rw [List.length_append, el]; rfl
      · intro b o e
        rw [upd_ne (ne_of_none e hL)]
        exact s2 _ _ (s _ _ e)
      · rw [hid_upd]
        exact hP L hid_at eL
  · rintro H' ⟨acc, el, eL, s, hp⟩
    exact q H' L acc s hL eL el hp
theorem keeps_hid {H : Hp} {D : Addr} {xs : List V} (h : H D = some (.lst xs)) : Keeps H (hid D H) := fun b o f e => by
  rw [hid_ne (ne_of e h (by rintro rfl; exact f))]
  exact e
theorem Keeps.hid {H H' : Hp} {D : Addr} (k : Keeps H H') (n : H D = none) : Keeps H (hid D H') := fun b o f e => by
  rw [hid_ne (ne_of_none e n)]
  exact k _ _ f e
mutual
/-- data of tuples alone -/
def tOnly : PyData → Bool
  | .none => true
  | .bool _ => true
  | .int _ => true
  | .str _ => true
  | .tuple ds => tOnlyAll ds
  | _ => false
def tOnlyAll : List PyData → Bool
  | [] => true
  | d :: ds => tOnly d && tOnlyAll ds
end
mutual
theorem Dp.keeps {K : PySem.W.Frag} {H H' : Hp} (s : Keeps H H') : ∀ (d : PyData) (v : V), tOnly d = true → Dp K H v d → Dp K H' v d
  | .none, _, _, h => by cases h; exact .non
  | .bool b, _, _, h => by cases h; exact .bl b
  | .int i, _, _, h => by cases h; exact .int i
  | .str x, _, _, h => by cases h; exact .str x
  | .list ds, _, t, _ => by simp [tOnly] at t
  | .tuple ds, _, t, h => by
    cases h with
    | tup hs ha => exact .tup (s.tup hs) (DpAll.keeps s ds _ (by simpa [tOnly] using t) ha)
  | .dict _, _, _, h => by cases h
theorem DpAll.keeps {K : PySem.W.Frag} {H H' : Hp} (s : Keeps H H') : ∀ (ds : List PyData) (vs : List V), tOnlyAll ds = true → DpAll K H vs ds → DpAll K H' vs ds
  | [], _, _, h => by cases h; exact .nil
  | d :: ds, _, t, h => by
    cases h with
    | cons h1 h2 =>
      have t' : tOnly d = true ∧ tOnlyAll ds = true := by simpa [tOnlyAll] using t
      exact .cons (Dp.keeps s d _ t'.1 h1) (DpAll.keeps s ds _ t'.2 h2)
end
/-- a block's value: data of tuples, not deep -/
def Bk (K : PySem.W.Frag) (H : Hp) (v : V) : Prop := ∃ d, Dp K H v d ∧ Fl 3 d ∧ tOnly d = true
theorem Bk.keeps {K : PySem.W.Frag} {H H' : Hp} {v : V} (s : Keeps H H') (h : Bk K H v) : Bk K H' v := by
  obtain ⟨d, h1, h2, h3⟩ := h
  exact ⟨d, Dp.keeps s d v h3 h1, h2, h3⟩
theorem Bk.non {K : PySem.W.Frag} {H : Hp} : Bk K H .non := ⟨.none, .non, Fl.non 3, rfl⟩
theorem tOnly_ints : ∀ ns : List Int, tOnlyAll (ns.map PyData.int) = true
  | [] => rfl
  | n :: ns => by rw [List.map_cons, tOnlyAll, tOnly, tOnly_ints ns]; rfl
/-- a block that the text writes: (kind, sequence, rank, body), the body a tuple of ints -/
theorem Bk.mk {K : PySem.W.Frag} {H : Hp} {t b : Addr} {i j k : Int} {ns : List Int} (h : H t = some (.tup [.int i, .int j, .int k, .ref b])) (hb : SqT K H b (ns.map V.int)) : Bk K H (.ref t) :=
  ⟨.tuple [.int i, .int j, .int k, .tuple (ns.map PyData.int)], .tup (.of h) (.cons (.int _) (.cons (.int _) (.cons (.int _) (.cons (.tup hb (DpAll.ints ns)) .nil)))), (Fl.tup (Fl.cons (Fl.int _ _) (Fl.cons (Fl.int _ _) (Fl.cons (Fl.int _ _) (Fl.cons (Fl.ints ns) Fl.nil))))).mono (by decide),
    by simp [tOnly, tOnlyAll, tOnly_ints]⟩
/-- equal values are equal -/
theorem r_neB {K : PySem.W.Frag} {H : Hp} {v : V} {Q : V → Hp → Prop} (h : Bk K H v) (q : Q (.bl false) H) : rNeD K v v H Q := by
  obtain ⟨d, h1, h2, _⟩ := h
  refine r_ned h1 h1 h2.shaped h2.shaped ?_
  rw [h2.self]
  exact q

/-! ### the device -/
structure DevM where
  lay : Addr
  sure : List V
  shown : List V
  wait : List (Int × V)
  left : Option Int
  off : Bool
def leftV : Option Int → V
  | none => .non
  | some n => .int n
structure DevFs (fs : List (Str × V)) (m : DevM) (su sh un : Addr) : Prop where
  few : fs.length ≤ 20
  lay : fs.lookup ("layout" : Str) = some (.ref m.lay)
  sure : fs.lookup ("_sure" : Str) = some (.ref su)
  shown : fs.lookup ("_shown" : Str) = some (.ref sh)
  uns : fs.lookup ("_unsure" : Str) = some (.ref un)
  left : fs.lookup ("_commands_left" : Str) = some (leftV m.left)
  off : fs.lookup ("_power_is_off" : Str) = some (.bl m.off)
  nT : fs.lookup ("_takes_place" : Str) = none
  nR : fs.lookup ("read" : Str) = none
  nW : fs.lookup ("write" : Str) = none
  nB : fs.lookup ("barrier" : Str) = none
  nC : fs.lookup ("cut_after" : Str) = none
  nP : fs.lookup ("pending" : Str) = none
  nS : fs.lookup ("sure_blocks" : Str) = none
  nU : fs.lookup ("was_cut" : Str) = none
  nL : fs.lookup ("left" : Str) = none
  nK : fs.lookup ("fork" : Str) = none
  nG : fs.lookup ("written_blocks" : Str) = none
theorem DevFs.to {fs : List (Str × V)} {m m' : DevM} {su sh un : Addr} (h : DevFs fs m su sh un) (e1 : m'.lay = m.lay) (e2 : m'.left = m.left) (e3 : m'.off = m.off) : DevFs fs m' su sh un := by
  obtain ⟨h1, h2, h3, h4, h5, h6, h7, g1, g2, g3, g4, g5, g6, g7, g8, g9, g10, g11⟩ := h
  exact ⟨h1, by rw [e1]; exact h2, h3, h4, h5, by rw [e2]; exact h6, by rw [e3]; exact h7, g1, g2, g3, g4, g5, g6, g7, g8, g9, g10, g11⟩
/-- a device over what stood ahead of it -/
structure DevIn (C : Addr) (H0 H : Hp) (d : Addr) (m : DevM) : Prop where
  same : Same H0 H
  new : H0 d = none
  at_ : ∃ (dx : Addr) (fs : List (Str × V)) (su sh un : Addr) (us : List Addr), H d = some (.ins C dx fs) ∧ DevFs fs m su sh un ∧ H0 su = none ∧ H0 sh = none ∧ H0 un = none ∧ su ≠ sh ∧ su ≠ un ∧ sh ≠ un ∧
    H su = some (.lst m.sure) ∧ H sh = some (.lst m.shown) ∧ H un = some (.lst (us.map V.ref)) ∧ Paired (fun (u : Addr) (p : Int × V) => H u = some (.tup [.int p.1, p.2])) us m.wait
theorem pairs_keeps {H H' : Hp} (s : Keeps H H') : ∀ {us : List Addr} {ps : List (Int × V)}, Paired (fun (u : Addr) (p : Int × V) => H u = some (.tup [.int p.1, p.2])) us ps → Paired (fun (u : Addr) (p : Int × V) => H' u = some (.tup [.int p.1, p.2])) us ps
  | _, _, .nil => .nil
  | _, _, .cons h t => .cons (s _ _ trivial h) (pairs_keeps s t)
theorem DevIn.mono {C : Addr} {H0 H H' : Hp} {d : Addr} {m : DevM} (s : Same H H') (h : DevIn C H0 H d m) : DevIn C H0 H' d m := by
  obtain ⟨s0, n0, dx, fs, su, sh, un, us, h1, h2, h3, h4, h5, h6, h7, h8, h9, h10, h11, h12⟩ := h
  exact ⟨s0.trans s, n0, dx, fs, su, sh, un, us, s _ _ h1, h2, h3, h4, h5, h6, h7, h8, s _ _ h9, s _ _ h10, s _ _ h11, pairs_keeps (Keeps.of s) h12⟩
/-- what stood ahead of it is changed -/
theorem DevIn.rebase {C : Addr} {H0 H : Hp} {d e : Addr} {m : DevM} {o ol : HO} (h : DevIn C H0 H d m) (he : H0 e = some ol) (hn : ¬ Fixed ol) : DevIn C (upd H0 e o) (upd H e o) d m := by
  obtain ⟨s0, n0, dx, fs, su, sh, un, us, h1, h2, h3, h4, h5, h6, h7, h8, h9, h10, h11, h12⟩ := h
  have ne : ∀ {x : Addr}, H0 x = none → x ≠ e := fun h z => by rw [z, he] at h; cases h
  refine ⟨fun b u q => ?_, by rw [upd_ne (ne n0)]; exact n0, dx, fs, su, sh, un, us, by rw [upd_ne (ne n0)]; exact h1, h2, by rw [upd_ne (ne h3)]; exact h3, by rw [upd_ne (ne h4)]; exact h4, by rw [upd_ne (ne h5)]; exact h5, h6, h7, h8,
    by rw [upd_ne (ne h3)]; exact h9, by rw [upd_ne (ne h4)]; exact h10, by rw [upd_ne (ne h5)]; exact h11, pairs_keeps (Keeps.upd (s0 _ _ he) hn rfl) h12⟩
  by_cases hb : b = e
  · rw [hb, upd_same] at q
    rw [hb, upd_same]
    exact q
  · rw [upd_ne hb] at q
    rw [upd_ne hb]
    exact s0 _ _ q

/-! ### methods of the device -/
def putB (xs : List V) (a : Int) (v : V) : List V := if 0 ≤ a ∧ a < xs.length then xs.set a.toNat v else xs
theorem putB_len {xs : List V} {a : Int} {v : V} : (putB xs a v).length = xs.length := by
  unfold putB
  split
  · rw [List.length_set]
  · rfl
def sp_put_block : Sp := fun vs H Q _ => ∃ (l : Addr) (a : Int) (v : V) (xs : List V), vs = [.ref l, .int a, v] ∧ H l = some (.lst xs) ∧ ∀ H', upd H l (.lst (putB xs a v)) = H' → Q .non H'
theorem upd_self {H : Hp} {l : Addr} {o : HO} (h : H l = some o) : upd H l o = H := by
  funext b
  by_cases hb : b = l
  · rw [hb, upd_same, h]
  · rw [upd_ne hb]
theorem ok_put_block (T : Txt K mg) : FnOk P w K mg base CX0 1 T.a_put_block T.fd_put_block ["blocks", "address", "block"] sp_put_block := by
  refine T.F_put_block.ok sc_put_block (fun vs H Q E h => ?_) (fun cdv A outer s H vs Q E hr h => ?_)
  · obtain ⟨l, a, v, xs, rfl, _⟩ := h
    rfl
  · refine ⟨_, (pss_one (ps_if (pt_chain op_le op_lt pe_int (pv 1) (pe_callB (c_len) (by rfl) T.n_len (by decide +kernel) (pa_cons (pv 0) pa_nil)))
       (pss_one (ps_asg (pv 2) (pg_sub (pv 0) (pv 1) set_list)))
       pss_nil)), ?_⟩
    try dsimp only [cxOf, Cx.nox, Cx.wish]
    obtain ⟨l, a, v, xs, rfl, hl, q⟩ := h
    walk_at "rd"
    refine r_ite (fun h0 => ?_) (fun h0 => ?_)
    · walk_at "rd"
      refine r_ite (fun h1 => ?_) (fun h1 => ?_)
      · walk_at "rd"
        refine r_setl hl (ixN_ok h0 h1) ?_
        exact q _ (by rw [putB, if_pos ⟨h0, h1⟩])
      · walk_at "rd"
        exact q _ (by rw [putB, if_neg (fun z => h1 z.2)]; exact upd_self hl)
    · walk_at "rd"
      exact q _ (by rw [putB, if_neg (fun z => h0 z.1)]; exact upd_self hl)
theorem putF_same {f : Str} {x v : V} : ∀ {fs : List (Str × V)}, fs.lookup f = some v → (putF f x fs).length = fs.length
  | [], h => by simp at h
  | (g, y) :: r, h => by
    unfold putF
    by_cases e : g = f
    · rw [if_pos e]
      rfl
    · rw [if_neg e]
      rw [List.lookup_cons] at h
      have hb : (f == g) = false := by
        cases hb : f == g with
        | false => rfl
        | true => exact absurd (eq_of_beq hb).symm e
      rw [hb] at h
      rw [List.length_cons, List.length_cons, putF_same h]
/-- a command is counted -/
def takeF (m : DevM) : DevM := match m.left with
  | some n => if n = 0 then { m with off := true } else { m with left := some (n - 1) }
  | none => m
theorem takeF_lists (m : DevM) : (takeF m).sure = m.sure ∧ (takeF m).shown = m.shown ∧ (takeF m).wait = m.wait ∧ (takeF m).lay = m.lay := by
  unfold takeF
  split
  · split <;> exact ⟨rfl, rfl, rfl, rfl⟩
  · exact ⟨rfl, rfl, rfl, rfl⟩
def sp_takes (C : Addr) : Sp := fun vs H Q _ => ∃ (H0 : Hp) (d : Addr) (m : DevM), vs = [.ref d] ∧ DevIn C H0 H d m ∧ ∀ H', DevIn C H0 H' d (takeF m) → Keeps H H' → Q (.bl (!(takeF m).off)) H'
/-- a field of the device is set -/
theorem DevFs.left' {fs : List (Str × V)} {m : DevM} {su sh un : Addr} (h : DevFs fs m su sh un) (n : Option Int) : DevFs (putF "_commands_left" (leftV n) fs) { m with left := n } su sh un := by
  obtain ⟨h1, h2, h3, h4, h5, h6, h7, g1, g2, g3, g4, g5, g6, g7, g8, g9, g10, g11⟩ := h
  exact ⟨by rw [putF_same h6]; exact h1, by walk_at "lk", by walk_at "lk", by walk_at "lk", by walk_at "lk", by walk_at "lk", by walk_at "lk", by walk_at "lk", by walk_at "lk", by walk_at "lk", by walk_at "lk", by walk_at "lk", by walk_at "lk", by walk_at "lk", by walk_at "lk", by walk_at "lk", by walk_at "lk", by walk_at "lk"⟩
theorem DevFs.off' {fs : List (Str × V)} {m : DevM} {su sh un : Addr} (h : DevFs fs m su sh un) (b : Bool) : DevFs (putF "_power_is_off" (.bl b) fs) { m with off := b } su sh un := by
  obtain ⟨h1, h2, h3, h4, h5, h6, h7, g1, g2, g3, g4, g5, g6, g7, g8, g9, g10, g11⟩ := h
  exact ⟨by rw [putF_same h7]; exact h1, by walk_at "lk", by walk_at "lk", by walk_at "lk", by walk_at "lk", by walk_at "lk", by walk_at "lk", by walk_at "lk", by walk_at "lk", by walk_at "lk", by walk_at "lk", by walk_at "lk", by walk_at "lk", by walk_at "lk", by walk_at "lk", by walk_at "lk", by walk_at "lk", by walk_at "lk"⟩
theorem DevFs.uns' {fs : List (Str × V)} {m : DevM} {su sh un : Addr} (h : DevFs fs m su sh un) (u : Addr) (w : List (Int × V)) : DevFs (putF "_unsure" (.ref u) fs) { m with wait := w } su sh u := by
  obtain ⟨h1, h2, h3, h4, h5, h6, h7, g1, g2, g3, g4, g5, g6, g7, g8, g9, g10, g11⟩ := h
  exact ⟨by rw [putF_same h5]; exact h1, by walk_at "lk", by walk_at "lk", by walk_at "lk", by walk_at "lk", by walk_at "lk", by walk_at "lk", by walk_at "lk", by walk_at "lk", by walk_at "lk", by walk_at "lk", by walk_at "lk", by walk_at "lk", by walk_at "lk", by walk_at "lk", by walk_at "lk", by walk_at "lk", by walk_at "lk"⟩
theorem insNF {C dx : Addr} {fs : List (Str × V)} : ¬ Fixed (.ins C dx fs) := fun z => z
theorem lstNF {xs : List V} : ¬ Fixed (.lst xs) := fun z => z
/-- the device's own record is changed -/
theorem DevIn.setd {C : Addr} {H0 H H' : Hp} {d dx : Addr} {m m' : DevM} {fs fs' : List (Str × V)} {su sh un : Addr} {us : List Addr} (s0 : Same H0 H) (n0 : H0 d = none) (h1 : H d = some (.ins C dx fs)) (e : upd H d (.ins C dx fs') = H') (h2 : DevFs fs' m' su sh un)
    (h3 : H0 su = none) (h4 : H0 sh = none) (h5 : H0 un = none) (h6 : su ≠ sh) (h7 : su ≠ un) (h8 : sh ≠ un) (h9 : H su = some (.lst m.sure)) (h10 : H sh = some (.lst m.shown)) (h11 : H un = some (.lst (us.map V.ref)))
    (h12 : Paired (fun (u : Addr) (p : Int × V) => H u = some (.tup [.int p.1, p.2])) us m.wait) (e1 : m'.sure = m.sure) (e2 : m'.shown = m.shown) (e3 : m'.wait = m.wait) : DevIn C H0 H' d m' := by
  have k : ∀ {x : Addr} {xs : List V}, H x = some (.lst xs) → H' x = some (.lst xs) := fun hx => at_keep e hx h1 (by intro z; cases z)
  exact ⟨Same.old s0 n0 e, n0, dx, fs', su, sh, un, us, Sg.at_new e, h2, h3, h4, h5, h6, h7, h8, by rw [e1]; exact k h9, by rw [e2]; exact k h10, k h11, by rw [e3]; exact pairs_keeps (Keeps.upd h1 insNF e) h12⟩
theorem ok_Device__takes_place (T : Txt K mg) : FnOk P w K mg base CX0 1 T.a_Device__takes_place T.fd_Device__takes_place ["self"] (sp_takes T.A_Device) := by
  refine T.F_Device__takes_place.ok sc_Device__takes_place (fun vs H Q E h => ?_) (fun cdv A outer s H vs Q E hr h => ?_)
  · obtain ⟨H0, d, m, rfl, _⟩ := h
    rfl
  · refine ⟨_, (C8.pss_cut (ps_if (pt_cmpR op_eq (pe_fld (pv 0) rfl) pe_int (nomark _))
       (pss_one (ps_fld (pv 0) pe_bl rfl))
       (pss_one (ps_if (pt_cmp (pc_notN (pe_fld (pv 0) rfl)) rfl)
       (pss_one (ps_fldaug (pv 0) pe_int in_sub))
       pss_nil)))
       (pss_one (ps_ret (pe_not (pe_fld (pv 0) rfl))))), ?_⟩
    try dsimp only [cxOf, Cx.nox, Cx.wish]
    obtain ⟨H0, d, m, rfl, ⟨s0, n0, dx, fs, su, sh, un, us, h1, h2, h3, h4, h5, h6, h7, h8, h9, h10, h11, h12⟩, q⟩ := h
    have cl := T.cl_Device
    have na1 := T.na_Device__commands_left
    have na2 := T.na_Device__power_is_off
    obtain ⟨few, lkl, lks, lkh, lku, lkc, lko, _⟩ := id h2
    walk_at "rd"
    refine r_cut (fun σ' H' => σ' = [some (.ref d)] ∧ DevIn T.A_Device H0 H' d (takeF m) ∧ Keeps H H') ?_ ?_
    · walk_at "rd"
      have base : takeF m = m → DevIn T.A_Device H0 H d (takeF m) := fun e => by
        rw [e]
        exact ⟨s0, n0, dx, fs, su, sh, un, us, h1, h2, h3, h4, h5, h6, h7, h8, h9, h10, h11, h12⟩
      cases hl : m.left with
      | none =>
        rw [hl] at lkc
        have lkc : fs.lookup ("_commands_left" : Str) = some .non := lkc
        show rEq .non (.int 0) H _
        refine r_eq rfl ?_
        walk_at "rd"
        exact ⟨rfl, base (by unfold takeF; rw [hl]), Keeps.refl H⟩
      | some n =>
        rw [hl] at lkc
        have lkc : fs.lookup ("_commands_left" : Str) = some (.int n) := lkc
        show rEq (.int n) (.int 0) H _
        walk_at "rd"
        refine r_ite (fun h0 => ?_) (fun h0 => ?_)
        · walk_at "rd"
          rename_i H' e _
          refine ⟨rfl, ?_, Keeps.upd h1 insNF e⟩
          have em : takeF m = { m with off := true } := by unfold takeF; rw [hl]; exact if_pos h0
          rw [em]
          exact DevIn.setd (m := m) s0 n0 h1 e (h2.off' true) h3 h4 h5 h6 h7 h8 h9 h10 h11 h12 rfl rfl rfl
        · walk_at "rd"
          refine ⟨_, rfl, d, _, dx, fs, _, rfl, h1, cl, na1, lkc, ?_⟩
          refine ⟨_, _, rfl, rfl, dx, fs, h1, by omega, ?_⟩
          have em : takeF m = { m with left := some (n - 1) } := by unfold takeF; rw [hl]; exact if_neg h0
          refine ⟨rfl, ?_, Keeps.upd h1 insNF rfl⟩
          rw [em]
          exact DevIn.setd (m := m) s0 n0 h1 rfl (h2.left' (some (n - 1))) h3 h4 h5 h6 h7 h8 h9 h10 h11 h12 rfl rfl rfl
    · rintro _ H' ⟨rfl, hD, hK⟩
      obtain ⟨s0', n0', dx', fs', su', sh', un', us', h1', h2', _⟩ := id hD
      have lko' := h2'.off
      walk_at "rd"
      exact q _ hD hK
def readF (m : DevM) (a : Int) : V := if 0 ≤ a ∧ a < m.shown.length then m.shown.getD a.toNat .non else .non
def sp_read (C : Addr) : Sp := fun vs H Q _ => ∃ (H0 : Hp) (d : Addr) (m : DevM) (a : Int), vs = [.ref d, .int a] ∧ DevIn C H0 H d m ∧ Q (readF m a) H
theorem at_vals {xs : List V} {k : Int} (h0 : 0 ≤ k) (h1 : k < xs.length) : atI xs k = some (xs.getD k.toNat .non) := by
  obtain ⟨n, rfl⟩ := Int.eq_ofNat_of_zero_le h0
  have hn : n < xs.length := by omega
  refine atI_nat ?_
  rw [List.getElem?_eq_getElem hn, List.getD_eq_getElem?_getD, Int.toNat_natCast, List.getElem?_eq_getElem hn]
  rfl
theorem ok_Device_read (T : Txt K mg) : FnOk P w K mg base CX0 1 T.a_Device_read T.fd_Device_read ["self", "address"] (sp_read T.A_Device) := by
  refine T.F_Device_read.ok sc_Device_read (fun vs H Q E h => ?_) (fun cdv A outer s H vs Q E hr h => ?_)
  · obtain ⟨H0, d, m, a, rfl, _⟩ := h
    rfl
  · refine ⟨_, (pss_cons (ps_if (pt_not (pt_chain op_le op_lt pe_int (pv 1) (pe_callB (c_len) (by rfl) T.n_len (by decide +kernel) (pa_cons (pe_fld (pv 0) rfl) pa_nil))))
       (pss_one (ps_ret pe_non))
       pss_nil)
       (pss_one (ps_ret (pe_ix ix_list (pe_fld (pv 0) rfl) (pv 1) (fun _ _ => rfl))))), ?_⟩
    try dsimp only [cxOf, Cx.nox, Cx.wish]
    obtain ⟨H0, d, m, a, rfl, ⟨s0, n0, dx, fs, su, sh, un, us, h1, h2, h3, h4, h5, h6, h7, h8, h9, h10, h11, h12⟩, q⟩ := h
    have cl := T.cl_Device
    have na1 := T.na_Device__shown
    obtain ⟨few, lkl, lks, lkh, lku, lkc, lko, _⟩ := id h2
    by_cases ha : 0 ≤ a ∧ a < m.shown.length
    · obtain ⟨a0, a1⟩ := ha
      walk_at "rdo"
      refine r_ixl (by walk_at "hp") (at_vals a0 a1) ?_
      rw [readF, if_pos ⟨a0, a1⟩] at q
      exact q
    · rw [readF, if_neg ha] at q
      walk_at "rd"
      refine r_ite (fun h0 => ?_) (fun h0 => ?_)
      · walk_at "rdo"
        exact q
      · walk_at "rdo"
        exact q
def writeF (m : DevM) (a : Int) (v : V) : DevM :=
  { takeF m with wait := if (takeF m).off then m.wait else m.wait ++ [(a, v)], shown := putB m.shown a v }
def sp_write (C : Addr) : Sp := fun vs H Q _ => ∃ (H0 : Hp) (d : Addr) (m : DevM) (a : Int) (v : V), vs = [.ref d, .int a, v] ∧ DevIn C H0 H d m ∧ m.wait.length ≤ 1000 ∧ ∀ H', DevIn C H0 H' d (writeF m a v) → Keeps H H' → Q .non H'
theorem ok_Device_write (T : Txt K mg) : FnOk P w K mg base CX0 2 T.a_Device_write T.fd_Device_write ["self", "address", "block"] (sp_write T.A_Device) := by
  refine T.F_Device_write.ok sc_Device_write (fun vs H Q E h => ?_) (fun cdv A outer s H vs Q E hr h => ?_)
  · obtain ⟨H0, d, m, a, v, rfl, _⟩ := h
    rfl
  · refine ⟨_, (C8.pss_cut (ps_if (pt_val (pe_meth0 (pv 0) T.cl_Device T.me_Device__takes_place (ok_Device__takes_place T) (hr.mono (by decide)) T.b_Device__takes_place .nil pass0))
       (pss_one (ps_expr (pe_bm PySem.F.plainAttrs_list PySem.F.slot_list_append PySem.F.type_list_append mt_append (pe_fld (pv 0) rfl) (pa_cons (pe_tup (pa_cons (pv 1) (pa_cons (pv 2) pa_nil))) pa_nil))))
       pss_nil)
       (pss_one (ps_expr (pe_call (ok_put_block T) (hr.mono (by decide)) rfl T.m_put_block T.F_put_block.kp T.b_put_block .nil pass0 (pa_cons (pe_fld (pv 0) rfl) (pa_cons (pv 1) (pa_cons (pv 2) pa_nil))))))), ?_⟩
    try dsimp only [cxOf, Cx.nox, Cx.wish]
    obtain ⟨H0, d, m, a, v, rfl, hD, hw, q⟩ := h
    have cl := T.cl_Device
    have na1 := T.na_Device__shown
    have na2 := T.na_Device__unsure
    obtain ⟨s0, n0, dx, fs, su, sh, un, us, h1, h2, _⟩ := id hD
    have nT := h2.nT
    walk_at "rd"
    refine r_cut (fun σ' H' => σ' = [some (.ref d), some (.int a), some v] ∧ DevIn T.A_Device H0 H' d { takeF m with wait := if (takeF m).off then m.wait else m.wait ++ [(a, v)] } ∧ Keeps H H') ?_ ?_
    · walk_at "rd"
      refine ⟨H0, d, m, rfl, hD, fun H1 hD1 hK1 => ?_⟩
      obtain ⟨t1, t2, t3, t4⟩ := takeF_lists m
      generalize takeF m = m1 at hD1 t1 t2 t3 t4
      walk_at "rd"
      refine to_ite (fun hb => ?_) (fun hb => ?_)
      · have ho : m1.off = false := by simpa using hb
        obtain ⟨s0', n0', dx', fs', su', sh', un', us', h1', h2', h3', h4', h5', h6', h7', h8', h9', h10', h11', h12'⟩ := id hD1
        have lku := h2'.uns
        walk_at "rd"
        rename_i tp ntp H2 s2 htp
        have hl' : us'.length ≤ 1000 := by rw [Paired.length h12', t3]; exact hw
        refine r_app (by walk_at "hp") (by rw [List.length_map, sz]; omega) ?_
        generalize hH : upd _ _ _ = H3
        refine ⟨rfl, ⟨Same.old (s0'.trans s2) h5' hH, n0', dx', fs', su', sh', un', us' ++ [tp], at_keep hH (s2 _ _ h1') (s2 _ _ h11') (by intro z; cases z), h2'.to rfl rfl rfl, h3', h4', h5', h6', h7', h8', ?_, ?_, ?_, ?_⟩, (hK1.trans (Keeps.of s2)).trans (Keeps.upd (s2 _ _ h11') lstNF hH)⟩
        · rw [← hH, upd_ne h7']
          exact s2 _ _ h9'
        · rw [← hH, upd_ne h8']
          exact s2 _ _ h10'
        · rw [← hH, upd_same, List.map_append]
          rfl
        · rw [ho, if_neg (by decide), ← t3]
          exact paired_snoc (pairs_keeps ((Keeps.of s2).trans (Keeps.upd (s2 _ _ h11') lstNF hH)) h12') (by rw [← hH, upd_ne (ne_of htp (s2 _ _ h11') (by intro z; cases z))]; exact htp)
      · have ho : m1.off = true := by simpa using hb
        refine ⟨rfl, ?_, hK1⟩
        rw [ho, if_pos rfl, ← t3]
        exact hD1
    · rintro _ H' ⟨rfl, hD', hK⟩
      obtain ⟨t1, t2, t3, t4⟩ := takeF_lists m
      obtain ⟨s0', n0', dx', fs', su', sh', un', us', h1', h2', h3', h4', h5', h6', h7', h8', h9', h10', h11', h12'⟩ := id hD'
      have lks := h2'.shown
      walk_at "rd"
      refine ⟨sh', a, v, _, rfl, h10', fun H2 hH => ?_⟩
      have kp : Keeps H' H2 := Keeps.upd h10' lstNF hH
      refine q _ ⟨Same.old s0' h4' hH, n0', dx', fs', su', sh', un', us', at_keep hH h1' h10' (by intro z; cases z), h2'.to rfl rfl rfl, h3', h4', h5', h6', h7', h8', ?_, ?_, ?_, pairs_keeps kp h12'⟩ (hK.trans kp)
      · rw [← hH, upd_ne h6']
        exact h9'
      · rw [← hH, upd_same]
        show some (HO.lst (putB (takeF m).shown a v)) = some (HO.lst (putB m.shown a v))
        rw [t2]
      · rw [← hH, upd_ne h8'.symm]
        exact h11'
def barrierF (m : DevM) : DevM := if (takeF m).off then takeF m else { takeF m with sure := m.wait.foldl (fun xs p => putB xs p.1 p.2) m.sure, wait := [] }
def sp_barrier (C : Addr) : Sp := fun vs H Q _ => ∃ (H0 : Hp) (d : Addr) (m : DevM), vs = [.ref d] ∧ DevIn C H0 H d m ∧ ∀ H', DevIn C H0 H' d (barrierF m) → Keeps H H' → Q .non H'
theorem ok_Device_barrier (T : Txt K mg) : FnOk P w K mg base CX0 2 T.a_Device_barrier T.fd_Device_barrier ["self"] (sp_barrier T.A_Device) := by
  refine T.F_Device_barrier.ok sc_Device_barrier (fun vs H Q E h => ?_) (fun cdv A outer s H vs Q E hr h => ?_)
  · obtain ⟨H0, d, m, rfl, _⟩ := h
    rfl
  · refine ⟨_, (pss_one (ps_if (pt_val (pe_meth0 (pv 0) T.cl_Device T.me_Device__takes_place (ok_Device__takes_place T) (hr.mono (by decide)) T.b_Device__takes_place .nil pass0))
       (pss_cons (ps_for PassesOwn.never rfl (pi_list (pe_fld (pv 0) rfl)) (pg_tup (by rfl) (pgs_cons (pg_name (i := 1) sc_Device_barrier.nd rfl (Or.inl rfl)) (pgs_cons (pg_name (i := 2) sc_Device_barrier.nd rfl (Or.inl rfl)) pgs_nil)))
       (pss_one (ps_expr (pe_call (ok_put_block T) (hr.mono (by decide)) rfl T.m_put_block T.F_put_block.kp T.b_put_block .nil pass0 (pa_cons (pe_fld (pv 0) rfl) (pa_cons (pv 1) (pa_cons (pv 2) pa_nil)))))))
       (pss_one (ps_fld (pv 0) (pe_lst pa_nil) rfl)))
       pss_nil)), ?_⟩
    try dsimp only [cxOf, Cx.nox, Cx.wish]
    obtain ⟨H0, d, m, rfl, hD, q⟩ := h
    have cl := T.cl_Device
    have na1 := T.na_Device__sure
    have na2 := T.na_Device__unsure
    obtain ⟨s0, n0, dx, fs, su, sh, un, us, h1, h2, _⟩ := id hD
    have nT := h2.nT
    walk_at "rd"
    refine ⟨H0, d, m, rfl, hD, fun H1 hD1 hK1 => ?_⟩
    obtain ⟨t1, t2, t3, t4⟩ := takeF_lists m
    unfold barrierF at q
    generalize takeF m = m1 at hD1 t1 t2 t3 t4 q
    walk_at "rd"
    refine to_ite (fun hb => ?_) (fun hb => ?_)
    · have ho : m1.off = false := by simpa using hb
      rw [ho, if_neg (by decide)] at q
      obtain ⟨s0', n0', dx', fs', su', sh', un', us', h1', h2', h3', h4', h5', h6', h7', h8', h9', h10', h11', h12'⟩ := id hD1
      have lku := h2'.uns
      have lks := h2'.sure
      have few := h2'.few
      walk_at "rd"
      refine r_forL (xs := us'.map V.ref) (fun i σ' H' => ∃ v1 v2 : Option V, σ' = [some (.ref d), v1, v2] ∧ DevIn T.A_Device H0 H' d { m1 with sure := (m1.wait.take i).foldl (fun xs p => putB xs p.1 p.2) m1.sure } ∧ Keeps H1 H' ∧ H' d = some (.ins T.A_Device dx' fs') ∧ H' un' = some (.lst (us'.map V.ref)) ∧ H' su' = some (.lst ((m1.wait.take i).foldl (fun xs p => putB xs p.1 p.2) m1.sure)) ∧ H' sh' = some (.lst m1.shown)) ?_ ?_ ?_ ?_
      · exact ⟨_, _, rfl, hD1, Keeps.refl _, h1', h11', h9', h10'⟩
      · rintro i σ' H' _ ⟨v1, v2, rfl, _, _, _, hu, _⟩
        exact .of hu
      · rintro i x σ' H' hx ⟨v1, v2, rfl, hD2, hK2, hd2, hu2, hs2, hh2⟩
        rw [List.getElem?_map] at hx
        obtain ⟨u, hu, rfl⟩ := Option.map_eq_some_iff.mp hx
        obtain ⟨p, ep, hp⟩ := paired_at h12' hu
        have hp2 : SqT K H' u [.int p.1, p.2] := .of (hK2 _ _ trivial hp)
        walk_at "rd"
        refine ⟨su', p.1, p.2, _, rfl, hs2, fun H3 hH => ?_⟩
        have kp : Keeps H' H3 := Keeps.upd hs2 lstNF hH
        have et : (m1.wait.take (i + 1)).foldl (fun xs p => putB xs p.1 p.2) m1.sure = putB ((m1.wait.take i).foldl (fun xs p => putB xs p.1 p.2) m1.sure) p.1 p.2 := by
          rw [List.take_add_one, ep, List.foldl_append]
          rfl
        have e1 : H3 d = some (.ins T.A_Device dx' fs') := at_keep hH hd2 hs2 (by intro z; cases z)
        have e2 : H3 un' = some (.lst (us'.map V.ref)) := by rw [← hH, upd_ne h7'.symm]; exact hu2
        have e3 : H3 sh' = some (.lst m1.shown) := by rw [← hH, upd_ne h6'.symm]; exact hh2
        have e4 : H3 su' = some (.lst (putB ((m1.wait.take i).foldl (fun xs p => putB xs p.1 p.2) m1.sure) p.1 p.2)) := by rw [← hH, upd_same]
        rw [et]
        refine ⟨_, _, rfl, ⟨Same.old hD2.same h3' hH, n0', dx', fs', su', sh', un', us', e1, h2'.to rfl rfl rfl, h3', h4', h5', h6', h7', h8', e4, e3, e2, pairs_keeps (hK2.trans kp) h12'⟩, hK2.trans kp, e1, e2, e4, e3⟩
      · rintro σ' H' ⟨v1, v2, rfl, hD2, hK2, hd2, hu2, hs2, hh2⟩
        rw [List.length_map, Paired.length h12', List.take_length] at hs2
        walk_at "rd"
        rename_i nl nnl H3 s3 hnl H4 hH _
        have kp : Keeps H' H4 := (Keeps.of s3).trans (Keeps.upd (s3 _ _ hd2) insNF hH)
        have en : nl ≠ d := fun e => by rw [e, hd2] at nnl; cases nnl
        have eu : nl ≠ su' := fun e => by rw [e, hs2] at nnl; cases nnl
        have eh : nl ≠ sh' := fun e => by rw [e, hh2] at nnl; cases nnl
        refine q _ ⟨Same.old (hD2.same.trans s3) n0' hH, n0', dx', _, su', sh', nl, [], Sg.at_new hH, ?_, h3', h4', hD2.same.free nnl, h6', eu.symm, eh.symm, ?_, ?_, ?_, .nil⟩ (hK1.trans (hK2.trans kp))
        · exact (h2'.uns' nl []).to rfl rfl rfl
        · refine at_keep hH (s3 _ _ ?_) (s3 _ _ hd2) (by intro z; cases z)
          rw [hs2, t3, t1]
        · refine at_keep hH (s3 _ _ ?_) (s3 _ _ hd2) (by intro z; cases z)
          exact hh2
        · exact at_keep hH hnl (s3 _ _ hd2) (by intro z; cases z)
    · have ho : m1.off = true := by simpa using hb
      rw [ho, if_pos rfl] at q
      walk_at "rd"
      exact q _ hD1 hK1

def cutF (m : DevM) (n : Int) : DevM := if m.off then m else { m with left := some n }
def sp_cut_after (C : Addr) : Sp := fun vs H Q _ => ∃ (H0 : Hp) (d : Addr) (m : DevM) (n : Int), vs = [.ref d, .int n] ∧ DevIn C H0 H d m ∧ ∀ H', DevIn C H0 H' d (cutF m n) → Keeps H H' → Q .non H'
theorem ok_Device_cut_after (T : Txt K mg) : FnOk P w K mg base CX0 1 T.a_Device_cut_after T.fd_Device_cut_after ["self", "count"] (sp_cut_after T.A_Device) := by
  refine T.F_Device_cut_after.ok sc_Device_cut_after (fun vs H Q E h => ?_) (fun cdv A outer s H vs Q E hr h => ?_)
  · obtain ⟨H0, d, m, n, rfl, _⟩ := h
    rfl
  · refine ⟨_, (pss_one (ps_if (pt_not (pt_val (pe_fld (pv 0) rfl)))
       (pss_one (ps_fld (pv 0) (pv 1) rfl))
       pss_nil)), ?_⟩
    try dsimp only [cxOf, Cx.nox, Cx.wish]
    obtain ⟨H0, d, m, n, rfl, hD, q⟩ := h
    have cl := T.cl_Device
    have na1 := T.na_Device__commands_left
    have na2 := T.na_Device__power_is_off
    obtain ⟨s0, n0, dx, fs, su, sh, un, us, h1, h2, h3, h4, h5, h6, h7, h8, h9, h10, h11, h12⟩ := id hD
    have lko := h2.off
    have few := h2.few
    walk_at "rd"
    refine to_ite (fun hb => ?_) (fun hb => ?_)
    · have ho : m.off = false := by simpa using hb
      rw [cutF, ho, if_neg (by decide)] at q
      walk_at "rd"
      rename_i H' e _
      exact q _ (DevIn.setd (m := m) s0 n0 h1 e ((h2.left' (some n)).to rfl rfl ho.symm) h3 h4 h5 h6 h7 h8 h9 h10 h11 h12 rfl rfl rfl) (Keeps.upd h1 insNF e)
    · have ho : m.off = true := by simpa using hb
      rw [cutF, ho, if_pos rfl] at q
      walk_at "rd"
      exact q _ hD (Keeps.refl _)

/-! ### a device is made -/
theorem rep_non (n : Nat) : (List.replicate n [V.non]).flatten = List.replicate n V.non := by
  induction n with
  | zero => rfl
  | succ n ih => rw [List.replicate_succ, List.flatten_cons, ih, List.replicate_succ]; rfl
def newM (lay : Addr) (xs : List V) : DevM := ⟨lay, xs, xs, [], none, false⟩
def sp_dev_init (K : PySem.W.Frag) (C CL : Addr) : Sp := fun vs H Q _ => ∃ (H0 : Hp) (d dx lay : Addr) (L : Lay) (b : V) (xs : List V), vs = [.ref d, .ref lay, b] ∧ H d = some (.ins C dx []) ∧ Same H0 H ∧ H0 d = none ∧ LayAt CL L H lay ∧
  ((b = .non ∧ 0 ≤ L.dev ∧ L.dev ≤ 100000 ∧ xs = List.replicate L.dev.toNat V.non) ∨ ∃ l, b = .ref l ∧ SqL K H l xs) ∧ ∀ H', DevIn C H0 H' d (newM lay xs) → Keeps H H' → Q .non H'
theorem ok_Device___init (T : Txt K mg) : FnOk P w K mg base CX0 1 T.a_Device___init T.fd_Device___init ["self", "layout", "blocks"] (sp_dev_init K T.A_Device T.A_Layout) := by
  refine T.F_Device___init.ok (CX := CX0) sc_Device___init (fun vs H Q E h => ?_) (fun cdv A outer s H vs Q E hr h => ?_)
  · obtain ⟨H0, d, dx, lay, L, b, xs, rfl, _⟩ := h
    rfl
  · refine ⟨_, (C8.pss_cut (ps_if (pt_cmp (pc_isN (pv 2)) rfl)
       (pss_one (ps_set (i := 2) sc_Device___init.nd rfl (Or.inl rfl) (pe_op op_rep (pe_lst (pa_cons pe_non pa_nil)) (pe_fld (pv 1) rfl))))
       pss_nil)
       (pss_cons (ps_fld (pv 0) (pv 1) rfl)
       (pss_cons (ps_fld (pv 0) (pe_callTy c_list (by rfl) T.n_list (by decide +kernel) (pa_cons (pv 2) pa_nil)) rfl)
       (pss_cons (ps_fld (pv 0) (pe_callTy c_list (by rfl) T.n_list (by decide +kernel) (pa_cons (pv 2) pa_nil)) rfl)
       (pss_cons (ps_fld (pv 0) (pe_lst pa_nil) rfl)
       (pss_cons (ps_fld (pv 0) pe_non rfl)
       (pss_one (ps_fld (pv 0) pe_bl rfl)))))))), ?_⟩
    try dsimp only [cxOf, Cx.nox, Cx.wish]
    obtain ⟨H0, d, dx, lay, L, b, xs, rfl, hd, s0, n0, ⟨ldx, lfs, hlay, hL⟩, hb, q⟩ := h
    have clL := T.cl_Layout
    have naL := T.na_Layout_device_blocks
    have lkL := hL.dev
    have cl := T.cl_Device
    have na1 := T.na_Device_layout
    have na2 := T.na_Device__sure
    have na3 := T.na_Device__shown
    have na4 := T.na_Device__unsure
    have na5 := T.na_Device__commands_left
    have na6 := T.na_Device__power_is_off
    walk_at "rd"
    refine r_cut (fun σ' H' => ∃ l, σ' = [some (.ref d), some (.ref lay), some (.ref l)] ∧ Same H H' ∧ SqL K H' l xs) ?_ ?_
    · rcases hb with ⟨rfl, d0, d1, rfl⟩ | ⟨l, rfl, hl⟩
      · walk_at "rd"
        exact ⟨_, rfl, by walk_at "sm", by walk_at "hp"⟩
      · walk_at "rd"
        exact ⟨l, rfl, Same.refl _, hl⟩
    · rintro _ H1 ⟨l, rfl, s1, hl⟩
      have hd1 : H1 d = some (.ins T.A_Device dx []) := s1 _ _ hd
      walk_at "rd"
      rename_i H2 e2 h2
      refine r_listl (SqL.keep hl hd1 e2) ?_
      walk_at "al"
      walk_at "rd"
      rename_i su nsu H3 s3 hsu H4 e4 h4
      have hd3 := s3 _ _ h2
      refine r_listl (SqL.keep (s3.seq (SqL.keep hl hd1 e2)) hd3 e4) ?_
      walk_at "al"
      walk_at "rd"
      rename_i sh nsh H5 s5 hsh H6 e6 h6 un nun H7 s7 hun H8 e8 h8 H9 e9 h9 H10 e10 h10
      have b1 : Same H0 H2 := Same.old (s0.trans s1) n0 e2
      have b3 : Same H0 H4 := Same.old (b1.trans s3) n0 e4
      have b5 : Same H0 H6 := Same.old (b3.trans s5) n0 e6
      have b7 : Same H0 H8 := Same.old (b5.trans s7) n0 e8
      have b9 : Same H0 H10 := Same.old (Same.old b7 n0 e9) n0 e10
      have l4 : ∀ {x : Addr} {ys : List V}, H3 x = some (.lst ys) → H4 x = some (.lst ys) := fun h => at_keep e4 h hd3 (by intro z; cases z)
      have l6 : ∀ {x : Addr} {ys : List V}, H5 x = some (.lst ys) → H6 x = some (.lst ys) := fun h => at_keep e6 h (s5 _ _ h4) (by intro z; cases z)
      have l8 : ∀ {x : Addr} {ys : List V}, H7 x = some (.lst ys) → H8 x = some (.lst ys) := fun h => at_keep e8 h (s7 _ _ h6) (by intro z; cases z)
      have l9 : ∀ {x : Addr} {ys : List V}, H8 x = some (.lst ys) → H10 x = some (.lst ys) := fun h => at_keep e10 (at_keep e9 h h8 (by intro z; cases z)) h9 (by intro z; cases z)
      have c4 := l4 hsu
      have c6 := l6 (s5 _ _ c4)
      have c8 := l8 (s7 _ _ c6)
      have d6 := l6 hsh
      have d8 := l8 (s7 _ _ d6)
      have e8' := l8 hun
      have k2 : Keeps H1 H2 := Keeps.upd hd1 insNF e2
      have k4 : Keeps H2 H4 := (Keeps.of s3).trans (Keeps.upd hd3 insNF e4)
      have k6 : Keeps H4 H6 := (Keeps.of s5).trans (Keeps.upd (s5 _ _ h4) insNF e6)
      have k8 : Keeps H6 H8 := (Keeps.of s7).trans (Keeps.upd (s7 _ _ h6) insNF e8)
      have k10 : Keeps H8 H10 := (Keeps.upd h8 insNF e9).trans (Keeps.upd h9 insNF e10)
      refine q _ ⟨b9, n0, dx, _, su, sh, un, [], h10, ⟨Sg.putF_len (Sg.putF_len (Sg.putF_len (Sg.putF_len (Sg.putF_len (Sg.putF_len (Nat.zero_le _)))))), by walk_at "lk", by walk_at "lk", by walk_at "lk", by walk_at "lk", by walk_at "lk", by walk_at "lk", by walk_at "lk", by walk_at "lk", by walk_at "lk", by walk_at "lk", by walk_at "lk", by walk_at "lk", by walk_at "lk", by walk_at "lk", by walk_at "lk", by walk_at "lk", by walk_at "lk"⟩,
        b1.free nsu, b3.free nsh, b5.free nun, fun e => ?_, fun e => ?_, fun e => ?_, l9 c8, l9 d8, l9 e8', .nil⟩ ((Keeps.of s1).trans (k2.trans (k4.trans (k6.trans (k8.trans k10)))))
      · rw [← e, c4] at nsh
        cases nsh
      · rw [← e, c6] at nun
        cases nun
      · rw [← e, d6] at nun
        cases nun

/-! ### what a device tells, and what is left of it -/
theorem newM_of {lay : Addr} {xs : List V} : (newM lay xs).sure = xs ∧ (newM lay xs).shown = xs ∧ (newM lay xs).wait = [] ∧ (newM lay xs).off = false ∧ (newM lay xs).lay = lay := ⟨rfl, rfl, rfl, rfl, rfl⟩
/-- a new thing stands ahead of it -/
theorem DevIn.more {C : Addr} {H0 H : Hp} {d l : Addr} {m : DevM} {o : HO} (h : DevIn C H0 H d m) (n : H l = none) : DevIn C (upd H0 l o) (upd H l o) d m := by
  obtain ⟨s0, n0, dx, fs, su, sh, un, us, h1, h2, h3, h4, h5, h6, h7, h8, h9, h10, h11, h12⟩ := h
  have ne : ∀ {x : Addr} {u : HO}, H x = some u → x ≠ l := fun h z => by rw [z, n] at h; cases h
  have hs : Same H (upd H l o) := fun b u q => by rw [upd_ne (ne q)]; exact q
  refine ⟨fun b u q => ?_, by rw [upd_ne (ne h1)]; exact n0, dx, fs, su, sh, un, us, hs _ _ h1, h2, by rw [upd_ne (ne h9)]; exact h3, by rw [upd_ne (ne h10)]; exact h4, by rw [upd_ne (ne h11)]; exact h5, h6, h7, h8,
    hs _ _ h9, hs _ _ h10, hs _ _ h11, pairs_keeps (Keeps.of hs) h12⟩
  by_cases hb : b = l
  · rw [hb, upd_same] at q
    rw [hb, upd_same]
    exact q
  · rw [upd_ne hb] at q
    rw [upd_ne hb]
    exact s0 _ _ q
def sp_pending (C : Addr) : Sp := fun vs H Q _ => ∃ (H0 : Hp) (d : Addr) (m : DevM), vs = [.ref d] ∧ DevIn C H0 H d m ∧ Q (.int m.wait.length) H
theorem ok_Device_pending (T : Txt K mg) : FnOk P w K mg base CX0 1 T.a_Device_pending T.fd_Device_pending ["self"] (sp_pending T.A_Device) := by
  refine T.F_Device_pending.ok sc_Device_pending (fun vs H Q E h => ?_) (fun cdv A outer s H vs Q E hr h => ?_)
  · obtain ⟨H0, d, m, rfl, _⟩ := h
    rfl
  · refine ⟨_, (pss_one (ps_ret (pe_callB (c_len) (by rfl) T.n_len (by decide +kernel) (pa_cons (pe_fld (pv 0) rfl) pa_nil)))), ?_⟩
    try dsimp only [cxOf, Cx.nox, Cx.wish]
    obtain ⟨H0, d, m, rfl, ⟨s0, n0, dx, fs, su, sh, un, us, h1, h2, h3, h4, h5, h6, h7, h8, h9, h10, h11, h12⟩, q⟩ := h
    have cl := T.cl_Device
    have na1 := T.na_Device__unsure
    have lku := h2.uns
    walk_at "rd"
    rw [List.length_map, Paired.length h12]
    exact q
def sp_was_cut (C : Addr) : Sp := fun vs H Q _ => ∃ (H0 : Hp) (d : Addr) (m : DevM), vs = [.ref d] ∧ DevIn C H0 H d m ∧ Q (.bl m.off) H
theorem ok_Device_was_cut (T : Txt K mg) : FnOk P w K mg base CX0 1 T.a_Device_was_cut T.fd_Device_was_cut ["self"] (sp_was_cut T.A_Device) := by
  refine T.F_Device_was_cut.ok sc_Device_was_cut (fun vs H Q E h => ?_) (fun cdv A outer s H vs Q E hr h => ?_)
  · obtain ⟨H0, d, m, rfl, _⟩ := h
    rfl
  · refine ⟨_, (pss_one (ps_ret (pe_fld (pv 0) rfl))), ?_⟩
    try dsimp only [cxOf, Cx.nox, Cx.wish]
    obtain ⟨H0, d, m, rfl, ⟨s0, n0, dx, fs, su, sh, un, us, h1, h2, h3, h4, h5, h6, h7, h8, h9, h10, h11, h12⟩, q⟩ := h
    have cl := T.cl_Device
    have na1 := T.na_Device__power_is_off
    have lku := h2.off
    walk_at "rd"
    exact q
def sp_sure_blocks (C : Addr) : Sp := fun vs H Q _ => ∃ (H0 : Hp) (d : Addr) (m : DevM), vs = [.ref d] ∧ DevIn C H0 H d m ∧ ∀ l H', H l = none → upd H l (.lst m.sure) = H' → Q (.ref l) H'
theorem ok_Device_sure_blocks (T : Txt K mg) : FnOk P w K mg base CX0 1 T.a_Device_sure_blocks T.fd_Device_sure_blocks ["self"] (sp_sure_blocks T.A_Device) := by
  refine T.F_Device_sure_blocks.ok sc_Device_sure_blocks (fun vs H Q E h => ?_) (fun cdv A outer s H vs Q E hr h => ?_)
  · obtain ⟨H0, d, m, rfl, _⟩ := h
    rfl
  · refine ⟨_, (pss_one (ps_ret (pe_callTy c_list (by rfl) T.n_list (by decide +kernel) (pa_cons (pe_fld (pv 0) rfl) pa_nil)))), ?_⟩
    try dsimp only [cxOf, Cx.nox, Cx.wish]
    obtain ⟨H0, d, m, rfl, ⟨s0, n0, dx, fs, su, sh, un, us, h1, h2, h3, h4, h5, h6, h7, h8, h9, h10, h11, h12⟩, q⟩ := h
    have cl := T.cl_Device
    have na1 := T.na_Device__sure
    have lku := h2.sure
    have g9 : True ∧ H su = some (.lst m.sure) := ⟨trivial, h9⟩
    clear h9
    walk_at "rd"
    refine r_listl (.of g9.2) (fun l hl => ?_)
    exact q l _ hl rfl

/-! ### a device is made, written: walking rules -/
theorem made_same2 {H : Hp} {x dx : Addr} {o o' : HO} (nx : H x = none) (nd : H dx = none) : Same H (upd (upd H dx o) x o') := fun b u e => by
  rw [upd_ne (ne_of_none e nx), upd_ne (ne_of_none e nd)]
  exact e
theorem i_devnewL {K : PySem.W.Frag} {C CL : Addr} {H : Hp} {Q : Addr → Hp → Prop} {E : XK} {vs dvs : List V} {lay l : Addr} {L : Lay} {xs : List V} (ev : vs ++ dvs = [.ref lay, .ref l]) (hL : LayAt CL L H lay) (hl : SqL K H l xs) (q : ∀ d H', DevIn C H H' d (newM lay xs) → Q d H') :
    ∀ x dx, H x = none → H dx = none → dx ≠ x → sp_dev_init K C CL (.ref x :: (vs ++ dvs)) (upd (upd H dx (.own x)) x (.ins C dx [])) (fun v H2 => v = .non ∧ Q x H2) E := fun x dx nx nd _ => by
  rw [ev]
  exact ⟨H, x, dx, lay, L, .ref l, xs, rfl, upd_same, made_same2 nx nd, nx, hL.mono (made_same2 nx nd), .inr ⟨l, rfl, (made_same2 nx nd).seq hl⟩, fun H' hD _ => ⟨rfl, q x H' hD⟩⟩
theorem i_devnewN {K : PySem.W.Frag} {C CL : Addr} {H : Hp} {Q : Addr → Hp → Prop} {E : XK} {vs dvs : List V} {lay : Addr} {L : Lay} (ev : vs ++ dvs = [.ref lay, .non]) (hL : LayAt CL L H lay) (d0 : 0 ≤ L.dev) (d1 : L.dev ≤ 100000) (q : ∀ d H', DevIn C H H' d (newM lay (List.replicate L.dev.toNat V.non)) → Q d H') :
    ∀ x dx, H x = none → H dx = none → dx ≠ x → sp_dev_init K C CL (.ref x :: (vs ++ dvs)) (upd (upd H dx (.own x)) x (.ins C dx [])) (fun v H2 => v = .non ∧ Q x H2) E := fun x dx nx nd _ => by
  rw [ev]
  exact ⟨H, x, dx, lay, L, .non, _, rfl, upd_same, made_same2 nx nd, nx, hL.mono (made_same2 nx nd), .inl ⟨rfl, d0, d1, rfl⟩, fun H' hD _ => ⟨rfl, q x H' hD⟩⟩
local macro_rules | `(tactic| walk_at "ca1") => `(tactic| with_reducible (refine' Sg.i_devnewL ?ev ?hL ?hl ?_; (case ev => (with_unfolding_all rfl)); (case hL => (with_unfolding_all walk_at "pr")); (case hl => (with_unfolding_all walk_at "pr")); intros))
local macro_rules | `(tactic| walk_at "ca1") => `(tactic| with_reducible (refine' Sg.i_devnewN ?ev ?hL ?d0 ?d1 ?_; (case ev => (with_unfolding_all rfl)); (case hL => (with_unfolding_all walk_at "pr")); (case d0 => omega); (case d1 => omega); intros))

/-! ### a drawn block -/
structure LayB (L : Lay) : Prop where
  l0 : 45 ≤ L.last
  l1 : L.last ≤ 465
  d0 : 64 ≤ L.dev
  d1 : L.dev ≤ 1000
  z0 : 64 ≤ L.size
  z1 : L.size ≤ 256
  f0 : 32 ≤ L.fan
  f1 : L.fan ≤ 128
theorem Fits.bounds {s b z : Int} (h : Fits s b z) : LayB (layOf s b z) := by
  obtain ⟨s0, s1, b0, b1, hz, _⟩ := h
  have e : (s - 2) * (b - 1) + (b - 1) = (s - 1) * (b - 1) := by
    have e : s - 1 = (s - 2) + 1 := by omega
    rw [e, Int.add_mul, Int.one_mul]
  have h1 : 3 * (b - 1) ≤ (s - 1) * (b - 1) := Int.mul_le_mul_of_nonneg_right (by omega) (by omega)
  have h2 : (s - 1) * (b - 1) ≤ 15 * (b - 1) := Int.mul_le_mul_of_nonneg_right (by omega) (by omega)
  have h3 : 4 * b ≤ s * b := Int.mul_le_mul_of_nonneg_right (by omega) (by omega)
  have h4 : s * b ≤ 16 * b := Int.mul_le_mul_of_nonneg_right (by omega) (by omega)
  have e1 : (layOf s b z).last = (s - 1) * (b - 1) := e
  have e2 : (layOf s b z).dev = 2 * ((2 * (4 * ((s - 1) * (b - 1)) + 6 + s) + z - 1) / z) + s * b := by
    show 2 * ((2 * (4 * ((s - 2) * (b - 1) + (b - 1)) + 6 + s) + z - 1) / z) + s * b = _
    rw [e]
  have e3 : (layOf s b z).size = z := rfl
  have e4 : (layOf s b z).fan = z / 2 := rfl
  generalize (s - 1) * (b - 1) = l at h1 h2 e1 e2
  generalize s * b = d at h3 h4 e2
  constructor
  · omega
  · omega
  · rcases hz with rfl | rfl | rfl <;> omega
  · rcases hz with rfl | rfl | rfl <;> omega
  · rcases hz with rfl | rfl | rfl <;> omega
  · rcases hz with rfl | rfl | rfl <;> omega
  · rcases hz with rfl | rfl | rfl <;> omega
  · rcases hz with rfl | rfl | rfl <;> omega
def sp_law_block (K : PySem.W.Frag) (CL : Addr) : Sp := fun vs H Q _ => ∃ (lay : Addr) (L : Lay) (r sq : Int), vs = [.ref lay, .int r, .int sq] ∧ LayAt CL L H lay ∧ LayB L ∧ ∀ H' v, Same H H' → Bk K H' v → Q v H'
theorem ok_law_block (T : Txt K mg) : FnOk P w K mg base CX0 2 T.a_law_block T.fd_law_block ["layout", "row", "sequence"] (sp_law_block K T.A_Layout) := by
  refine T.F_law_block.ok sc_law_block (fun vs H Q E h => ?_) (fun cdv A outer s H vs Q E hr h => ?_)
  · obtain ⟨lay, L, r, sq, rfl, _⟩ := h
    rfl
  · refine ⟨_, (pss_cons (ps_asg (pe_call (ok_law_digits T) (hr.mono (by decide)) rfl T.m_law_digits T.F_law_digits.kp T.b_law_digits .nil pass0 (pa_cons (pv 1) (pa_cons (pe_lst (pa_cons pe_int (pa_cons pe_int (pa_cons (pe_op op_pow pe_int pe_int) pa_nil)))) pa_nil))) (pg_unl (by rfl) (pgs_cons (pg_name (i := 3) sc_law_block.nd rfl (Or.inl rfl)) (pgs_cons (pg_name (i := 4) sc_law_block.nd rfl (Or.inl rfl)) (pgs_cons (pg_name (i := 5) sc_law_block.nd rfl (Or.inl rfl)) pgs_nil)))))
       (pss_cons (ps_set (i := 6) sc_law_block.nd rfl (Or.inl rfl) (pe_op op_add pe_int (pe_op op_mod (pv 5) (pe_fld (pv 0) rfl))))
       (pss_cons (ps_if (pt_cmpR op_eq (pv 3) pe_int (nomark _))
       (pss_one (ps_ret (pe_tup (pa_cons pe_int (pa_cons (pv 2) (pa_cons pe_int (pa_cons (pe_tup (pa_cons (pe_tup (pa_cons (pv 6) pa_nil)) (pa_cons (pe_tup (pa_cons (pv 6) pa_nil)) (pa_cons (pe_op op_mod (pv 5) pe_int) pa_nil)))) pa_nil)))))))
       pss_nil)
       (pss_cons (ps_if (pt_cmpR op_eq (pv 3) pe_int (nomark _))
       (pss_one (ps_ret (pe_tup (pa_cons pe_int (pa_cons (pv 2) (pa_cons pe_int (pa_cons (pe_tup (pa_cons (pe_op op_mod (pv 5) (pe_fld (pv 0) rfl)) pa_nil)) pa_nil)))))))
       pss_nil)
       (pss_cons (ps_if (pt_cmpR op_eq (pv 3) pe_int (nomark _))
       (pss_one (ps_ret (pe_tup (pa_cons pe_int (pa_cons (pv 2) (pa_cons (pv 4) (pa_cons (pe_op op_catT (pe_op op_repT (pe_tup (pa_cons (pe_op op_mod (pv 5) pe_int) pa_nil)) (pe_op op_sub (pe_fld (pv 0) rfl) pe_int)) (pe_tup (pa_cons (pe_op op_mod (pe_op op_fdiv (pv 5) pe_int) pe_int) pa_nil))) pa_nil)))))))
       pss_nil)
       (pss_cons (ps_if (pt_cmpR op_eq (pv 3) pe_int (nomark _))
       (pss_one (ps_ret (pe_tup (pa_cons pe_int (pa_cons (pv 2) (pa_cons (pv 4) (pa_cons (pe_op op_repT (pe_tup (pa_cons (pv 6) pa_nil)) (pe_fld (pv 0) rfl)) pa_nil)))))))
       pss_nil)
       (pss_cons (ps_if (pt_cmpR op_eq (pv 3) pe_int (nomark _))
       (pss_one (ps_ret (pe_tup (pa_cons pe_int (pa_cons (pv 2) (pa_cons (pv 4) (pa_cons (pe_op op_repT (pe_tup (pa_cons (pe_op op_mod (pv 5) pe_int) pa_nil)) (pe_fld (pv 0) rfl)) pa_nil)))))))
       pss_nil)
       (pss_one (ps_ret pe_non))))))))), ?_⟩
    try dsimp only [cxOf, Cx.nox, Cx.wish]
    obtain ⟨lay, L, r, sq, rfl, ⟨dx, fs, hp, hL⟩, ⟨l0, l1, d0, d1, z0, z1, f0, f1⟩, q⟩ := h
    have cl := T.cl_Layout
    have na1 := T.na_Layout_last_id
    have na2 := T.na_Layout_device_blocks
    have na3 := T.na_Layout_block_size
    have na4 := T.na_Layout_fan
    have lk1 := hL.last
    have lk2 := hL.dev
    have lk3 := hL.size
    have lk4 := hL.fan
    walk_at "rd"
    refine ⟨_, _, [6, 32, 10 ^ 9], rfl, by walk_at "hp", by simp, by decide, fun H1 d ds s1 n1 h1 hd => ?_⟩
    obtain _ | ⟨⟨a0, a1⟩, _ | ⟨⟨b0, b1⟩, _ | ⟨⟨c0, c1⟩, _ | _⟩⟩⟩ := hd
    rename_i choice rank rest
    walk_at "rd"
    refine r_ite (fun _ => ?_) (fun _ => ?_)
    · walk_at "rd"
      exact q _ _ (by walk_at "sm") ⟨_, by walk_at "dp", by walk_at "fl", by rfl⟩
    walk_at "rd"
    refine r_ite (fun _ => ?_) (fun _ => ?_)
    · walk_at "rd"
      exact q _ _ (by walk_at "sm") (Bk.mk (ns := [_]) (by walk_at "hp") (by walk_at "hp"))
    walk_at "rd"
    refine r_ite (fun _ => ?_) (fun _ => ?_)
    · walk_at "rd"
      rename_i za hza za0 za1 pt1 npt1 Hpt1 spt1 hpt1
      refine ⟨_, _, _, rfl, rfl, by walk_at "hp", by simp, by omega, by omega, by simp, ?_⟩
      rw [rep_ints]
      walk_at "al"
      walk_at "rd"
      rename_i pr npr Hr sr hpr zb hzb zb0 zb1 pq npq Hq sq' hpq
      refine ⟨_, _, _, _, rfl, rfl, by walk_at "hp", by walk_at "hp", ?_, ?_, fun z => absurd z (by simp), fun _ => ?_⟩
      · intro z
        have z' := congrArg List.length z
        rw [List.length_map, List.length_replicate] at z'
        simp at z'
        omega
      · rw [List.length_map, List.length_replicate, sz]
        simp
        omega
      walk_at "al"
      walk_at "rd"
      rename_i pb _ Hb _ hpb pt _ Ht _ hpt
      refine q _ _ (by walk_at "sm") (Bk.mk (ns := List.replicate (L.size - 1).toNat za ++ [zb]) (by walk_at "hp") ?_)
      rw [List.map_append]
      walk_at "hp"
    walk_at "rd"
    refine r_ite (fun _ => ?_) (fun _ => ?_)
    · walk_at "rd"
      refine ⟨_, _, _, rfl, rfl, by walk_at "hp", by simp, by omega, by omega, by simp, ?_⟩
      rw [rep_ints]
      walk_at "al"
      walk_at "rd"
      exact q _ _ (by walk_at "sm") (Bk.mk (by walk_at "hp") (by walk_at "hp"))
    walk_at "rd"
    refine r_ite (fun _ => ?_) (fun _ => ?_)
    · walk_at "rd"
      refine ⟨_, _, _, rfl, rfl, by walk_at "hp", by simp, by omega, by omega, by simp, ?_⟩
      rw [rep_ints]
      walk_at "al"
      walk_at "rd"
      exact q _ _ (by walk_at "sm") (Bk.mk (by walk_at "hp") (by walk_at "hp"))
    walk_at "rd"
    exact q _ _ (by walk_at "sm") Bk.non

theorem readF_in {m : DevM} {xs : List V} {a : Int} (e : m.shown = xs) (h0 : 0 ≤ a) (h1 : a < xs.length) : readF m a = xs.getD a.toNat .non := by
  rw [readF, e, if_pos ⟨h0, h1⟩]
theorem getD_in {xs : List V} {a : Int} (h0 : 0 ≤ a) (h1 : a < xs.length) : xs.getD a.toNat .non ∈ xs := by
  rw [List.getD_eq_getElem?_getD, List.getElem?_eq_getElem (by omega)]
  exact List.getElem_mem _
/-- lists of blocks are data -/
theorem bks {K : PySem.W.Frag} {H : Hp} : ∀ {xs : List V}, (∀ v ∈ xs, Bk K H v) → ∃ ds, DpAll K H xs ds ∧ ∀ d ∈ ds, Fl 3 d
  | [], _ => ⟨[], .nil, fun d hd => by cases hd⟩
  | x :: xs, h => by
    obtain ⟨d, h1, h2, _⟩ := h x (List.mem_cons_self ..)
    obtain ⟨ds, g1, g2⟩ := bks (xs := xs) (fun v hv => h v (List.mem_cons_of_mem _ hv))
    refine ⟨d :: ds, .cons h1 g1, fun e he => ?_⟩
    rcases List.mem_cons.mp he with rfl | he
    · exact h2
    · exact g2 _ he
/-- equal lists of blocks -/
theorem r_neL {K : PySem.W.Frag} {H : Hp} {a b : Addr} {xs : List V} {Q : V → Hp → Prop} (ha : SqL K H a xs) (hb : SqL K H b xs) (h : ∀ v ∈ xs, Bk K H v) (q : Q (.bl false) H) : rNeD K (.ref a) (.ref b) H Q := by
  obtain ⟨ds, h1, h2⟩ := bks h
  have f := Fl.lst h2
  refine r_ned (.lst ha h1) (.lst hb h1) f.shaped f.shaped ?_
  rw [f.self]
  exact q
theorem takeF_on {m : DevM} (h : m.left = none) : takeF m = m := by
  unfold takeF
  rw [h]
theorem barrierF_on {m : DevM} (h : m.left = none) (o : m.off = false) : barrierF m = { m with sure := m.wait.foldl (fun xs p => putB xs p.1 p.2) m.sure, wait := [] } := by
  unfold barrierF
  rw [takeF_on h, if_neg (by rw [o]; decide)]
theorem writeF_on {m : DevM} (h : m.left = none) (o : m.off = false) (a : Int) (v : V) : writeF m a v = { m with wait := m.wait ++ [(a, v)], shown := putB m.shown a v } := by
  unfold writeF
  rw [takeF_on h, if_neg (by rw [o]; decide)]
theorem putB_in {xs : List V} {a : Int} {v : V} (h0 : 0 ≤ a) (h1 : a < xs.length) : putB xs a v = xs.set a.toNat v := by
  rw [putB, if_pos ⟨h0, h1⟩]

section
open PySem PySem.Spec PyProof.Rows GenW
/-! ### generators: for and if around a yield -/
section
variable {prog : Program} {w : World} {A : Around} {R : GenEnd} {Y : Protocol} {n : Nat} {s₀ : Shared} {c : Code} {fs : List Frame} {s : Shared} {env : Env}
  {K : Flow → Sem PySem.Fin} {J : Value → Sem PySem.Fin} {gd : Bool → Bool} {lv : List Value → List Value}
/-- what a loop does with an exception within its turn -/
def noted (env : Env) (x : Value) : Sem PySem.Fin := (do noteFrame x env; theTreesLotGoes x : Sem Unit).wrap (fun _ => .raise x) .raise id id
theorem seg_For {M : Model} {target iter : Expr} {body : List Stmt} {pos : Pos} (hs : ∀ x, foldedSetIterable iter env x = pure x)
    (h : wpAny M (A.over c fs) (eval iter env) (fun x s₁ => wpAny M (A.over c fs) (pyIter x) (fun it s₂ => ∀ p lv', Seg M A R Y n s₀ (.forLoop target it body [] env) (M.den (.forLoop target it body [] env))
      (.ret (fun r => ((match r with | .ok f => (.pure f : Sem Flow) | .error e => .raise e).onRaise (cameBack env)).wrap K J gd lv) none (gd false) lv' c p [] :: fs) s₂)
      (fun e s' => Seg M A R Y n s₀ c (J e) fs s') s₁) (fun e s' => Seg M A R Y n s₀ c (J e) fs s') s) :
    Seg M A R Y n s₀ c ((exec (.For target iter body [] pos) env).wrap K J gd lv) fs s := by
  rw [exec_For]
  show Seg M A R Y n s₀ c (.at pos fun _ => ((eval iter env >>= fun y => (foldedSetIterable iter env y >>= fun x => (standAt iter.pos >>= fun _ => (holding [x] (pyIter x) >>= fun it => runOwn (.forLoop target it body [] env) env))))).wrap K J gd lv) fs s
  refine seg_at ?_
  rw [Sem.bind_eq_wrap', Sem.wrap_wrap]
  refine seg_wrap (wpAny_mono h (fun x s1 h1 => ?_) fun _ _ z => z)
  rw [hs x]
  show Seg M A R Y n s₀ c (.at iter.pos fun _ => ((holding [x] (pyIter x) >>= fun it => runOwn (.forLoop target it body [] env) env)).wrap K J gd lv) fs s1
  refine seg_at ?_
  rw [Sem.bind_eq_wrap', Sem.wrap_wrap]
  refine seg_wrap (wpAny_holding (wpAny_mono h1 (fun it s2 h2 => ?_) fun _ _ z => z))
  exact seg_call fun p => h2 p _
theorem seg_forLoop {target : Expr} {it : Value} {body : List Stmt}
    (h : wpAny (model prog w) (A.over (.forLoop target it body [] env) fs) (pyNext it) (fun r s₁ => match r with
      | none => Seg (model prog w) A R Y n s₀ (.block [] env) (.pure (.done .next)) fs s₁
      | some v => wpAny (model prog w) (A.over (.forLoop target it body [] env) fs) (letOwnedTupleGo target it v) (fun _ s₁' =>
          wpAny (model prog w) (A.over (.forLoop target it body [] env) fs) (assign target env v) (fun _ s₂ =>
            Seg (model prog w) A R Y n s₀ (.forLoop target it body [] env) ((execs body env).wrap (fun f => match f with
            | .next | .cont => .pure (.again (.forLoop target it body [] env))
            | .brk => .pure (.done .next)
            | .ret v => .pure (.done (.ret v))) (noted env) id id) fs s₂)
            (fun x s' => Seg (model prog w) A R Y n s₀ (.forLoop target it body [] env) (noted env x) fs s') s₁')
          (fun x s' => Seg (model prog w) A R Y n s₀ (.forLoop target it body [] env) (noted env x) fs s') s₁)
      (fun x s' => Seg (model prog w) A R Y n s₀ (.forLoop target it body [] env) (noted env x) fs s') s) :
    Seg (model prog w) A R Y n s₀ (.forLoop target it body [] env) ((model prog w).den (.forLoop target it body [] env)) fs s := by
  show Seg _ A R Y n s₀ _ ((forTurn target it body [] env).onRaise (fun x => do noteFrame x env; theTreesLotGoes x)) fs s
  rw [Sem.onRaise_eq_wrap]
  unfold forTurn
  have eN : (fun e => ((do noteFrame e env; theTreesLotGoes e : Sem Unit).bind fun _ => (.raise e : Sem PySem.Fin))) = noted env := by
    funext e
    rw [Sem.bind_eq_wrap]
    rfl
  rw [eN]
  clear eN
  let after : Flow → Sem PySem.Fin := fun f => match f with
    | .next => again (.forLoop target it body [] env)
    | .cont => again (.forLoop target it body [] env)
    | .brk => pure (.done .next)
    | .ret v => pure (.done (.ret v))
  let turn : Option Value → Sem PySem.Fin := fun r => match r with
    | none => again (.block [] env)
    | some v => letOwnedTupleGo target it v >>= fun _ => (assign target env v >>= fun _ => (execs body env >>= after))
  show Seg _ A R Y n s₀ _ (.at target.pos fun _ => (((pyNext it).onRaise fun _ => standAt { target.pos with line := 0 }) >>= turn).wrap .pure (noted env) id id) fs s
  refine seg_at ?_
  rw [Sem.bind_eq_wrap', Sem.wrap_wrap]
  refine seg_wrap (wpAny_onRaise (wpAny_mono h (fun r s1 h1 => ?_) fun _ _ z => wpAny_standAt z))
  cases r with
  | none => exact seg_again rfl h1
  | some v =>
    show Seg _ A R Y n s₀ _ ((letOwnedTupleGo target it v >>= fun _ => (assign target env v >>= fun _ => (execs body env >>= after))).wrap .pure (noted env) id id) fs s1
    rw [Sem.bind_eq_wrap', Sem.wrap_wrap]
    refine seg_wrap (wpAny_mono h1 (fun _ s2 h2 => ?_) fun _ _ z => z)
    rw [Sem.bind_eq_wrap', Sem.wrap_wrap]
    refine seg_wrap (wpAny_mono h2 (fun _ s3 h3 => ?_) fun _ _ z => z)
    rw [Sem.bind_eq_wrap', Sem.wrap_wrap]
    have e := Sem.wrap_congr (execs body env) (K := fun a => Sem.wrap Sem.pure (noted env) id id (after a)) (K' := fun f => match f with
            | .next | .cont => .pure (.again (.forLoop target it body [] env))
            | .brk => .pure (.done .next)
            | .ret v => .pure (.done (.ret v))) (H := fun e => Sem.wrap Sem.pure (noted env) id id (Sem.raise e)) (H' := noted env) id id (fun f => by cases f <;> rfl) (fun e => rfl)
    have h4 := h3
    rw [← e] at h4
    exact h4
end
section
variable {X : Cx} {tg : Expr}
/-- if in a generator -/
def tGIf (c : TT) (t u : TGn) : TGn := fun D ys σ H => c σ H fun b H1 => if b = true then t D ys σ H1 else u D ys σ H1
theorem gs_if {test : Expr} {a b : List Stmt} {pos : Pos} {tc : TT} {t u : TGn} (hc : PT X test tc) (ha : GSs X a t) (hb : GSs X b u) : GS X (.If test a b pos) (tGIf tc t u) := by
  refine ⟨fun A S ip R n ys s₀ c fs K J gd lv s σ H D g hn k hI ht => ?_⟩
  obtain ⟨acc, cc, r, I⟩ := hI
  show Seg _ A R _ n s₀ c (.at pos fun _ => ((isTrue test X.env (eval test X.env) >>= fun d => if d = true then execs a X.env else execs b X.env)).wrap K J gd lv) fs s
  refine seg_at ?_
  rw [Sem.bind_eq_wrap', Sem.wrap_wrap]
  refine seg_wrap ?_
  rw [g.over]
  refine wpAny_mono (hc.run _ s σ H _ I ht) (fun d s1 h1 => ?_) fun x s' hx => k.exc n s₀ x s' hx
  obtain ⟨H1, I1, q1⟩ := h1
  cases d with
  | true =>
    rw [if_pos rfl] at q1 ⊢
    exact ha.run A S ip R n ys s₀ c fs K J gd lv s1 σ H1 D g hn k ⟨acc, cc, r, I1⟩ q1
  | false =>
    rw [if_neg Bool.false_ne_true] at q1 ⊢
    exact hb.run A S ip R n ys s₀ c fs K J gd lv s1 σ H1 D g hn k ⟨acc, cc, r, I1⟩ q1
/-- for in a generator -/
def tGFor (wi : TI) (g : TG) (tb : TGn) : TGn := fun D ys σ H => wi σ H fun J H2 => ∃ W : Nat → Nat → List V → L2.St → Hp → Prop, (∃ m, W 0 m ys σ H2) ∧ ∀ i m ys σ H, W i m ys σ H →
  (J.stop i H ∧ D.nx ys σ H) ∨ (J.go i H ∧ ∃ N : List V → L2.St → Hp → Prop, (∀ ys' σ' H', N ys' σ' H' → ∃ m', m' < m ∧ W (i + 1) m' ys' σ' H') ∧ ∀ x H', J.yld i H x H' → g x σ H' fun σ2 H2 => tb { D with nx := N, ct := N, bk := D.nx } ys σ2 H2)
theorem gs_for {iter : Expr} {body : List Stmt} {wi : TI} {g : TG} {tb : TGn} {pos : Pos} (hp : PassesOwn (model X.prog X.w) X.A X.env X.xe) (hc : X.calm = true) (hi : PI X tg iter wi) (hg : PG X tg g) (hb : GSs X body tb)
    (hs : ∀ x, foldedSetIterable iter X.env x = pure x := by intro _; rfl) : GS X (.For tg iter body [] pos) (tGFor wi g tb) := by
  refine ⟨fun A S ip R n ys s₀ c fs K J gd lv s σ H D g0 hn k hI ht => ?_⟩
  obtain ⟨acc, cc, r, I⟩ := hI
  refine seg_For hs ?_
  rw [g0.over]
  refine wpAny_mono (hi.run _ s σ H _ I ht) (fun v s1 h1 => ?_) fun x s' hx => k.exc n s₀ x s' hx
  refine wpAny_mono h1 (fun itv s2 h2 => ?_) fun x s' hx => k.exc n s₀ x s' hx
  obtain ⟨it, fp, tn, Jt, H2, e, I2, T, st2, f2, W, ⟨m0, w0⟩, turn⟩ := h2
  subst e
  intro p lv'
  have gl := fun (kk : Result → Sem PySem.Fin) => gc_loop (k := kk) (c' := .forLoop tg (.ref it) body [] X.env) (l := lv') (kp := []) (p := p) g0 rfl rfl
  have stat : ∀ {H' : Hp} (a1 : Array Value) (c1 : Nat), (∀ b ∈ fp, H' b = none) → ∀ b ∈ fp, FpOk X ((S, lstObj a1 c1) :: ip) H' b := fun {H'} a1 c1 hn b hb => by
    obtain ⟨_, h1, h2, h3, h4, h5⟩ := f2 b hb
    refine ⟨hn b hb, h1, h2, h3, h4, fun p hp => ?_⟩
    rcases List.mem_append.mp hp with hp | hp
    · exact h5 p (List.mem_append_left _ hp)
    · rcases List.mem_cons.mp hp with e | hp
      · rw [e]
        exact h5 (S, lstObj acc cc) (List.mem_append_right _ List.mem_cons_self)
      · exact h5 p (List.mem_append_right _ (List.mem_cons_of_mem _ hp))
  have fpS : ∀ b ∈ fp, b ≠ S := fun b hb e => (f2 b hb).2.2.2.2.2 (S, lstObj _ _) (List.mem_append_right _ List.mem_cons_self) e.symm
  have loop : ∀ (m i n : Nat) (ys : List V) (s₀ s : Shared) (σ : L2.St) (H : Hp), n + ys.length = sizeLine → W i m ys σ H → GI X S ip ys σ H s → tn i s.heap → (∀ b ∈ fp, H b = none) →
      Seg (model X.prog X.w) A R (GY X S) n s₀ (.forLoop tg (.ref it) body [] X.env) ((model X.prog X.w).den (.forLoop tg (.ref it) body [] X.env))
        (.ret (fun r => ((match r with | .ok f => (.pure f : Sem Flow) | .error e => .raise e).onRaise (cameBack X.env)).wrap K J gd lv) none (gd false) lv' c p [] :: fs) s := by
    intro m
    induction m using Nat.strongRecOn with
    | ind m ih =>
      intro i n ys s₀ s σ H hn w hI st fr
      have ee : ∀ (n : Nat) (s₀ : Shared) (x : Value) (s' : Shared), X.xe x s' → Seg (model X.prog X.w) A R (GY X S) n s₀ (.forLoop tg (.ref it) body [] X.env) (noted X.env x)
          (.ret (fun r => ((match r with | .ok f => (.pure f : Sem Flow) | .error e => .raise e).onRaise (cameBack X.env)).wrap K J gd lv) none (gd false) lv' c p [] :: fs) s' := fun n s₀ x s' hx => by
        refine seg_wrap ?_
        rw [(gl _).over]
        refine wpAny_bind (wpAny_mono (hp x s' hx) (fun _ s'' hcb => wpAny_theTreesLotGoes ?_) fun y s'' hcb => ?_)
        · exact seg_leaf (.error x) (seg_cameBack g0 k hcb)
        · exact seg_leaf (.error y) (seg_cameBack g0 k hcb)
      refine seg_forLoop ?_
      rw [(gl _).over]
      obtain ⟨acc, cc, r, I⟩ := hI
      rcases turn i m ys σ H w with ⟨stop, qn⟩ | ⟨go, N, hN, step⟩
      · refine wpAny_mono (T.done X rfl rfl rfl hc i _ s σ H X.xe I (stat acc cc fr) st stop) (fun r1 s4 ⟨hr, I4⟩ => ?_) fun x s' hx => ee n s₀ x s' hx
        subst hr
        exact seg_leaf (.ok .next) (k.ok n ys s₀ s4 .next hn ⟨σ, H, ⟨acc, cc, r, I4⟩, qn⟩)
      · refine wpAny_mono (T.item X rfl rfl rfl hc i _ s σ H X.xe I (stat acc cc fr) st go) (fun r1 s4 ⟨u, hr, h4⟩ => ?_) fun x s' hx => ee n s₀ x s' hx
        subst hr
        refine wpAny_mono h4 (fun _ s5 ⟨x, H5, I5, r5, y5, st5, fr5⟩ => ?_) fun x s' hx => ee n s₀ x s' hx
        have I5' := I5.pinned (stat acc cc fr5) (T.obj _ _ st5)
        refine wpAny_mono (hg.run _ s5 σ H5 x u _ I5' r5 (step x H5 y5)) (fun _ s6 ⟨σ6, H6, I6, q6⟩ => ?_) fun x s' hx => ee n s₀ x s' hx
        have gl2 : GC X S (ip ++ pinsAt fp s5.heap) A (.forLoop tg (.ref it) body [] X.env) (.ret (fun r => ((match r with | .ok f => (.pure f : Sem Flow) | .error e => .raise e).onRaise (cameBack X.env)).wrap K J gd lv) none (gd false) lv' c p [] :: fs) id :=
          { gl _ with ip := fun p hp => (List.mem_append.mp hp).elim (g0.ip p) fun hp => fpS _ (of_pinsAt hp).1 }
        refine hb.run A S (ip ++ pinsAt fp s5.heap) R n ys s₀ _ _ _ _ id id s6 σ6 H6 { D with nx := N, ct := N, bk := D.nx } gl2 hn ⟨fun n' ys' s₀' s3 f hn' hs => ?_, fun n' s₀' x s3 hx => ee n' s₀' x s3 hx⟩ ⟨acc, cc, r, I6⟩ q6
        have again : ∀ {σ7 : L2.St} {H7 : Hp}, GI X S (ip ++ pinsAt fp s5.heap) ys' σ7 H7 s3 → N ys' σ7 H7 → ∃ m', m' < m ∧ W (i + 1) m' ys' σ7 H7 ∧ GI X S ip ys' σ7 H7 s3 ∧ tn (i + 1) s3.heap ∧ ∀ b ∈ fp, H7 b = none := fun {σ7 H7} I7 n7 => by
          obtain ⟨m', hm, w7⟩ := hN ys' σ7 H7 n7
          obtain ⟨acc7, cc7, r7, I7⟩ := I7
          have mem : ∀ b ∈ fp, ∀ o, s5.heap.get? b = some o → (b, o) ∈ X.pn ++ (S, lstObj acc7 cc7) :: (ip ++ pinsAt fp s5.heap) := fun b hb o e => List.mem_append_right _ (List.mem_cons_of_mem _ (List.mem_append_right _ (mem_pinsAt hb e)))
          refine ⟨m', hm, w7, ⟨acc7, cc7, r7, Inv.unpinned (pl := pinsAt fp s5.heap) I7⟩, T.keep _ _ _ st5 fun b hb o e => (I7.pin (b, o) (mem b hb o e)).1, fun b hb => ?_⟩
          obtain ⟨o, e, d⟩ := T.obj _ _ st5 b hb
          exact (I7.pin (b, o) (mem b hb o e)).2.1
        have drop : ∀ {σ7 : L2.St} {H7 : Hp}, GI X S (ip ++ pinsAt fp s5.heap) ys' σ7 H7 s3 → GI X S ip ys' σ7 H7 s3 := fun {σ7 H7} I7 => by
          obtain ⟨acc7, cc7, r7, I7⟩ := I7
          exact ⟨acc7, cc7, r7, Inv.unpinned (pl := pinsAt fp s5.heap) I7⟩
        cases f with
        | next =>
          obtain ⟨σ3, H3, I3, n3⟩ := hs
          obtain ⟨m', hm, w3, g3, t3, fr3⟩ := again I3 n3
          exact seg_again rfl (ih m' hm (i + 1) n' ys' s₀' s3 σ3 H3 hn' w3 g3 t3 fr3)
        | cont =>
          obtain ⟨σ3, H3, I3, n3⟩ := hs
          obtain ⟨m', hm, w3, g3, t3, fr3⟩ := again I3 n3
          exact seg_again rfl (ih m' hm (i + 1) n' ys' s₀' s3 σ3 H3 hn' w3 g3 t3 fr3)
        | brk =>
          obtain ⟨σ3, H3, I3, q3⟩ := hs
          exact seg_leaf (.ok .next) (k.ok n' ys' s₀' s3 .next hn' ⟨σ3, H3, drop I3, q3⟩)
        | ret v =>
          obtain ⟨x3, σ3, H3, I3, r3, q3⟩ := hs
          exact seg_leaf (.ok (.ret v)) (k.ok n' ys' s₀' s3 (.ret v) hn' ⟨x3, σ3, H3, drop I3, r3, q3⟩)
  exact loop m0 0 n ys s₀ s2 σ H2 hn w0 ⟨acc, cc, r, I2⟩ st2 fun b hb => (f2 b hb).1
end

end
/-! ### generator defs -/
theorem gfn_mk {x qual : Str} {st : Stmt} {f : Addr} {fd : FuncData} {N ps : List Str} {k : Nat} {sp : SpG} (F : Fun K x qual st f fd) (S : GScope N ps (defScope st)) (len : ∀ vs H Q E, sp vs H Q E → vs.length = ps.length)
    (hbody : ∀ (cdv : Value) (A : Around) (outer : List Env) (s : Shared) (H : Hp) (vs : List V) (Q : List V → Hp → Prop) (E : XK) (pn : List (Addr × Obj)), Room k (A.deeper (PyProof.Rows.envOfC qual (defScope st) s.heap.objs.size f cdv)) → sp vs H Q E →
      ∃ t, GSs (gcxOf P w K mg base N qual (defScope st) f cdv A outer s H E pn) (defBody st) t ∧ t { nx := fun ys _ H' => Q ys H', rt := fun ys v H' => v = .non ∧ Q ys H' } [] (L2.start N vs) H) : GFn P w K mg base (k + 1) f fd ps sp := by
  obtain ⟨oc, od, kV, doc, pm, an, cdv, ct, osl, rfl, lk, hcd⟩ := F.ex
  exact gfn_of lk hcd S len fun A outer s H vs Q E pn hr hsp => hbody cdv A outer s H vs Q E pn hr hsp
theorem noStop0 {K : PySem.W.Frag} : NoStop K E0 := fun _ _ _ h => h.elim
theorem passG {X : Cx} : Passes (L2.CX X.prog X.w) X E0 := passL
def kGFor (g : TG) (tb : TGn) (D : GEnds) (ys : List V) (σ : L2.St) : It → Hp → Prop := fun J H2 => ∃ W : Nat → Nat → List V → L2.St → Hp → Prop, (∃ m, W 0 m ys σ H2) ∧ ∀ i m ys σ H, W i m ys σ H →
  (J.stop i H ∧ D.nx ys σ H) ∨ (J.go i H ∧ ∃ N : List V → L2.St → Hp → Prop, (∀ ys' σ' H', N ys' σ' H' → ∃ m', m' < m ∧ W (i + 1) m' ys' σ' H') ∧ ∀ x H', J.yld i H x H' → g x σ H' fun σ2 H2 => tb { D with nx := N, ct := N, bk := D.nx } ys σ2 H2)
theorem r_gfor {wi : TI} {g : TG} {tb : TGn} {D : GEnds} {ys : List V} {σ : L2.St} {H : Hp} (h : wi σ H (kGFor g tb D ys σ)) : tGFor wi g tb D ys σ H := h
theorem r_gthen {t u : TGn} {D : GEnds} {ys : List V} {σ : L2.St} {H : Hp} (h : t { D with nx := fun ys' σ' H' => u D ys' σ' H' } ys σ H) : tGThen t u D ys σ H := h
theorem r_g0 {D : GEnds} {ys : List V} {σ : L2.St} {H : Hp} (h : D.nx ys σ H) : tG0 D ys σ H := h
theorem r_gplain {t : TS} {D : GEnds} {ys : List V} {σ : L2.St} {H : Hp} (h : t (D.at ys) σ H) : tPlain t D ys σ H := h
theorem r_gif {c : TT} {t u : TGn} {D : GEnds} {ys : List V} {σ : L2.St} {H : Hp} (h : c σ H fun b H1 => if b = true then t D ys σ H1 else u D ys σ H1) : tGIf c t u D ys σ H := h
theorem r_gyield {te : TE} {D : GEnds} {ys : List V} {σ : L2.St} {H : Hp} (hl : ys.length < 1000000) (h : te σ H fun x H1 => D.nx (ys ++ [x]) σ H1) : tGYield te D ys σ H := ⟨by rw [sz]; omega, h⟩
theorem r_gforE {K : PySem.W.Frag} {a : Addr} {xs ys : List V} {σ : L2.St} {H : Hp} {D : GEnds} {g : TG} {tb : TGn} (Pv : Nat → List V → L2.St → Hp → Prop) (h0 : Pv 0 ys σ H) (hl : ∀ i ys σ H, i ≤ xs.length → Pv i ys σ H → SqL K H a xs)
    (hs : ∀ (i : Nat) (x : V) (ys : List V) (σ : L2.St) (H H' : Hp) (T : Addr), xs[i]? = some x → Pv i ys σ H → H T = none → upd H T (.tup [.int (i : Nat), x]) = H' → g (.ref T) σ H' fun σ2 H2 => tb { D with nx := Pv (i + 1), ct := Pv (i + 1), bk := D.nx } ys σ2 H2)
    (hd : ∀ ys σ H, Pv xs.length ys σ H → D.nx ys σ H) : kGFor g tb D ys σ (Ite K a) H := by
  refine ⟨fun i m ys σ H => m = xs.length - i ∧ i ≤ xs.length ∧ Pv i ys σ H, ⟨xs.length, rfl, Nat.zero_le _, h0⟩, ?_⟩
  rintro i m ys σ H ⟨rfl, hi, p⟩
  have w := walk_enum (K := K) (a := a) (xs := xs)
  have q := hl i ys σ H hi p
  by_cases hlt : i < xs.length
  · refine .inr ⟨w.goes i H hlt q, Pv (i + 1), fun ys' σ' H' p' => ⟨xs.length - (i + 1), by omega, rfl, hlt, p'⟩, fun x H' y => ?_⟩
    obtain ⟨T, z, v, e1, e2, e3, e4, e5⟩ := w.yields i H x H' hlt q y
    cases e4
    subst e1
    exact hs i v ys σ H H' T e5 p e2 e3.symm
  · have e : i = xs.length := by omega
    subst e
    exact .inl ⟨w.stops H q, hd ys σ H p⟩

/-! ### enumerate of a list -/
def kIe (K : PySem.W.Frag) (R : It → Hp → Prop) : List V → Hp → Prop := fun vs H1 => ∃ a xs, vs = [.ref a] ∧ SqL K H1 a xs ∧ R (Ite K a) H1
theorem r_ienum {K : PySem.W.Frag} {ta : TA} {σ : L2.St} {H : Hp} {R : It → Hp → Prop} (h : ta σ H (kIe K R)) : iEnum K ta σ H R := h
theorem r_kIe {K : PySem.W.Frag} {a : Addr} {xs : List V} {H : Hp} {R : It → Hp → Prop} (h1 : SqL K H a xs) (h : R (Ite K a) H) : kIe K R [.ref a] H := ⟨a, xs, rfl, h1, h⟩
theorem r_forE {K : PySem.W.Frag} {a : Addr} {xs : List V} {σ : L2.St} {H : Hp} {D : Ends} {g : TG} {tb : TS} (Pv : Nat → L2.St → Hp → Prop) (h0 : Pv 0 σ H) (hl : ∀ i σ H, i ≤ xs.length → Pv i σ H → SqL K H a xs)
    (hs : ∀ (i : Nat) (x : V) (σ : L2.St) (H H' : Hp) (T : Addr), xs[i]? = some x → Pv i σ H → H T = none → upd H T (.tup [.int (i : Nat), x]) = H' → g (.ref T) σ H' fun σ2 H2 => tb { D with nx := Pv (i + 1), ct := Pv (i + 1), bk := D.nx } σ2 H2)
    (hd : ∀ σ H, Pv xs.length σ H → D.nx σ H) : kFor g tb D σ (Ite K a) H :=
  for_it walk_enum Pv h0 hl (fun i x σ H H' hlt p y => by
    obtain ⟨T, z, w, e1, e2, e3, e4, e5⟩ := y
    cases e4
    rw [e1]
    exact hs i w σ H H' T e5 p e2 e3.symm) hd
def SqI (K : PySem.W.Frag) (H : Hp) (l : Addr) (ns : List Int) : Prop := SqL K H l (ns.map V.int) ∨ SqT K H l (ns.map V.int)
theorem SqI.mono {K : PySem.W.Frag} {H H' : Hp} {l : Addr} {ns : List Int} (s : Same H H') (h : SqI K H l ns) : SqI K H' l ns := h.imp (fun h => s.seq h) (fun h => Same.tup s h)
theorem inV_ints (k : Int) : ∀ ns : List Int, inV (.int k) (ns.map V.int) = decide (k ∈ ns)
  | [] => rfl
  | n :: ns => by
    have ih := inV_ints k ns
    unfold inV at ih ⊢
    rw [List.map_cons, List.any_cons, ih]
    by_cases e : k = n
    · subst e
      simp [eqV]
    · have e' : ¬ n = k := fun z => e z.symm
      simp [eqV, e, e']
theorem flat_ints : ∀ ns : List Int, (ns.map V.int).all flatV = true
  | [] => rfl
  | n :: ns => by rw [List.map_cons, List.all_cons, flat_ints ns]; rfl

/-! ### the blocks that are written, by a generator -/
def wrt (xs : List V) (n : Nat) : List (Int × V) := ((List.range n).filter fun i => decide (xs.getD i .non ≠ .non)).map fun i : Nat => ((i : Int), xs.getD i .non)
theorem wrt_none {xs : List V} {i : Nat} {x : V} (h : xs[i]? = some x) (c : x = .non) : wrt xs (i + 1) = wrt xs i := by
  unfold wrt
  rw [List.range_succ, List.filter_append, List.filter_cons, if_neg (by rw [List.getD_eq_getElem?_getD, h, c]; simp), List.filter_nil, List.append_nil]
theorem wrt_some {xs : List V} {i : Nat} {x : V} (h : xs[i]? = some x) (c : x ≠ .non) : wrt xs (i + 1) = wrt xs i ++ [((i : Int), x)] := by
  have e : xs.getD i .non = x := by rw [List.getD_eq_getElem?_getD, h]; rfl
  unfold wrt
  rw [List.range_succ, List.filter_append, List.filter_cons, if_pos (by rw [e]; exact decide_eq_true c), List.filter_nil, List.map_append]
  show _ ++ [((i : Int), xs.getD i .non)] = _
  rw [e]
theorem wrt_len (xs : List V) (n : Nat) : (wrt xs n).length ≤ n := by
  unfold wrt
  rw [List.length_map]
  have := List.length_filter_le (fun i => decide (xs.getD i .non ≠ .non)) (List.range n)
  rw [List.length_range] at this
  exact this
def PairsAt (H : Hp) (rs : List Addr) (ps : List (Int × V)) : Prop := Paired (fun (r : Addr) (p : Int × V) => H r = some (.tup [.int p.1, p.2])) rs ps
theorem PairsAt.mono {H H' : Hp} (s : Same H H') : ∀ {rs : List Addr} {ps : List (Int × V)}, PairsAt H rs ps → PairsAt H' rs ps
  | _, _, .nil => .nil
  | _, _, .cons h t => .cons (s _ _ h) (PairsAt.mono s t)
def sp_written (C : Addr) : SpG := fun vs H cont _ => ∃ (G : Hp) (d : Addr) (m : DevM), vs = [.ref d] ∧ DevIn C G H d m ∧ m.shown.length ≤ 1000 ∧ ∀ (H' : Hp) (rs : List Addr), Same H H' → PairsAt H' rs (wrt m.shown m.shown.length) → cont (rs.map V.ref) H'
theorem ok_Device_written_blocks (T : Txt K mg) : GFn P w K mg base 1 T.a_Device_written_blocks T.fd_Device_written_blocks ["self"] (sp_written T.A_Device) := by
  refine gfn_mk T.F_Device_written_blocks sc_Device_written_blocks (fun vs H Q E h => ?_) (fun cdv A outer s H vs Q E pn hr h => ?_)
  · obtain ⟨G, d, m, rfl, _⟩ := h
    rfl
  · refine ⟨_, (gss_cons (gs_for owns_gcx rfl (pi_enum (by rfl) T.n_enumerate (pa_cons (pe_fld (pv 0) rfl) pa_nil)) (pg_tup (by rfl) (pgs_cons (pg_name (i := 1) sc_Device_written_blocks.nd rfl (Or.inl rfl)) (pgs_cons (pg_name (i := 2) sc_Device_written_blocks.nd rfl (Or.inl rfl)) pgs_nil)))
       (gss_cons (gs_if (pt_cmp (pc_notN (pv 2)) rfl)
       (gss_cons (gs_yield (pe_tup (pa_cons (pv 1) (pa_cons (pv 2) pa_nil))))
       gss_nil)
       gss_nil)
       gss_nil))
       gss_nil), ?_⟩
    try dsimp only [gcxOf, cxOf, Cx.nox, Cx.wish]
    obtain ⟨G, d, m, rfl, ⟨s0, n0, dx, fs, su, sh, un, us, h1, h2, h3, h4, h5, h6, h7, h8, h9, h10, h11, h12⟩, hl, q⟩ := h
    have cl := T.cl_Device
    have na1 := T.na_Device__shown
    have lks := h2.shown
    refine r_gthen ?_
    refine r_gfor ?_
    refine r_ienum ?_
    walk_at "go"
    refine r_kIe (.of h10) ?_
    refine r_gforE (xs := m.shown) (fun i ys σ' H' => ∃ (v1 v2 : Option V) (rs : List Addr), σ' = [some (.ref d), v1, v2] ∧ Same H H' ∧ ys = rs.map V.ref ∧ PairsAt H' rs (wrt m.shown i)) ⟨_, _, [], rfl, Same.refl _, rfl, .nil⟩ (fun i ys σ' H' _ ⟨_, _, _, _, s, _⟩ => .of (s _ _ h10)) ?_ ?_
    · rintro i x ys σ' H1 H2 tp hx ⟨v1, v2, rs, rfl, s1, rfl, hp⟩ nT hH
      have s2 : Same H1 H2 := Sg.Same.of_new hH nT
      have hT : H2 tp = some (.tup [.int (i : Nat), x]) := Sg.at_new hH
      have hil := (List.getElem?_eq_some_iff.mp hx).1
      walk_at "go"
      refine r_gthen ?_
      refine r_gif ?_
      walk_at "go"
      refine to_ite (fun hc => ?_) (fun hc => ?_)
      · have hc' : x ≠ .non := by simpa using hc
        refine r_gthen ?_
        refine r_gyield (by
          have l1 := Paired.length hp
          have := wrt_len m.shown i
          rw [List.length_map]
          omega) ?_
        walk_at "go"
        rename_i p np H3 s3 g3
        refine r_g0 ?_
        refine r_g0 ?_
        refine ⟨_, _, rs ++ [p], rfl, s1.trans (s2.trans s3), by rw [List.map_append]; rfl, ?_⟩
        rw [wrt_some hx hc']
        exact paired_snoc (PairsAt.mono (s2.trans s3) hp) g3
      · have hc' : x = .non := by simpa using hc
        refine r_g0 ?_
        refine r_g0 ?_
        refine ⟨_, _, rs, rfl, s1.trans s2, rfl, ?_⟩
        rw [wrt_none hx hc']
        exact PairsAt.mono s2 hp
    · rintro ys σ' H1 ⟨v1, v2, rs, rfl, s1, rfl, hp⟩
      exact q _ _ s1 hp

/-! ### a device is forked -/
theorem DevFs.shown' {fs : List (Str × V)} {m : DevM} {su sh un : Addr} (h : DevFs fs m su sh un) (u : Addr) (w : List V) : DevFs (putF "_shown" (.ref u) fs) { m with shown := w } su u un := by
  obtain ⟨h1, h2, h3, h4, h5, h6, h7, g1, g2, g3, g4, g5, g6, g7, g8, g9, g10, g11⟩ := h
  exact ⟨by rw [putF_same h4]; exact h1, by walk_at "lk", by walk_at "lk", by walk_at "lk", by walk_at "lk", by walk_at "lk", by walk_at "lk", by walk_at "lk", by walk_at "lk", by walk_at "lk", by walk_at "lk", by walk_at "lk", by walk_at "lk", by walk_at "lk", by walk_at "lk", by walk_at "lk", by walk_at "lk", by walk_at "lk"⟩
def sp_fork (C CL : Addr) : Sp := fun vs H Q _ => ∃ (H0 : Hp) (d : Addr) (m : DevM) (L : Lay), vs = [.ref d] ∧ DevIn C H0 H d m ∧ LayAt CL L H m.lay ∧ ∀ (H' : Hp) (d' : Addr), DevIn C H H' d' m → Q (.ref d') H'
theorem ok_Device_fork (T : Txt K mg) : FnOk P w K mg base CX0 3 T.a_Device_fork T.fd_Device_fork ["self"] (sp_fork T.A_Device T.A_Layout) := by
  refine T.F_Device_fork.ok sc_Device_fork (fun vs H Q E h => ?_) (fun cdv A outer s H vs Q E hr h => ?_)
  · obtain ⟨H0, d, m, L, rfl, _⟩ := h
    rfl
  · refine ⟨_, (pss_cons (ps_set (i := 1) sc_Device_fork.nd rfl (Or.inl rfl) (pe_make T.M_Device (ok_Device___init T) (hr.mono (by decide)) rfl T.m_Device T.b_Device___init .nil pass0 (pa_cons (pe_fld (pv 0) rfl) (pa_cons (pe_fld (pv 0) rfl) pa_nil))))
       (pss_cons (ps_fld (pv 1) (pe_callTy c_list (by rfl) T.n_list (by decide +kernel) (pa_cons (pe_fld (pv 0) rfl) pa_nil)) rfl)
       (pss_cons (ps_fld (pv 1) (pe_callTy c_list (by rfl) T.n_list (by decide +kernel) (pa_cons (pe_fld (pv 0) rfl) pa_nil)) rfl)
       (pss_cons (ps_fld (pv 1) (pe_fld (pv 0) rfl) rfl)
       (pss_cons (ps_fld (pv 1) (pe_fld (pv 0) rfl) rfl)
       (pss_one (ps_ret (pv 1)))))))), ?_⟩
    try dsimp only [cxOf, Cx.nox, Cx.wish]
    obtain ⟨H0, d, m, L, rfl, ⟨s0, n0, dx, fs, su, sh, un, us, h1, h2, h3, h4, h5, h6, h7, h8, h9, h10, h11, h12⟩, hL, q⟩ := h
    have cl := T.cl_Device
    have na1 := T.na_Device_layout
    have na2 := T.na_Device__sure
    have na3 := T.na_Device__shown
    have na4 := T.na_Device__unsure
    have na5 := T.na_Device__commands_left
    have na6 := T.na_Device__power_is_off
    obtain ⟨few, lkl, lks, lkh, lku, lkc, lko, _⟩ := id h2
    walk_at "go"
    rename_i d' H1 hN
    obtain ⟨t0, q0, dx', fs', su', sh', un', us', g1, g2, g3, g4, g5, g6, g7, g8, g9, g10, g11, g12⟩ := hN
    have nd : d ≠ d' := fun z => by rw [← z, h1] at q0; cases q0
    have k1 := t0 _ _ h1
    have k10 := t0 _ _ h10
    have k11 := t0 _ _ h11
    have few' := g2.few
    walk_at "go"
    rename_i l2 n2 H2 s2 o2 H3 e3 o3
    have k3 : H3 d = some (.ins T.A_Device dx fs) := by rw [← e3, upd_ne nd]; exact s2 _ _ k1
    have l3 : H3 l2 = some (.lst m.shown) := at_keep e3 o2 (s2 _ _ g1) (by intro z; cases z)
    have u3 : H3 un = some (.lst (us.map V.ref)) := at_keep e3 (s2 _ _ k11) (s2 _ _ g1) (by intro z; cases z)
    walk_at "go"
    rename_i l4 n4 H4 s4 o4 H5 e5 o5
    have k5 : H5 d = some (.ins T.A_Device dx fs) := by rw [← e5, upd_ne nd]; exact s4 _ _ k3
    walk_at "go"
    rename_i H6 e6 o6
    have k6 : H6 d = some (.ins T.A_Device dx fs) := by rw [← e6, upd_ne nd]; exact k5
    walk_at "go"
    rename_i H7 e7 o7
    have S3 : Same H H3 := Sg.Same.old (t0.trans s2) q0 e3
    have S5 : Same H H5 := Sg.Same.old (S3.trans s4) q0 e5
    have S7 : Same H H7 := Sg.Same.old (Sg.Same.old S5 q0 e6) q0 e7
    have k9 := g9
    have v3 : H3 su' = some (.lst m.sure) := at_keep e3 (s2 _ _ k9) (s2 _ _ g1) (by intro z; cases z)
    have on : ∀ {l : Addr} {xs : List V}, H4 l = some (.lst xs) → H7 l = some (.lst xs) := fun h => at_keep e7 (at_keep e6 (at_keep e5 h (s4 _ _ o3) (by intro z; cases z)) o5 (by intro z; cases z)) o6 (by intro z; cases z)
    refine q _ _ ⟨S7, q0, dx', _, su', l2, l4, us, o7, ((((g2.shown' l2 m.shown).uns' l4 m.wait).left' m.left).off' m.off).to rfl rfl rfl, g3, t0.free n2, S3.free n4, fun z => ?_, fun z => ?_, fun z => ?_, on (s4 _ _ v3), on (s4 _ _ l3), on o4, pairs_keeps (Keeps.of S7) h12⟩
    · rw [← z, k9] at n2
      cases n2
    · rw [← z, v3] at n4
      cases n4
    · rw [← z, l3] at n4
      cases n4

local macro_rules | `(tactic| walk_at "rx1") => `(tactic| with_reducible (first | refine' Sg.r_prop ?_ | (refine' Sg.r_kprop ?h ?_; (case h => (with_unfolding_all walk_at "hp"))) | refine' Sg.r_irev ?_ | (refine' Sg.r_kIv ?h ?_; (case h => (with_unfolding_all walk_at "hp"))) | refine' Sg.r_makeN ?_ | refine' Sg.r_callN ?_ | refine' Sg.r_makeSD ?_ | refine' Sg.r_callSD ?_ | refine' Sg.r_methSD ?_ | (refine' Sg.r_kmethSD ?h ?hl ?_; (case h => (with_unfolding_all walk_at "hp")); (case hl => (with_unfolding_all walk_at "lk"))) | refine' Sg.r_tryA ?_ | refine' Sg.r_din ?_ | refine' Sg.r_kdi ?_ | (refine' Sg.r_kdi2 ?h ?_; (case h => (with_unfolding_all walk_at "hp"))) | (refine' Sg.r_kdi2f ?h ?_; (case h => assumption)) | refine' Sg.r_dnotin ?_ | refine' Sg.r_kdn ?_ | (refine' Sg.r_kdn2 ?h ?_; (case h => (with_unfolding_all walk_at "hp"))) | refine' Sg.r_dget ?_ | refine' Sg.r_kdg ?_ | refine' Sg.r_dget1 ?_ | (refine' Sg.r_kdt ?h ?_; (case h => (with_unfolding_all walk_at "hp"))) | (refine' Sg.r_kdt2 ?h ?_; (case h => (with_unfolding_all walk_at "hp"))) | refine' Sg.r_dput ?_ | refine' Sg.r_kdp ?_ | refine' Sg.r_kdp2 ?_ | (refine' Sg.r_kdp3 ?h ?hl ?_; (case h => (with_unfolding_all walk_at "hp")); (case hl => (with_unfolding_all walk_at "side")); (with_unfolding_all walk_at "up")) | refine' Sg.r_ddel ?_ | refine' Sg.r_kdd ?_ | refine' Sg.r_dpop1 ?_ | (refine' Sg.r_kdo ?h ?_; (case h => (with_unfolding_all walk_at "hp"))) | refine' Sg.r_ikeys ?_ | (refine' Sg.r_kIk ?h ?_; (case h => assumption)) | (refine' Sg.r_dnew ?_; (with_unfolding_all walk_at "al")) | (refine' Sg.r_lenD ?h ?_; (case h => (with_unfolding_all walk_at "hp"))) | (refine' Sg.r_dictD ?h ?_; (case h => (with_unfolding_all walk_at "hp")); (with_unfolding_all walk_at "al"))))
local macro_rules | `(tactic| walk_at "rx") => `(tactic| repeat (first | walk_at "rd1" | walk_at "rx1"))
/-! ### dicts with int keys: readings by name -/
def kDI2 (y : V) (Q : V → Hp → Prop) : V → Hp → Prop := fun x H2 => ∃ a o, x = .ref a ∧ DGet H2 a y o ∧ Q (.bl o.isSome) H2
def kDI (td : TE) (σ : L2.St) (Q : V → Hp → Prop) : V → Hp → Prop := fun y H1 => td σ H1 (kDI2 y Q)
def kDN2 (y : V) (Q : V → Hp → Prop) : V → Hp → Prop := fun x H2 => ∃ a o, x = .ref a ∧ DGet H2 a y o ∧ Q (.bl (!o.isSome)) H2
def kDN (td : TE) (σ : L2.St) (Q : V → Hp → Prop) : V → Hp → Prop := fun y H1 => td σ H1 (kDN2 y Q)
def kDG2 (x : V) (Q : V → Hp → Prop) : V → Hp → Prop := fun y H2 => ∃ a v, x = .ref a ∧ DGet H2 a y (some v) ∧ Q v H2
def kDG (ty : TE) (σ : L2.St) (Q : V → Hp → Prop) : V → Hp → Prop := fun x H1 => ty σ H1 (kDG2 x Q)
def kDT2 (a : Addr) (Q : V → Hp → Prop) : V → Hp → Prop := fun y H2 => ∃ o, DGet H2 a y o ∧ Q (o.getD .non) H2
def kDT (ty : TE) (σ : L2.St) (Q : V → Hp → Prop) : V → Hp → Prop := fun x H1 => ∃ a, x = .ref a ∧ IsD H1 a ∧ ty σ H1 (kDT2 a Q)
def kDP3 (D : Ends) (σ : L2.St) (v x : V) : V → Hp → Prop := fun y H3 => ∃ a H4, x = .ref a ∧ DPut H3 a y v H4 ∧ D.nx σ H4
def kDP2 (D : Ends) (σ : L2.St) (ty : TE) (v : V) : V → Hp → Prop := fun x H2 => ty σ H2 (kDP3 D σ v x)
def kDP (D : Ends) (σ : L2.St) (td ty : TE) : V → Hp → Prop := fun v H1 => td σ H1 (kDP2 D σ ty v)
def kDD2 (D : Ends) (σ : L2.St) (x : V) : V → Hp → Prop := fun y H2 => ∃ a kvs k, x = .ref a ∧ H2 a = some (.dK kvs) ∧ y = kV k ∧ (valV kvs k).isSome = true ∧ D.nx σ (upd H2 a (.dK (dropK kvs k)))
def kDD (D : Ends) (σ : L2.St) (ty : TE) : V → Hp → Prop := fun x H1 => ty σ H1 (kDD2 D σ x)
def kDO2 (a : Addr) (Q : V → Hp → Prop) : V → Hp → Prop := fun y H2 => ∃ kvs k v, H2 a = some (.dK kvs) ∧ y = kV k ∧ valV kvs k = some v ∧ Q v (upd H2 a (.dK (dropK kvs k)))
def kDO (ty : TE) (σ : L2.St) (Q : V → Hp → Prop) : V → Hp → Prop := fun x H1 => ∃ a, x = .ref a ∧ IsD H1 a ∧ ty σ H1 (kDO2 a Q)
def kIk (R : It → Hp → Prop) : V → Hp → Prop := fun x H1 => ∃ d o, x = .ref d ∧ ((∃ kvs, H1 d = some (.frz o (.dK kvs)) ∧ R (Itk d o kvs) H1) ∨ ∃ kvs, H1 d = some (.frz o (.dT kvs)) ∧ R (Itkt d o kvs) H1)
def rLenD : List V → Hp → (V → Hp → Prop) → Prop := fun xs H Q => ∃ a kvs, xs = [V.ref a] ∧ H a = some (.dK kvs) ∧ Q (.int kvs.length) H
def rDictD : List V → Hp → (V → Hp → Prop) → Prop := fun xs H Q => ∃ (a : Addr) (kvs : List (Key × V)), xs = [.ref a] ∧ Rd H a (.dK kvs) ∧ ∀ p, H p = none → Q (.ref p) (upd H p (.dK kvs))
section
variable {σ : L2.St} {H : Hp} {D : Ends} {td ty tv : TE} {Q : V → Hp → Prop} {a : Addr} {kvs : List (Key × V)} {i : Int} {v y : V} {R : It → Hp → Prop} {o : Obj}
theorem r_din (h : ty σ H (kDI td σ Q)) : tDIn ty td σ H Q := h
theorem r_kdi (h : td σ H (kDI2 y Q)) : kDI td σ Q y H := h
theorem r_kdi2 (h : H a = some (.dK kvs)) (q : Q (.bl (valV kvs (.inl i)).isSome) H) : kDI2 (.int i) Q (.ref a) H := ⟨a, _, rfl, DGet.k (k := .inl i) h, q⟩
theorem r_kdi2f (h : H a = some (.frz o (.dK kvs))) (q : Q (.bl (valV kvs (.inl i)).isSome) H) : kDI2 (.int i) Q (.ref a) H := ⟨a, _, rfl, .inl ⟨kvs, .inl i, .inr ⟨o, h⟩, rfl, rfl⟩, q⟩
theorem r_dnotin (h : ty σ H (kDN td σ Q)) : tDNotIn ty td σ H Q := h
theorem r_kdn (h : td σ H (kDN2 y Q)) : kDN td σ Q y H := h
theorem r_kdn2 (h : H a = some (.dK kvs)) (q : Q (.bl (!(valV kvs (.inl i)).isSome)) H) : kDN2 (.int i) Q (.ref a) H := ⟨a, _, rfl, DGet.k (k := .inl i) h, q⟩
theorem r_dget (h : td σ H (kDG ty σ Q)) : tDGet td ty σ H Q := h
theorem r_kdg (h : ty σ H (kDG2 y Q)) : kDG ty σ Q y H := h
theorem r_kdg2 (h : H a = some (.dK kvs)) (e : valV kvs (.inl i) = some v) (q : Q v H) : kDG2 (.ref a) Q (.int i) H := ⟨a, v, rfl, by rw [← e]; exact DGet.k (k := .inl i) h, q⟩
theorem r_kdg2f (h : H a = some (.frz o (.dK kvs))) (e : valV kvs (.inl i) = some v) (q : Q v H) : kDG2 (.ref a) Q (.int i) H := ⟨a, v, rfl, by rw [← e]; exact .inl ⟨kvs, .inl i, .inr ⟨o, h⟩, rfl, rfl⟩, q⟩
theorem r_dget1 (h : td σ H (kDT ty σ Q)) : tDGet1 td ty σ H Q := h
theorem r_kdt (h : H a = some (.dK kvs)) (q : ty σ H (kDT2 a Q)) : kDT ty σ Q (.ref a) H := ⟨a, rfl, .inl ⟨kvs, .inl h⟩, q⟩
theorem r_kdt2 (h : H a = some (.dK kvs)) (q : Q ((valV kvs (.inl i)).getD .non) H) : kDT2 a Q (.int i) H := ⟨_, DGet.k (k := .inl i) h, q⟩
theorem r_dput (h : tv σ H (kDP D σ td ty)) : sDPut td ty tv D σ H := h
theorem r_kdp (h : td σ H (kDP2 D σ ty v)) : kDP D σ td ty v H := h
theorem r_kdp2 (h : ty σ H (kDP3 D σ v y)) : kDP2 D σ ty v y H := h
theorem r_kdp3 (h : H a = some (.dK kvs)) (hl : kvs.length ≤ 100000) (q : D.nx σ (upd H a (.dK (putK kvs (.inl i) v)))) : kDP3 D σ v (.ref a) (.int i) H := ⟨a, _, rfl, DPut.k (k := .inl i) h (by rw [sz]; omega), q⟩
theorem r_ddel (h : td σ H (kDD D σ ty)) : sDDel td ty D σ H := h
theorem r_kdd (h : ty σ H (kDD2 D σ y)) : kDD D σ ty y H := h
theorem r_kdd2 (h : H a = some (.dK kvs)) (e : (valV kvs (.inl i)).isSome = true) (q : D.nx σ (upd H a (.dK (dropK kvs (.inl i))))) : kDD2 D σ (.ref a) (.int i) H := ⟨a, kvs, .inl i, rfl, h, rfl, e, q⟩
theorem r_dpop1 (h : td σ H (kDO ty σ Q)) : tDPop1 td ty σ H Q := h
theorem r_kdo (h : H a = some (.dK kvs)) (q : ty σ H (kDO2 a Q)) : kDO ty σ Q (.ref a) H := ⟨a, rfl, .inl ⟨kvs, .inl h⟩, q⟩
theorem r_kdo2 (h : H a = some (.dK kvs)) (e : valV kvs (.inl i) = some v) (q : Q v (upd H a (.dK (dropK kvs (.inl i))))) : kDO2 a Q (.int i) H := ⟨kvs, .inl i, v, h, rfl, e, q⟩
theorem r_ikeys (h : td σ H (kIk R)) : iKeys td σ H R := h
theorem r_kIk (h : H a = some (.frz o (.dK kvs))) (q : R (Itk a o kvs) H) : kIk R (.ref a) H := ⟨a, o, rfl, .inl ⟨kvs, h, q⟩⟩
theorem r_dnew (h : ∀ p, H p = none → Q (.ref p) (upd H p (.dK []))) : tDNewK σ H Q := h
theorem r_lenD (h : H a = some (.dK kvs)) (q : Q (.int kvs.length) H) : rLenD [.ref a] H Q := ⟨a, kvs, rfl, h, q⟩
theorem r_dictD (h : H a = some (.dK kvs)) (q : ∀ p, H p = none → Q (.ref p) (upd H p (.dK kvs))) : rDictD [.ref a] H Q := ⟨a, kvs, rfl, .inl h, q⟩
theorem c_lenD {X : Cx} : CallR X (.builtin "len") rLenD := call_lenD
theorem c_dictD {X : Cx} : CallR X (.type "dict") rDictD := call_dictD
/-- a for over a locked dict with int keys -/
theorem r_forKeys {g : TG} {tb : TS} (Pv : Nat → L2.St → Hp → Prop) (h0 : Pv 0 σ H) (hG : ∀ i σ H, i ≤ kvs.length → Pv i σ H → H a = some (.frz o (.dK kvs)))
    (hs : ∀ (j : Nat) (k : Key) (v : V) (σ : L2.St) (H : Hp), kvs[j]? = some (k, v) → Pv j σ H → g (kV k) σ H fun σ2 H2 => tb { D with nx := Pv (j + 1), ct := Pv (j + 1), bk := D.nx } σ2 H2) (hd : ∀ σ H, Pv kvs.length σ H → D.nx σ H) : kFor g tb D σ (Itk a o kvs) H :=
  for_it walk_keys Pv h0 hG (fun j x σ H H' hj p ⟨e, k, v, hk, hx⟩ => by subst e; rw [hx]; exact hs j k v σ _ hk p) hd
end

/-! ### records: dicts with the keys of a law's model -/
def mdR (a b c d e : V) : List (Key × V) := [(.inr "seen", a), (.inr "sure", b), (.inr "waiting", c), (.inr "fuse", d), (.inr "cut", e)]
theorem val_ne {s t : Str} {v : V} {r : List (Key × V)} (h : ¬ s = t) : valV ((Sum.inr s, v) :: r) (Sum.inr t : Key) = valV r (.inr t) := valV_neg fun z => h (Sum.inr.inj z)
theorem val_eq {s : Str} {v : V} {r : List (Key × V)} : valV ((Sum.inr s, v) :: r) (Sum.inr s : Key) = some v := valV_pos rfl
def mapK (t : Str) (v : V) (kvs : List (Key × V)) : List (Key × V) := kvs.map (fun kv => if kv.1 = .inr t then (kv.1, v) else kv)
theorem mapK_nil {t : Str} {v : V} : mapK t v [] = [] := rfl
theorem mapK_ne {s t : Str} {u v : V} {r : List (Key × V)} (h : ¬ s = t) : mapK t v ((.inr s, u) :: r) = (.inr s, u) :: mapK t v r := by
  unfold mapK
  rw [List.map_cons, if_neg fun z => h (Sum.inr.inj z)]
theorem mapK_eq {t : Str} {u v : V} {r : List (Key × V)} : mapK t v ((.inr t, u) :: r) = (.inr t, v) :: mapK t v r := by
  unfold mapK
  rw [List.map_cons, if_pos rfl]
theorem putK_in {kvs : List (Key × V)} {t : Str} {v u : V} (h : valV kvs (.inr t) = some u) : putK kvs (.inr t) v = mapK t v kvs := by
  unfold putK mapK
  rw [valV_any, h]
  rfl
theorem md_seen {a b c d e : V} : valV (mdR a b c d e) (.inr "seen") = some a := by rw [mdR, val_eq]
theorem md_sure {a b c d e : V} : valV (mdR a b c d e) (.inr "sure") = some b := by rw [mdR, val_ne (by decide +kernel), val_eq]
theorem md_waiting {a b c d e : V} : valV (mdR a b c d e) (.inr "waiting") = some c := by rw [mdR, val_ne (by decide +kernel), val_ne (by decide +kernel), val_eq]
theorem md_fuse {a b c d e : V} : valV (mdR a b c d e) (.inr "fuse") = some d := by rw [mdR, val_ne (by decide +kernel), val_ne (by decide +kernel), val_ne (by decide +kernel), val_eq]
theorem md_cut {a b c d e : V} : valV (mdR a b c d e) (.inr "cut") = some e := by rw [mdR, val_ne (by decide +kernel), val_ne (by decide +kernel), val_ne (by decide +kernel), val_ne (by decide +kernel), val_eq]
theorem md_put_sure {a b c d e v : V} : putK (mdR a b c d e) (.inr "sure") v = mdR a v c d e := by
  rw [putK_in md_sure, mdR, mapK_ne (by decide +kernel), mapK_eq, mapK_ne (by decide +kernel), mapK_ne (by decide +kernel), mapK_ne (by decide +kernel), mapK_nil]
  rfl
theorem md_put_waiting {a b c d e v : V} : putK (mdR a b c d e) (.inr "waiting") v = mdR a b v d e := by
  rw [putK_in md_waiting, mdR, mapK_ne (by decide +kernel), mapK_ne (by decide +kernel), mapK_eq, mapK_ne (by decide +kernel), mapK_ne (by decide +kernel), mapK_nil]
  rfl
theorem md_put_fuse {a b c d e v : V} : putK (mdR a b c d e) (.inr "fuse") v = mdR a b c v e := by
  rw [putK_in md_fuse, mdR, mapK_ne (by decide +kernel), mapK_ne (by decide +kernel), mapK_ne (by decide +kernel), mapK_eq, mapK_ne (by decide +kernel), mapK_nil]
  rfl
theorem md_put_cut {a b c d e v : V} : putK (mdR a b c d e) (.inr "cut") v = mdR a b c d v := by
  rw [putK_in md_cut, mdR, mapK_ne (by decide +kernel), mapK_ne (by decide +kernel), mapK_ne (by decide +kernel), mapK_ne (by decide +kernel), mapK_eq, mapK_nil]
  rfl
theorem r_kdg2s {H : Hp} {Q : V → Hp → Prop} {a : Addr} {kvs : List (Key × V)} {s : Str} {v : V} (h : H a = some (.dK kvs)) (e : valV kvs (.inr s) = some v) (q : Q v H) : kDG2 (.ref a) Q (.str s) H := ⟨a, v, rfl, by rw [← e]; exact DGet.k (k := .inr s) h, q⟩
theorem r_kdp3s {H : Hp} {D : Ends} {σ : L2.St} {a : Addr} {kvs : List (Key × V)} {s : Str} {v : V} (h : H a = some (.dK kvs)) (hl : kvs.length ≤ 100000) (q : D.nx σ (upd H a (.dK (putK kvs (.inr s) v)))) : kDP3 D σ v (.ref a) (.str s) H := ⟨a, _, rfl, DPut.k (k := .inr s) h (by rw [sz]; omega), q⟩
def md3 (a b c : V) : List (Key × V) := [(.inr "seen", a), (.inr "sure", b), (.inr "waiting", c)]
def md4 (a b c d : V) : List (Key × V) := [(.inr "seen", a), (.inr "sure", b), (.inr "waiting", c), (.inr "fuse", d)]
theorem md3_len {a b c : V} : (md3 a b c).length ≤ 100000 := by
  show 3 ≤ 100000
  omega
theorem md4_len {a b c d : V} : (md4 a b c d).length ≤ 100000 := by
  show 4 ≤ 100000
  omega
theorem md_len {a b c d e : V} : (mdR a b c d e).length ≤ 100000 := by
  show 5 ≤ 100000
  omega
local macro_rules | `(tactic| walk_at "mdv") => `(tactic| first | exact Sg.md_seen | exact Sg.md_sure | exact Sg.md_waiting | exact Sg.md_fuse | exact Sg.md_cut)
local macro_rules | `(tactic| walk_at "rd1") => `(tactic| with_reducible (first | refine' Sg.r_dget ?_ | refine' Sg.r_kdg ?_ | (refine' Sg.r_kdg2s ?h ?e ?_; (case h => (with_unfolding_all walk_at "hp")); (case e => walk_at "mdv")) | refine' Sg.r_dput ?_ | refine' Sg.r_kdp ?_ | refine' Sg.r_kdp2 ?_))
/-! ### what is kept but for some -/
def ExL (ms : List Addr) (H H' : Hp) : Prop := ∀ x o, x ∉ ms → H x = some o → H' x = some o
theorem ExL.of {ms : List Addr} {H H' : Hp} (s : Same H H') : ExL ms H H' := fun x o _ h => s x o h
theorem ExL.refl {ms : List Addr} {H : Hp} : ExL ms H H := fun _ _ _ h => h
theorem ExL.put {ms : List Addr} {H H' : Hp} {l : Addr} {o : HO} (hl : l ∈ ms) (e : upd H l o = H') : ExL ms H H' := fun x u n q => by
  rw [← e, upd_ne (fun z : x = l => n (by rw [z]; exact hl))]
  exact q
theorem ExL.sub {ms ns : List Addr} {H H' : Hp} (h : ExL ms H H') (s : ∀ x ∈ ms, x ∈ ns) : ExL ns H H' := fun x o n q => h x o (fun z => n (s x z)) q
/-- a later change touches what was touched, or what is new -/
theorem ExL.trans {ms ns : List Addr} {H H1 H2 : Hp} (h : ExL ms H H1) (h' : ExL ns H1 H2) (s : ∀ x ∈ ns, x ∈ ms ∨ H x = none) : ExL ms H H2 := fun x o n q => h' x o (fun z => (s x z).elim n fun y => by rw [y] at q; cases q) (h x o n q)
/-! ### a device by its addresses -/
def DevQ (C : Addr) (H : Hp) (d su sh un : Addr) (m : DevM) : Prop := ∃ (dx : Addr) (fs : List (Str × V)) (us : List Addr), H d = some (.ins C dx fs) ∧ DevFs fs m su sh un ∧ su ≠ sh ∧ su ≠ un ∧ sh ≠ un ∧
  H su = some (.lst m.sure) ∧ H sh = some (.lst m.shown) ∧ H un = some (.lst (us.map V.ref)) ∧ Paired (fun (u : Addr) (p : Int × V) => H u = some (.tup [.int p.1, p.2])) us m.wait
def cut4 (ms : List Addr) (H : Hp) : Hp := fun x => if x ∈ ms then none else H x
theorem cut4_in {ms : List Addr} {H : Hp} {x : Addr} (h : x ∈ ms) : cut4 ms H x = none := if_pos h
theorem cut4_out {ms : List Addr} {H : Hp} {x : Addr} (h : x ∉ ms) : cut4 ms H x = H x := if_neg h
theorem cut4_same {ms : List Addr} {H : Hp} : Same (cut4 ms H) H := fun x o h => by
  by_cases c : x ∈ ms
  · rw [cut4_in c] at h; cases h
  · rw [cut4_out c] at h; exact h
theorem DevQ.toIn {C : Addr} {H : Hp} {d su sh un : Addr} {m : DevM} (h : DevQ C H d su sh un m) : DevIn C (cut4 [d, su, sh, un] H) H d m := by
  obtain ⟨dx, fs, us, h1, h2, h6, h7, h8, h9, h10, h11, h12⟩ := h
  exact ⟨cut4_same, cut4_in (by simp), dx, fs, su, sh, un, us, h1, h2, cut4_in (by simp), cut4_in (by simp), cut4_in (by simp), h6, h7, h8, h9, h10, h11, h12⟩
theorem DevQ.ofIn {C : Addr} {H H' : Hp} {ms : List Addr} {d : Addr} {m : DevM} (h : DevIn C (cut4 ms H) H' d m) : ExL ms H H' ∧ ∃ su sh un, DevQ C H' d su sh un m ∧ ∀ x ∈ [su, sh, un], x ∈ ms ∨ H x = none := by
  obtain ⟨s0, n0, dx, fs, su, sh, un, us, h1, h2, h3, h4, h5, h6, h7, h8, h9, h10, h11, h12⟩ := h
  have k : ∀ x, cut4 ms H x = none → x ∈ ms ∨ H x = none := fun x hx => by
    by_cases c : x ∈ ms
    · exact .inl c
    · rw [cut4_out c] at hx; exact .inr hx
  refine ⟨fun x o n q => s0 x o (by rw [cut4_out n]; exact q), su, sh, un, ⟨dx, fs, us, h1, h2, h6, h7, h8, h9, h10, h11, h12⟩, fun x hx => ?_⟩
  simp only [List.mem_cons, List.not_mem_nil, or_false] at hx
  rcases hx with rfl | rfl | rfl
  · exact k _ h3
  · exact k _ h4
  · exact k _ h5
theorem DevQ.frame {C : Addr} {H H' : Hp} {d su sh un : Addr} {m : DevM} (h : DevQ C H d su sh un m) (e : ∀ x ∈ [d, su, sh, un], ∀ o, H x = some o → H' x = some o) (k : Keeps H H') : DevQ C H' d su sh un m := by
  obtain ⟨dx, fs, us, h1, h2, h6, h7, h8, h9, h10, h11, h12⟩ := h
  exact ⟨dx, fs, us, e _ (by simp) _ h1, h2, h6, h7, h8, e _ (by simp) _ h9, e _ (by simp) _ h10, e _ (by simp) _ h11, pairs_keeps k h12⟩
/-! ### a device and the law's model of it -/
structure UN where
  d : Addr
  su : Addr
  sh : Addr
  un : Addr
  md : Addr
  sn : Addr
  sr : Addr
def fpD (u : UN) : List Addr := [u.d, u.su, u.sh, u.un]
def fpU (u : UN) : List Addr := [u.d, u.su, u.sh, u.un, u.md, u.sn, u.sr]
def fuseI (m : DevM) : Int := match m.left with
  | none => -1
  | some k => k
def mdK (u : UN) (m : DevM) : List (Key × V) := mdR (.ref u.sn) (.ref u.sr) (.int m.wait.length) (.int (fuseI m)) (.bl m.off)
structure UAt (C : Addr) (H : Hp) (u : UN) (m : DevM) : Prop where
  dev : DevQ C H u.d u.su u.sh u.un m
  dic : H u.md = some (.dK (mdK u m))
  seen : H u.sn = some (.lst m.shown)
  sure : H u.sr = some (.lst m.sure)
  nd : (fpU u).Nodup
theorem UAt.live {C : Addr} {H : Hp} {u : UN} {m : DevM} (h : UAt C H u m) : ∀ x ∈ fpU u, H x ≠ none := fun x hx => by
  obtain ⟨⟨dx, fs, us, h1, h2, h6, h7, h8, h9, h10, h11, h12⟩, h13, h14, h15, _⟩ := h
  simp only [fpU, List.mem_cons, List.not_mem_nil, or_false] at hx
  rcases hx with rfl | rfl | rfl | rfl | rfl | rfl | rfl
  · rw [h1]; exact fun z => nomatch z
  · rw [h9]; exact fun z => nomatch z
  · rw [h10]; exact fun z => nomatch z
  · rw [h11]; exact fun z => nomatch z
  · rw [h13]; exact fun z => nomatch z
  · rw [h14]; exact fun z => nomatch z
  · rw [h15]; exact fun z => nomatch z
theorem UAt.frame {C : Addr} {H H' : Hp} {u : UN} {m : DevM} {ms : List Addr} (h : UAt C H u m) (e : ExL ms H H') (dj : ∀ x ∈ fpU u, x ∉ ms) (k : Keeps H H') : UAt C H' u m := by
  obtain ⟨h1, h2, h3, h4, h5⟩ := h
  have f : ∀ x ∈ fpU u, ∀ o, H x = some o → H' x = some o := fun x hx o q => e x o (dj x hx) q
  exact ⟨h1.frame (fun x hx o q => f x (by
    simp only [List.mem_cons, List.not_mem_nil, or_false] at hx
    rcases hx with h | h | h | h <;> simp [fpU, h]) o q) k, f _ (by simp [fpU]) _ h2, f _ (by simp [fpU]) _ h3, f _ (by simp [fpU]) _ h4, h5⟩

/-! ### a step of the law: on the device and on the model -/
theorem i_cut {C : Addr} {args_ : List V} {H : Hp} {Q : V → Hp → Prop} {E : XK} {d su sh un : Addr} {m : DevM} {n : Int} (ev : args_ = [.ref d, .int n]) (hD : DevQ C H d su sh un m)
    (q : ∀ (H' : Hp) (su' sh' un' : Addr), ExL [d, su, sh, un] H H' → Keeps H H' → DevQ C H' d su' sh' un' (cutF m n) → (∀ x ∈ [su', sh', un'], x ∈ [d, su, sh, un] ∨ H x = none) → Q .non H') : sp_cut_after C args_ H Q E :=
  ⟨_, d, m, n, ev, hD.toIn, fun H' h k => by
    obtain ⟨e, su', sh', un', hq, hn⟩ := DevQ.ofIn h
    exact q H' su' sh' un' e k hq hn⟩
theorem i_barrier {C : Addr} {args_ : List V} {H : Hp} {Q : V → Hp → Prop} {E : XK} {d su sh un : Addr} {m : DevM} (ev : args_ = [.ref d]) (hD : DevQ C H d su sh un m)
    (q : ∀ (H' : Hp) (su' sh' un' : Addr), ExL [d, su, sh, un] H H' → Keeps H H' → DevQ C H' d su' sh' un' (barrierF m) → (∀ x ∈ [su', sh', un'], x ∈ [d, su, sh, un] ∨ H x = none) → Q .non H') : sp_barrier C args_ H Q E :=
  ⟨_, d, m, ev, hD.toIn, fun H' h k => by
    obtain ⟨e, su', sh', un', hq, hn⟩ := DevQ.ofIn h
    exact q H' su' sh' un' e k hq hn⟩
theorem i_write {C : Addr} {args_ : List V} {H : Hp} {Q : V → Hp → Prop} {E : XK} {d su sh un : Addr} {m : DevM} {a : Int} {v : V} (ev : args_ = [.ref d, .int a, v]) (hD : DevQ C H d su sh un m) (hw : m.wait.length ≤ 1000)
    (q : ∀ (H' : Hp) (su' sh' un' : Addr), ExL [d, su, sh, un] H H' → Keeps H H' → DevQ C H' d su' sh' un' (writeF m a v) → (∀ x ∈ [su', sh', un'], x ∈ [d, su, sh, un] ∨ H x = none) → Q .non H') : sp_write C args_ H Q E :=
  ⟨_, d, m, a, v, ev, hD.toIn, hw, fun H' h k => by
    obtain ⟨e, su', sh', un', hq, hn⟩ := DevQ.ofIn h
    exact q H' su' sh' un' e k hq hn⟩
theorem i_read {C : Addr} {args_ : List V} {H : Hp} {Q : V → Hp → Prop} {E : XK} {d su sh un : Addr} {m : DevM} {a : Int} (ev : args_ = [.ref d, .int a]) (hD : DevQ C H d su sh un m) (q : Q (readF m a) H) : sp_read C args_ H Q E := ⟨_, d, m, a, ev, hD.toIn, q⟩
theorem i_pending {C : Addr} {args_ : List V} {H : Hp} {Q : V → Hp → Prop} {E : XK} {d su sh un : Addr} {m : DevM} (ev : args_ = [.ref d]) (hD : DevQ C H d su sh un m) (q : Q (.int m.wait.length) H) : sp_pending C args_ H Q E := ⟨_, d, m, ev, hD.toIn, q⟩
theorem i_wascut {C : Addr} {args_ : List V} {H : Hp} {Q : V → Hp → Prop} {E : XK} {d su sh un : Addr} {m : DevM} (ev : args_ = [.ref d]) (hD : DevQ C H d su sh un m) (q : Q (.bl m.off) H) : sp_was_cut C args_ H Q E := ⟨_, d, m, ev, hD.toIn, q⟩
local macro_rules | `(tactic| walk_at "ca1") => `(tactic| with_reducible (first | (refine' Sg.i_cut ?ev ?hD ?_; (case ev => (with_unfolding_all rfl)); (case hD => assumption); intros) | (refine' Sg.i_barrier ?ev ?hD ?_; (case ev => (with_unfolding_all rfl)); (case hD => assumption); intros) | (refine' Sg.i_write ?ev ?hD ?hw ?_; (case ev => (with_unfolding_all rfl)); (case hD => assumption); (case hw => omega); intros) | (refine' Sg.i_read ?ev ?hD ?_; (case ev => (with_unfolding_all rfl)); (case hD => assumption)) | (refine' Sg.i_pending ?ev ?hD ?_; (case ev => (with_unfolding_all rfl)); (case hD => assumption)) | (refine' Sg.i_wascut ?ev ?hD ?_; (case ev => (with_unfolding_all rfl)); (case hD => assumption))))
/-- what the law's steps rely on -/
structure GdM (n : Nat) (m : DevM) : Prop where
  ls : m.shown.length = n
  lu : m.sure.length = n
  co : m.off = false → m.wait.foldl (fun xs p => putB xs p.1 p.2) m.sure = m.shown
  lf : ∀ k, m.left = some k → 0 ≤ k
def stepF (m : DevM) (kd a num : Int) (v : V) : DevM := if kd = 0 then cutF m num else if kd = 1 then barrierF m else writeF m a v
theorem fuse_take {m : DevM} (h : ∀ k, m.left = some k → 0 ≤ k) : fuseI (takeF m) = if 0 < fuseI m then fuseI m - 1 else fuseI m := by
  cases e : m.left with
  | none => simp [takeF, fuseI, e]
  | some k =>
    have := h k e
    by_cases c : k = 0
    · subst c
      simp [takeF, fuseI, e]
    · have c2 : 0 < k := by omega
      simp [takeF, fuseI, e, c, c2]
theorem off_take {m : DevM} (h : ∀ k, m.left = some k → 0 ≤ k) : (takeF m).off = (decide (fuseI m = 0) || m.off) := by
  cases e : m.left with
  | none => simp [takeF, fuseI, e]
  | some k =>
    by_cases c : k = 0
    · subst c
      simp [takeF, fuseI, e]
    · simp [takeF, fuseI, e, c]
theorem fuse_cut {m : DevM} {n : Int} : fuseI (cutF m n) = if m.off = true then fuseI m else n := by
  unfold cutF
  split <;> rfl
theorem GdM.take {n : Nat} {m : DevM} (h : GdM n m) : GdM n (takeF m) := by
  obtain ⟨e1, e2, e3, e4⟩ := takeF_lists m
  refine ⟨by rw [e2]; exact h.ls, by rw [e1]; exact h.lu, fun o => ?_, fun k hk => ?_⟩
  · rw [off_take h.lf] at o
    rw [e1, e2, e3]
    exact h.co (by cases hm : m.off with | false => rfl | true => rw [hm, Bool.or_true] at o; cases o)
  · unfold takeF at hk
    cases e : m.left with
    | none => rw [e] at hk; dsimp only at hk; rw [e] at hk; cases hk
    | some j =>
      have := h.lf j e
      rw [e] at hk
      dsimp only at hk
      split at hk
      · cases hk
        exact this
      · cases hk
        omega
theorem foldB_len (w : List (Int × V)) : ∀ xs : List V, (w.foldl (fun xs p => putB xs p.1 p.2) xs).length = xs.length := by
  induction w with
  | nil => exact fun _ => rfl
  | cons p w ih =>
    intro xs
    rw [List.foldl_cons, ih, putB_len]
theorem GdM.step {n : Nat} {m : DevM} (h : GdM n m) (kd a num : Int) (v : V) (u0 : 0 ≤ num) : GdM n (stepF m kd a num v) := by
  unfold stepF
  split
  · unfold cutF
    split
    · exact h
    · exact ⟨h.ls, h.lu, h.co, fun k hk => by cases hk; exact u0⟩
  · have t := h.take
    obtain ⟨e1, e2, e3, e4⟩ := takeF_lists m
    split
    · unfold barrierF
      split
      · exact t
      · rename_i o
        have o' : (takeF m).off = false := by simpa using o
        have c := t.co o'
        rw [e1, e2, e3] at c
        refine ⟨t.ls, ?_, fun _ => ?_, t.lf⟩
        · dsimp only
          rw [foldB_len]
          exact h.lu
        · dsimp only
          rw [List.foldl_nil, c, e2]
    · unfold writeF
      refine ⟨by dsimp only; rw [putB_len]; exact h.ls, t.lu, fun o => ?_, t.lf⟩
      dsimp only at o ⊢
      have c := t.co o
      rw [e1, e2, e3] at c
      rw [o, if_neg (by decide), List.foldl_append, e1, c]
      rfl
theorem nodup7 {C : Addr} {H : Hp} {d su sh un md sn sr : Addr} {m : DevM} {kvs : List (Key × V)} {xs ys : List V} (h : DevQ C H d su sh un m) (hm : H md = some (.dK kvs)) (hn : H sn = some (.lst xs)) (hr : H sr = some (.lst ys))
    (a : sn ∉ [su, sh, un]) (b : sr ∉ [su, sh, un]) (c : sn ≠ sr) : [d, su, sh, un, md, sn, sr].Nodup := by
  obtain ⟨dx, fs, us, h1, h2, h6, h7, h8, h9, h10, h11, h12⟩ := h
  have ne : ∀ {x y : Addr} {o o' : HO}, H x = some o → H y = some o' → o ≠ o' → x ≠ y := fun p q z e => z (by rw [e, q] at p; cases p; rfl)
  have i1 : ∀ {x : Addr} {zs : List V}, H x = some (.lst zs) → d ≠ x := fun q => ne h1 q (by intro z; cases z)
  have i2 : ∀ {x : Addr} {zs : List V}, H x = some (.lst zs) → md ≠ x := fun q => ne hm q (by intro z; cases z)
  have i3 : d ≠ md := ne h1 hm (by intro z; cases z)
  simp only [List.mem_cons, List.not_mem_nil, or_false, not_or] at a b
  have j1 := i1 h9
  have j2 := i1 h10
  have j3 := i1 h11
  have j4 := i1 hn
  have j5 := i1 hr
  have k1 := (i2 h9).symm
  have k2 := (i2 h10).symm
  have k3 := (i2 h11).symm
  have k4 := i2 hn
  have k5 := i2 hr
  simp only [List.nodup_cons, List.mem_cons, List.not_mem_nil, or_false, not_or, List.nodup_nil, and_true, not_false_eq_true]
  exact ⟨⟨j1, j2, j3, i3, j4, j5⟩, ⟨h6, h7, k1, Ne.symm a.1, Ne.symm b.1⟩, ⟨h8, k2, Ne.symm a.2.1, Ne.symm b.2.1⟩, ⟨k3, Ne.symm a.2.2, Ne.symm b.2.2⟩, ⟨k4, k5⟩, c⟩
theorem nds {u : UN} (h : (fpU u).Nodup) : u.md ∉ fpD u ∧ u.sn ∉ fpD u ∧ u.sr ∉ fpD u ∧ u.md ≠ u.sn ∧ u.md ≠ u.sr ∧ u.sn ≠ u.sr := by
  simp only [fpU, List.nodup_cons, List.mem_cons, List.not_mem_nil, or_false, not_or, List.nodup_nil, and_true, not_false_eq_true] at h
  obtain ⟨⟨a1, a2, a3, a4, a5, a6⟩, ⟨b1, b2, b3, b4, b5⟩, ⟨c1, c2, c3, c4⟩, ⟨d1, d2, d3⟩, ⟨e1, e2⟩, f⟩ := h
  simp only [fpD, List.mem_cons, List.not_mem_nil, or_false, not_or]
  exact ⟨⟨Ne.symm a4, Ne.symm b3, Ne.symm c2, Ne.symm d1⟩, ⟨Ne.symm a5, Ne.symm b4, Ne.symm c3, Ne.symm d2⟩, ⟨Ne.symm a6, Ne.symm b5, Ne.symm c4, Ne.symm d3⟩, e1, e2, f⟩
/-- an address that was touched or is new is none that stands apart -/
theorem apart {H : Hp} {xs ms : List Addr} {y : Addr} (h : ∀ x ∈ xs, x ∈ ms ∨ H x = none) (hy : y ∉ ms) (l : H y ≠ none) : y ∉ xs := fun z => (h y z).elim hy l
theorem ExL.back {ms : List Addr} {H H1 : Hp} (e : ExL ms H H1) (l : ∀ y ∈ ms, H1 y ≠ none) {x : Addr} (h : H1 x = none) : H x = none := by
  cases g : H x with
  | none => rfl
  | some o =>
    by_cases c : x ∈ ms
    · exact absurd h (l x c)
    · rw [e x o c g] at h
      cases h
theorem unit_new {C : Addr} {H H' : Hp} {u : UN} {m m' : DevM} {su' sh' un' sr' : Addr} (hU : UAt C H u m) (hD : DevQ C H' u.d su' sh' un' m')
    (hd : H' u.md = some (.dK (mdR (.ref u.sn) (.ref sr') (.int m'.wait.length) (.int (fuseI m')) (.bl m'.off)))) (hs : H' u.sn = some (.lst m'.shown)) (hr : H' sr' = some (.lst m'.sure))
    (n : ∀ x ∈ [su', sh', un'], x ∈ fpD u ∨ H x = none) (ns : sr' = u.sr ∨ (sr' ∉ [su', sh', un'] ∧ sr' ≠ u.sn ∧ (sr' ∈ fpU u ∨ H sr' = none))) :
    UAt C H' ⟨u.d, su', sh', un', u.md, u.sn, sr'⟩ m' ∧ ∀ x ∈ fpU ⟨u.d, su', sh', un', u.md, u.sn, sr'⟩, x ∈ fpU u ∨ H x = none := by
  obtain ⟨hD0, hd0, hs0, hr0, nd⟩ := hU
  obtain ⟨x1, x2, x3, x4, x5, x6⟩ := nds nd
  have y2 : u.sn ∉ [su', sh', un'] := apart n x2 (by rw [hs0]; exact fun z => nomatch z)
  have y3 : u.sr ∉ [su', sh', un'] := apart n x3 (by rw [hr0]; exact fun z => nomatch z)
  have z3 : sr' ∉ [su', sh', un'] := by
    rcases ns with rfl | ⟨h, _⟩
    · exact y3
    · exact h
  have z4 : u.sn ≠ sr' := by
    rcases ns with rfl | ⟨_, h, _⟩
    · exact x6
    · exact fun z => h z.symm
  refine ⟨⟨hD, hd, hs, hr, nodup7 hD hd hs hr y2 z3 z4⟩, fun x hx => ?_⟩
  have lD : ∀ x ∈ fpD u, x ∈ fpU u := fun x hx => by
    simp only [fpD, List.mem_cons, List.not_mem_nil, or_false] at hx
    rcases hx with h | h | h | h <;> simp [fpU, h]
  have l3 : ∀ x ∈ [su', sh', un'], x ∈ fpU u ∨ H x = none := fun x hx => (n x hx).imp (lD x) id
  simp only [fpU, List.mem_cons, List.not_mem_nil, or_false] at hx
  rcases hx with h | h | h | h | h | h | h
  · exact .inl (by rw [h]; simp [fpU])
  · exact l3 x (by rw [h]; simp)
  · exact l3 x (by rw [h]; simp)
  · exact l3 x (by rw [h]; simp)
  · exact .inl (by rw [h]; simp [fpU])
  · exact .inl (by rw [h]; simp [fpU])
  · rw [h]
    rcases ns with e | ⟨_, _, e⟩
    · exact .inl (by rw [e]; simp [fpU])
    · exact e
local macro_rules | `(tactic| walk_at "rd1") => `(tactic| with_reducible (refine' Sg.r_kdp3s ?h ?hl ?_; (case h => (with_unfolding_all walk_at "hp")); (case hl => first | exact Sg.md_len | exact Sg.md3_len | exact Sg.md4_len); (with_unfolding_all walk_at "up")))
def sp_law_step (C : Addr) : Sp := fun args_ H Q _ => ∃ (u : UN) (m : DevM) (n : Nat) (kd a num : Int) (v : V), args_ = [.ref u.d, .ref u.md, .int kd, .int a, v, .int num] ∧ UAt C H u m ∧ GdM n m ∧ m.wait.length ≤ 1000 ∧ 0 ≤ a ∧ a < n ∧ 0 ≤ num ∧ ∀ (H' : Hp) (u' : UN), ExL (fpU u) H H' → Keeps H H' → UAt C H' u' (stepF m kd a num v) → u'.d = u.d → u'.md = u.md → (∀ x ∈ fpU u', x ∈ fpU u ∨ H x = none) → Q .non H'
theorem i_law_step {C : Addr} {args_ : List V} {H : Hp} {Q : V → Hp → Prop} {E : XK} {u : UN} {m : DevM} {n : Nat} {kd a num : Int} {v : V} (ev : args_ = [.ref u.d, .ref u.md, .int kd, .int a, v, .int num]) (hU : UAt C H u m) (hG : GdM n m) (hw : m.wait.length ≤ 1000) (a0 : 0 ≤ a) (a1 : a < n) (u0 : 0 ≤ num) (q : ∀ (H' : Hp) (u' : UN), ExL (fpU u) H H' → Keeps H H' → UAt C H' u' (stepF m kd a num v) → u'.d = u.d → u'.md = u.md → (∀ x ∈ fpU u', x ∈ fpU u ∨ H x = none) → Q .non H') : sp_law_step C args_ H Q E := ⟨u, m, n, kd, a, num, v, ev, hU, hG, hw, a0, a1, u0, q⟩
local macro_rules | `(tactic| walk_at "ca1") => `(tactic| with_reducible (refine' Sg.i_law_step ?ev ?hU ?hG ?hw ?a0 ?a1 ?u0 ?_; (case ev => (with_unfolding_all rfl)); (case hU => (with_unfolding_all walk_at "pr")); (case hG => (with_unfolding_all walk_at "pr")); (case hw => (with_unfolding_all walk_at "pr")); (case a0 => (with_unfolding_all walk_at "pr")); (case a1 => (with_unfolding_all walk_at "pr")); (case u0 => (with_unfolding_all walk_at "pr")); intros))

theorem ok_law_step (T : Txt K mg) : FnOk P w K mg base CX0 3 T.a_law_step T.fd_law_step ["device", "model", "kind", "address", "block", "number"] (sp_law_step T.A_Device) := by
  refine T.F_law_step.ok sc_law_step (fun vs H Q E h => ?_) (fun cdv A outer s H vs Q E hr h => ?_)
  · obtain ⟨u, m, n, kd, a, num, v, rfl, _⟩ := h
    rfl
  · refine ⟨_, (pss_cons (ps_if (pt_cmpR op_eq (pv 2) pe_int (nomark _))
       (pss_cons (ps_expr (pe_meth (pv 0) T.cl_Device T.me_Device_cut_after (ok_Device_cut_after T) (hr.mono (by decide)) T.b_Device_cut_after .nil pass0 (pa_cons (pv 5) pa_nil)))
       (C8.pss_cut (ps_if (pt_not (pt_val (pe_dget (hu_of hr) (pv 1) pe_str (fun _ _ => rfl))))
       (pss_one (ps_dput (hu_of hr) (pv 1) pe_str (pv 5) rfl))
       pss_nil)
       (pss_one ps_retN)))
       pss_nil)
       (C8.pss_cut (ps_if (pt_cmpR op_eq (pe_dget (hu_of hr) (pv 1) pe_str (fun _ _ => rfl)) pe_int (nomark _))
       (pss_one (ps_dput (hu_of hr) (pv 1) pe_str pe_bl rfl))
       pss_nil)
       (C8.pss_cut (ps_if (pt_cmpR op_gt (pe_dget (hu_of hr) (pv 1) pe_str (fun _ _ => rfl)) pe_int (nomark _))
       (pss_one (ps_dput (hu_of hr) (pv 1) pe_str (pe_op op_sub (pe_dget (hu_of hr) (pv 1) pe_str (fun _ _ => rfl)) pe_int) rfl))
       pss_nil)
       (pss_one (ps_if (pt_cmpR op_eq (pv 2) pe_int (nomark _))
       (pss_cons (ps_expr (pe_meth0 (pv 0) T.cl_Device T.me_Device_barrier (ok_Device_barrier T) (hr.mono (by decide)) T.b_Device_barrier .nil pass0))
       (pss_one (ps_if (pt_not (pt_val (pe_dget (hu_of hr) (pv 1) pe_str (fun _ _ => rfl))))
       (pss_cons (ps_dput (hu_of hr) (pv 1) pe_str (pe_callTy c_list (by rfl) T.n_list (by decide +kernel) (pa_cons (pe_dget (hu_of hr) (pv 1) pe_str (fun _ _ => rfl)) pa_nil)) rfl)
       (pss_one (ps_dput (hu_of hr) (pv 1) pe_str pe_int rfl)))
       pss_nil)))
       (pss_cons (ps_expr (pe_meth (pv 0) T.cl_Device T.me_Device_write (ok_Device_write T) (hr.mono (by decide)) T.b_Device_write .nil pass0 (pa_cons (pv 3) (pa_cons (pv 4) pa_nil))))
       (pss_cons (ps_set (i := 6) sc_law_step.nd rfl (Or.inl rfl) (pe_dget (hu_of hr) (pv 1) pe_str (fun _ _ => rfl)))
       (pss_cons (ps_asg (pv 4) (pg_sub (pv 6) (pv 3) set_list))
       (pss_one (ps_if (pt_not (pt_val (pe_dget (hu_of hr) (pv 1) pe_str (fun _ _ => rfl))))
       (pss_one (ps_dput (hu_of hr) (pv 1) pe_str (pe_op op_add (pe_dget (hu_of hr) (pv 1) pe_str (fun _ _ => rfl)) pe_int) rfl))
       pss_nil)))))))))), ?_⟩
    try dsimp only [cxOf, Cx.nox, Cx.wish]
    obtain ⟨u, m, n, kd, a, num, v, rfl, hU, hG, hw, a0, a1, u0, q⟩ := h
    have cl_Device := T.cl_Device
    obtain ⟨hD, hd, hs, hr', nd⟩ := id hU
    obtain ⟨x1, x2, x3, x4, x5, x6⟩ := nds nd
    obtain ⟨dx, fs, us, h1, F, _⟩ := id hD
    have nC := F.nC
    have nB := F.nB
    have nW := F.nW
    have lD : ∀ x ∈ fpD u, x ∈ fpU u := fun x hx => by
      simp only [fpD, List.mem_cons, List.not_mem_nil, or_false] at hx
      rcases hx with h | h | h | h <;> simp [fpU, h]
    by_cases k0 : kd = 0
    · subst k0
      walk_at "go"
      rename_i H1 su' sh' un' e1 k1 hD1 n1
      have hd1 := e1 _ _ x1 hd
      have hs1 := e1 _ _ x2 hs
      have hr1 := e1 _ _ x3 hr'
      have y2 : u.sn ∉ [su', sh', un'] := apart n1 x2 (by rw [hs]; exact fun z => nomatch z)
      have y3 : u.sr ∉ [su', sh', un'] := apart n1 x3 (by rw [hr']; exact fun z => nomatch z)
      have y1 : u.md ∉ [su', sh', un'] := apart n1 x1 (by rw [hd]; exact fun z => nomatch z)
      unfold mdK at hd1
      have fin : ∀ H2, ExL [u.md] H1 H2 → Keeps H1 H2 → H2 u.md = some (.dK (mdR (.ref u.sn) (.ref u.sr) (.int m.wait.length) (.int (fuseI (cutF m num))) (.bl m.off))) → Q .non H2 := fun H2 e2 k2 hd2 => by
        have c1 : (cutF m num).wait = m.wait ∧ (cutF m num).off = m.off ∧ (cutF m num).shown = m.shown ∧ (cutF m num).sure = m.sure := by
          unfold cutF
          split <;> exact ⟨rfl, rfl, rfl, rfl⟩
        obtain ⟨c1, c2, c3, c4⟩ := c1
        have hD2 : DevQ T.A_Device H2 u.d su' sh' un' (cutF m num) := hD1.frame (fun x hx o q => e2 x o (by
          simp only [List.mem_cons, List.not_mem_nil, or_false, not_or] at hx y1 x1 ⊢
          rcases hx with rfl | rfl | rfl | rfl
          · exact fun z => x1 (by rw [← z]; simp [fpD])
          · exact Ne.symm y1.1
          · exact Ne.symm y1.2.1
          · exact Ne.symm y1.2.2) q) k2
        obtain ⟨r1, r2⟩ := unit_new hU hD2 (by rw [c1, c2]; exact hd2) (by rw [c3]; exact e2 _ _ (by simpa using Ne.symm x4) hs1) (by rw [c4]; exact e2 _ _ (by simpa using Ne.symm x5) hr1) n1 (.inl rfl)
        exact q H2 _ ((e1.sub lD).trans e2 (fun x hx => .inl (by rw [List.mem_singleton.mp hx]; simp [fpU]))) (k1.trans k2) r1 rfl rfl r2
      refine r_cut (fun σ' H' => σ' = [some (.ref u.d), some (.ref u.md), some (.int 0), some (.int a), some (v), some (.int num), none] ∧ ExL [u.md] H1 H' ∧ Keeps H1 H' ∧ H' u.md = some (.dK (mdR (.ref u.sn) (.ref u.sr) (.int m.wait.length) (.int (fuseI (cutF m num))) (.bl m.off)))) ?_ ?_
      · walk_at "go"
        refine to_ite (fun hc => ?_) (fun hc => ?_)
        · have ho : m.off = false := by simpa using hc
          walk_at "go"
          rename_i H2 h2 o2
          refine ⟨rfl, ExL.put (by simp) h2, Keeps.upd hd1 (fun z => z) h2, ?_⟩
          rw [o2, md_put_fuse, fuse_cut, ho, if_neg (by decide)]
        · have ho : m.off = true := by simpa using hc
          walk_at "go"
          refine ⟨rfl, ExL.refl, Keeps.refl _, ?_⟩
          rw [hd1, fuse_cut, ho, if_pos rfl]
      · rintro σ' H2 ⟨rfl, e2, k2, hd2⟩
        walk_at "go"
        exact fin H2 e2 k2 hd2
    · walk_at "go"
      unfold mdK at hd
      refine r_cut (fun σ' H' => σ' = [some (.ref u.d), some (.ref u.md), some (.int kd), some (.int a), some (v), some (.int num), none] ∧ ExL [u.md] H H' ∧ Keeps H H' ∧ H' u.md = some (.dK (mdR (.ref u.sn) (.ref u.sr) (.int m.wait.length) (.int (fuseI m)) (.bl (takeF m).off)))) ?_ ?_
      · walk_at "go"
        refine to_ite (fun hc => ?_) (fun hc => ?_)
        · have hf : fuseI m = 0 := of_decide_eq_true hc
          walk_at "go"
          rename_i H2 h2 o2
          refine ⟨rfl, ExL.put (by simp) h2, Keeps.upd hd (fun z => z) h2, ?_⟩
          rw [o2, md_put_cut, off_take hG.lf, decide_eq_true hf, Bool.true_or]
        · have hf : ¬ fuseI m = 0 := of_decide_eq_false hc
          walk_at "go"
          refine ⟨rfl, ExL.refl, Keeps.refl _, ?_⟩
          rw [hd, off_take hG.lf, decide_eq_false hf, Bool.false_or]
      rintro σ' H1 ⟨rfl, e1, k1, hd1⟩
      refine r_cut (fun σ' H' => σ' = [some (.ref u.d), some (.ref u.md), some (.int kd), some (.int a), some (v), some (.int num), none] ∧ ExL [u.md] H H' ∧ Keeps H H' ∧ H' u.md = some (.dK (mdR (.ref u.sn) (.ref u.sr) (.int m.wait.length) (.int (fuseI (takeF m))) (.bl (takeF m).off)))) ?_ ?_
      · walk_at "go"
        refine to_ite (fun hc => ?_) (fun hc => ?_)
        · have hf : 0 < fuseI m := of_decide_eq_true hc
          walk_at "go"
          rename_i H2 h2 o2
          refine ⟨rfl, e1.trans (ExL.put (ms := [u.md]) (by simp) h2) (fun x hx => .inl hx), k1.trans (Keeps.upd hd1 (fun z => z) h2), ?_⟩
          rw [o2, md_put_fuse, fuse_take hG.lf, if_pos hf]
        · have hf : ¬ 0 < fuseI m := of_decide_eq_false hc
          walk_at "go"
          refine ⟨rfl, e1, k1, ?_⟩
          rw [hd1, fuse_take hG.lf, if_neg hf]
      clear e1 k1 hd1 H1
      rintro σ' H1 ⟨rfl, e1, k1, hd1⟩
      have hD1 : DevQ T.A_Device H1 u.d u.su u.sh u.un m := hD.frame (fun x hx o q => e1 x o (fun z => x1 (by rw [← List.mem_singleton.mp z]; exact hx)) q) k1
      have hs1 := e1 _ _ (by simpa using Ne.symm x4) hs
      have hr1 := e1 _ _ (by simpa using Ne.symm x5) hr'
      obtain ⟨dx1, fs1, us1, h11, F1, _⟩ := id hD1
      have nB1 := F1.nB
      have nW1 := F1.nW
      have G2 := hG.take
      obtain ⟨t1, t2, t3, t4⟩ := takeF_lists m
      by_cases kb : kd = 1
      · have es : stepF m kd a num v = barrierF m := by unfold stepF; rw [if_neg k0, if_pos kb]
        rw [es] at q
        walk_at "go"
        rename_i H2 su' sh' un' e2 k2 hD2 n2
        have z1 : ∀ x ∈ [su', sh', un'], x ∈ fpD u ∨ H x = none := fun x hx => (n2 x hx).imp id (ExL.back e1 (fun y hy => by rw [List.mem_singleton.mp hy, hd1]; exact fun z => nomatch z))
        have hd2 := e2 _ _ x1 hd1
        have hs2 := e2 _ _ x2 hs1
        have hr2 := e2 _ _ x3 hr1
        have y1 : u.md ∉ [su', sh', un'] := apart z1 x1 (by rw [hd]; exact fun z => nomatch z)
        have E2 : ExL (fpU u) H H2 := (e1.sub (fun x hx => by rw [List.mem_singleton.mp hx]; simp [fpU])).trans e2 (fun x hx => .inl (lD x hx))
        have K2 := k1.trans k2
        have onD : ∀ {H5 : Hp} {m' : DevM}, DevQ T.A_Device H2 u.d su' sh' un' m' → ExL [u.md] H2 H5 → Keeps H2 H5 → DevQ T.A_Device H5 u.d su' sh' un' m' := fun hq e k => hq.frame (fun x hx o q => e x o (by
          simp only [List.mem_cons, List.not_mem_nil, or_false, not_or] at hx y1 ⊢
          rcases hx with rfl | rfl | rfl | rfl
          · exact fun z => x1 (by rw [← z]; simp [fpD])
          · exact Ne.symm y1.1
          · exact Ne.symm y1.2.1
          · exact Ne.symm y1.2.2) q) k
        walk_at "go"
        refine to_ite (fun hc => ?_) (fun hc => ?_)
        · have ho : (takeF m).off = false := by simpa using hc
          have ho' : m.off = false := by
            rw [off_take hG.lf] at ho
            cases hm : m.off with
            | false => rfl
            | true => rw [hm, Bool.or_true] at ho; cases ho
          have eb : barrierF m = { takeF m with sure := m.wait.foldl (fun xs p => putB xs p.1 p.2) m.sure, wait := [] } := by
            unfold barrierF
            rw [ho, if_neg (by decide)]
          walk_at "go"
          rename_i p np H3 s3 o3 H4 h4 o4
          rw [md_put_sure] at o4
          walk_at "go"
          rename_i H5 h5 o5
          rw [md_put_waiting] at o5
          have hd3 := s3 _ _ hd2
          have E5 : ExL [u.md] H2 H5 := ((ExL.of s3).trans (ExL.put (ms := [u.md]) (by simp) h4) (fun x hx => .inl hx)).trans (ExL.put (ms := [u.md]) (by simp) h5) (fun x hx => .inl hx)
          have K5 : Keeps H2 H5 := ((Keeps.of s3).trans (Keeps.upd hd3 (fun z => z) h4)).trans (Keeps.upd o4 (fun z => z) h5)
          have pm : p ≠ u.md := fun z => by rw [z, hd2] at np; cases np
          have o6 : H5 p = some (.lst m.shown) := by rw [← h5, upd_ne pm, ← h4, upd_ne pm]; exact o3
          have pl : p ∉ [su', sh', un'] := fun z => by
            obtain ⟨_, _, _, _, _, _, _, _, g9, g10, g11, _⟩ := id hD2
            simp only [List.mem_cons, List.not_mem_nil, or_false] at z
            rcases z with z | z | z
            · rw [z, g9] at np; cases np
            · rw [z, g10] at np; cases np
            · rw [z, g11] at np; cases np
          have ps : p ≠ u.sn := fun z => by rw [z, hs2] at np; cases np
          have pf : p ∈ fpU u ∨ H p = none := by
            by_cases c : p ∈ fpU u
            · exact .inl c
            · refine .inr ?_
              cases e : H p with
              | none => rfl
              | some o => rw [E2 p o c e] at np; cases np
          have hD5 := onD hD2 E5 K5
          have hs5 := E5 _ _ (by simpa using Ne.symm x4) hs2
          have co := hG.co ho'
          rw [eb] at hD5 q
          obtain ⟨r1, r2⟩ := unit_new hU hD5 (by rw [o5]; rfl) (by dsimp only; rw [t2]; exact hs5) (by dsimp only; rw [co]; exact o6) z1 (.inr ⟨pl, ps, pf⟩)
          walk_at "go"
          exact q H5 _ (E2.trans E5 (fun x hx => .inl (by rw [List.mem_singleton.mp hx]; simp [fpU]))) (K2.trans K5) r1 rfl rfl r2
        · have ho : (takeF m).off = true := by simpa using hc
          have eb : barrierF m = takeF m := by
            unfold barrierF
            rw [ho, if_pos rfl]
          rw [eb] at hD2 q
          obtain ⟨r1, r2⟩ := unit_new hU hD2 (by rw [hd2, t3]) (by rw [t2]; exact hs2) (by rw [t1]; exact hr2) z1 (.inl rfl)
          walk_at "go"
          exact q H2 _ E2 K2 r1 rfl rfl r2
      · have es : stepF m kd a num v = writeF m a v := by unfold stepF; rw [if_neg k0, if_neg kb]
        rw [es] at q
        walk_at "go"
        rename_i H2 su' sh' un' e2 k2 hD2 n2
        have z1 : ∀ x ∈ [su', sh', un'], x ∈ fpD u ∨ H x = none := fun x hx => (n2 x hx).imp id (ExL.back e1 (fun y hy => by rw [List.mem_singleton.mp hy, hd1]; exact fun z => nomatch z))
        have hd2 := e2 _ _ x1 hd1
        have hs2 := e2 _ _ x2 hs1
        have hr2 := e2 _ _ x3 hr1
        have y1 : u.md ∉ [su', sh', un'] := apart z1 x1 (by rw [hd]; exact fun z => nomatch z)
        have y2 : u.sn ∉ [su', sh', un'] := apart z1 x2 (by rw [hs]; exact fun z => nomatch z)
        have E2 : ExL (fpU u) H H2 := (e1.sub (fun x hx => by rw [List.mem_singleton.mp hx]; simp [fpU])).trans e2 (fun x hx => .inl (lD x hx))
        have K2 := k1.trans k2
        walk_at "go"
        refine r_setl hs2 (ixN_ok a0 (by rw [hG.ls]; exact a1)) ?_
        generalize hH : upd _ _ _ = H3
        have o3 := Sg.at_new hH
        have hd3 := Sg.at_keep hH hd2 hs2 (by intro z; cases z)
        have E3 : ExL [u.md, u.sn] H2 H3 := ExL.put (by simp) hH
        have K3 : Keeps H2 H3 := Keeps.upd hs2 lstNF hH
        have onD : ∀ {H5 : Hp} {m' : DevM}, DevQ T.A_Device H2 u.d su' sh' un' m' → ExL [u.md, u.sn] H2 H5 → Keeps H2 H5 → DevQ T.A_Device H5 u.d su' sh' un' m' := fun hq e k => hq.frame (fun x hx o q => e x o (by
          simp only [List.mem_cons, List.not_mem_nil, or_false, not_or] at hx y1 y2 ⊢
          rcases hx with rfl | rfl | rfl | rfl
          · exact ⟨fun z => x1 (by rw [← z]; simp [fpD]), fun z => x2 (by rw [← z]; simp [fpD])⟩
          · exact ⟨Ne.symm y1.1, Ne.symm y2.1⟩
          · exact ⟨Ne.symm y1.2.1, Ne.symm y2.2.1⟩
          · exact ⟨Ne.symm y1.2.2, Ne.symm y2.2.2⟩) q) k
        have hr3 := E3 _ _ (by simp only [List.mem_cons, List.not_mem_nil, or_false, not_or]; exact ⟨Ne.symm x5, Ne.symm x6⟩) hr2
        have ew : (writeF m a v).shown = m.shown.set a.toNat v := by
          show putB m.shown a v = _
          exact putB_in a0 (by rw [hG.ls]; exact a1)
        have ew2 : (writeF m a v).sure = m.sure := t1
        have ew3 : fuseI (writeF m a v) = fuseI (takeF m) := rfl
        have ew4 : (writeF m a v).off = (takeF m).off := rfl
        walk_at "go"
        refine to_ite (fun hc => ?_) (fun hc => ?_)
        · have ho : (takeF m).off = false := by simpa using hc
          have ew5 : (writeF m a v).wait.length = m.wait.length + 1 := by
            show (if (takeF m).off = true then m.wait else m.wait ++ [(a, v)]).length = _
            rw [ho, if_neg (by decide), List.length_append]
            rfl
          walk_at "go"
          rename_i H4 h4 o4
          rw [md_put_waiting] at o4
          have E4 : ExL [u.md, u.sn] H2 H4 := E3.trans (ExL.put (ms := [u.md, u.sn]) (by simp) h4) (fun x hx => .inl hx)
          have K4 := K3.trans (Keeps.upd hd3 (fun z => z) h4)
          have hs4 : H4 u.sn = some (.lst (m.shown.set a.toNat v)) := by rw [← h4, upd_ne (Ne.symm x4)]; exact o3
          have hr4 : H4 u.sr = some (.lst m.sure) := by rw [← h4, upd_ne (Ne.symm x5)]; exact hr3
          obtain ⟨r1, r2⟩ := unit_new hU (onD hD2 E4 K4) (by rw [o4, ew3, ew4, ew5]; rfl) (by rw [ew]; exact hs4) (by rw [ew2]; exact hr4) z1 (.inl rfl)
          walk_at "go"
          exact q H4 _ (E2.trans E4 (fun x hx => .inl (by simp only [List.mem_cons, List.not_mem_nil, or_false] at hx; rcases hx with h | h <;> simp [fpU, h]))) (K2.trans K4) r1 rfl rfl r2
        · have ho : (takeF m).off = true := by simpa using hc
          have ew5 : (writeF m a v).wait.length = m.wait.length := by
            show (if (takeF m).off = true then m.wait else m.wait ++ [(a, v)]).length = _
            rw [ho, if_pos rfl]
          obtain ⟨r1, r2⟩ := unit_new hU (onD hD2 E3 K3) (by rw [hd3, ew3, ew4, ew5]) (by rw [ew]; exact o3) (by rw [ew2]; exact hr3) z1 (.inl rfl)
          walk_at "go"
          exact q H3 _ (E2.trans E3 (fun x hx => .inl (by simp only [List.mem_cons, List.not_mem_nil, or_false] at hx; rcases hx with h | h <;> simp [fpU, h]))) (K2.trans K3) r1 rfl rfl r2

/-! ### the law compares a device with its model -/
theorem r_neb2 {x : Bool} {H : Hp} {Q : V → Hp → Prop} (q : Q (.bl false) H) : rNe (.bl x) (.bl x) H Q := r_ne rfl (by
  rw [decide_eq_true rfl]
  exact q)
def sp_law_agrees (K : PySem.W.Frag) (C : Addr) : Sp := fun args_ H Q _ => ∃ (u : UN) (m : DevM) (n : Nat) (al : Addr) (as : List Int), args_ = [.ref u.d, .ref u.md, .ref al] ∧ UAt C H u m ∧ GdM n m ∧ SqL K H al (as.map V.int) ∧ (∀ x ∈ as, 0 ≤ x ∧ x < n) ∧ (∀ v ∈ m.shown, Bk K H v) ∧ Q (.bl true) H
theorem i_law_agrees {K : PySem.W.Frag} {C : Addr} {args_ : List V} {H : Hp} {Q : V → Hp → Prop} {E : XK} {u : UN} {m : DevM} {n : Nat} {al : Addr} {as : List Int} (ev : args_ = [.ref u.d, .ref u.md, .ref al]) (hU : UAt C H u m) (hG : GdM n m) (ha : SqL K H al (as.map V.int)) (hin : (∀ x ∈ as, 0 ≤ x ∧ x < n)) (hB : (∀ v ∈ m.shown, Bk K H v)) (q : Q (.bl true) H) : sp_law_agrees K C args_ H Q E := ⟨u, m, n, al, as, ev, hU, hG, ha, hin, hB, q⟩
local macro_rules | `(tactic| walk_at "ca1") => `(tactic| with_reducible (refine' Sg.i_law_agrees ?ev ?hU ?hG ?ha ?hin ?hB ?_; (case ev => (with_unfolding_all rfl)); (case hU => (with_unfolding_all walk_at "pr")); (case hG => (with_unfolding_all walk_at "pr")); (case ha => (with_unfolding_all walk_at "pr")); (case hin => (with_unfolding_all walk_at "pr")); (case hB => (with_unfolding_all walk_at "pr"))))

theorem ok_law_agrees (T : Txt K mg) : FnOk P w K mg base CX0 2 T.a_law_agrees T.fd_law_agrees ["device", "model", "addresses"] (sp_law_agrees K T.A_Device) := by
  refine T.F_law_agrees.ok sc_law_agrees (fun vs H Q E h => ?_) (fun cdv A outer s H vs Q E hr h => ?_)
  · obtain ⟨u, m, n, al, as, rfl, _⟩ := h
    rfl
  · refine ⟨_, (C8.pss_cut (ps_if (PW.pt (pw_or (pt_cmpR op_ne (pe_meth0 (pv 0) T.cl_Device T.me_Device_pending (ok_Device_pending T) (hr.mono (by decide)) T.b_Device_pending .nil pass0) (pe_dget (hu_of hr) (pv 1) pe_str (fun _ _ => rfl)) (nomark _)) (pw_or1 (pt_cmpR op_ne (pe_meth0 (pv 0) T.cl_Device T.me_Device_was_cut (ok_Device_was_cut T) (hr.mono (by decide)) T.b_Device_was_cut .nil pass0) (pe_dget (hu_of hr) (pv 1) pe_str (fun _ _ => rfl)) (nomark _)))))
       (pss_one (ps_ret pe_bl))
       pss_nil)
       (pss_cons (ps_for PassesOwn.never rfl (pi_list (pv 2)) (pg_name (i := 3) sc_law_agrees.nd rfl (Or.inl rfl))
       (pss_one (ps_if (pt_cmpR (op_neD hr.units) (pe_meth (pv 0) T.cl_Device T.me_Device_read (ok_Device_read T) (hr.mono (by decide)) T.b_Device_read .nil pass0 (pa_cons (pv 3) pa_nil)) (pe_ix ix_list (pe_dget (hu_of hr) (pv 1) pe_str (fun _ _ => rfl)) (pv 3) (fun _ _ => rfl)) (nomark _))
       (pss_one (ps_ret pe_bl))
       pss_nil)))
       (pss_one (ps_ret pe_bl)))), ?_⟩
    try dsimp only [cxOf, Cx.nox, Cx.wish]
    obtain ⟨u, m, n, al, as, rfl, hU, hG, ha, hin, hB, q⟩ := h
    have cl_Device := T.cl_Device
    obtain ⟨hD, hd, hs, hr', nd⟩ := id hU
    obtain ⟨dx, fs, us, h1, F, _⟩ := id hD
    have nP := F.nP
    have nU := F.nU
    have nR := F.nR
    unfold mdK at hd
    refine r_cutS ?_ ?_
    · walk_at "go"
      refine r_neb2 ?_
      walk_at "go"
      exact ⟨rfl, rfl⟩
    walk_at "go"
    refine r_forL (xs := as.map V.int) (fun i σ' H' => ∃ (v3 : Option V), σ' = [some (.ref u.d), some (.ref u.md), some (.ref al), v3] ∧ H = H') ⟨_, rfl, rfl⟩ (fun i σ' H' _ ⟨_, _, e⟩ => e ▸ ha) ?_ ?_
    · rintro i x σ' H' hx ⟨v3, rfl, rfl⟩
      rw [List.getElem?_map] at hx
      obtain ⟨z, hz, rfl⟩ := Option.map_eq_some_iff.mp hx
      obtain ⟨z0, z1⟩ := hin z (List.mem_of_getElem? hz)
      have z2 : z < m.shown.length := by rw [hG.ls]; exact z1
      walk_at "go"
      rw [readF_in rfl z0 z2]
      refine r_ixl (.of hs) (at_vals z0 z2) ?_
      refine r_neB (hB _ (getD_in z0 z2)) ?_
      walk_at "go"
      exact ⟨_, rfl, rfl⟩
    · rintro σ' H' ⟨v3, rfl, rfl⟩
      walk_at "go"
      exact q

/-! ### the devices and their models together -/
structure Sys (K : PySem.W.Frag) (C CL : Addr) (L : Lay) (n : Nat) (H : Hp) (DL ML lp : Addr) (ps : List (UN × DevM)) : Prop where
  dl : H DL = some (.lst (ps.map fun p => .ref p.1.d))
  ml : H ML = some (.lst (ps.map fun p => .ref p.1.md))
  ne : DL ≠ ML
  lay : LayAt CL L H lp
  at_ : ∀ (i : Nat) p, ps[i]? = some p → UAt C H p.1 p.2
  gd : ∀ (i : Nat) p, ps[i]? = some p → GdM n p.2 ∧ p.2.lay = lp ∧ ∀ v, v ∈ p.2.shown ∨ v ∈ p.2.sure → Bk K H v
  st : ∀ (i : Nat) p, ps[i]? = some p → DL ∉ fpU p.1 ∧ ML ∉ fpU p.1 ∧ lp ∉ fpU p.1
  dj : ∀ (i j : Nat) p q, ps[i]? = some p → ps[j]? = some q → i ≠ j → ∀ x ∈ fpU p.1, x ∉ fpU q.1
theorem Sys.mono {K : PySem.W.Frag} {C CL : Addr} {L : Lay} {n : Nat} {H H' : Hp} {DL ML lp : Addr} {ps : List (UN × DevM)} (s : Same H H') (h : Sys K C CL L n H DL ML lp ps) : Sys K C CL L n H' DL ML lp ps :=
  ⟨s _ _ h.dl, s _ _ h.ml, h.ne, h.lay.mono s, fun i p hp => (h.at_ i p hp).frame (ms := []) (ExL.of s) (fun _ _ z => nomatch z) (Keeps.of s),
    fun i p hp => ⟨(h.gd i p hp).1, (h.gd i p hp).2.1, fun v hv => ((h.gd i p hp).2.2 v hv).keeps (Keeps.of s)⟩, h.st, h.dj⟩
theorem LayAt.ex {CL : Addr} {L : Lay} {H H' : Hp} {lp : Addr} {ms : List Addr} (h : LayAt CL L H lp) (e : ExL ms H H') (n : lp ∉ ms) : LayAt CL L H' lp := by
  obtain ⟨dx, fs, h1, h2⟩ := h
  exact ⟨dx, fs, e _ _ n h1, h2⟩
theorem Sys.step {K : PySem.W.Frag} {C CL : Addr} {L : Lay} {n : Nat} {H H' : Hp} {DL ML lp : Addr} {ps : List (UN × DevM)} {i : Nat} {u u' : UN} {m m' : DevM} (h : Sys K C CL L n H DL ML lp ps) (hi : ps[i]? = some (u, m))
    (e : ExL (fpU u) H H') (k : Keeps H H') (hU : UAt C H' u' m') (ed : u'.d = u.d) (em : u'.md = u.md) (nw : ∀ x ∈ fpU u', x ∈ fpU u ∨ H x = none) (g : GdM n m') (l : m'.lay = lp) (b : ∀ v, v ∈ m'.shown ∨ v ∈ m'.sure → Bk K H' v) :
    Sys K C CL L n H' DL ML lp (ps.set i (u', m')) := by
  obtain ⟨s1, s2, s3⟩ := h.st i _ hi
  have hl := (List.getElem?_eq_some_iff.mp hi).1
  have live : ∀ (j : Nat) p, ps[j]? = some p → ∀ x ∈ fpU p.1, H x ≠ none := fun j p hp => (h.at_ j p hp).live
  have sp : ∀ (j : Nat) p, (ps.set i (u', m'))[j]? = some p → (j = i ∧ p = (u', m')) ∨ (j ≠ i ∧ ps[j]? = some p) := fun j p hp => by
    by_cases c : j = i
    · subst c
      rw [List.getElem?_set_self hl] at hp
      cases hp
      exact .inl ⟨rfl, rfl⟩
    · rw [List.getElem?_set_ne (fun z => c z.symm)] at hp
      exact .inr ⟨c, hp⟩
  have em1 : ∀ f : UN → Addr, f u' = f u → ((ps.set i (u', m')).map fun p => V.ref (f p.1)) = ps.map fun p => V.ref (f p.1) := fun f hf => by
    refine List.ext_getElem? fun j => ?_
    rw [List.getElem?_map, List.getElem?_map]
    by_cases c : j = i
    · subst c
      rw [List.getElem?_set_self hl, hi]
      show some (V.ref (f u')) = some (V.ref (f u))
      rw [hf]
    · rw [List.getElem?_set_ne (fun z => c z.symm)]
  refine ⟨?_, ?_, h.ne, h.lay.ex e s3, fun j p hp => ?_, fun j p hp => ?_, fun j p hp => ?_, fun j1 j2 p q hp hq hn x hx hx2 => ?_⟩
  · rw [em1 (·.d) ed]
    exact e _ _ s1 h.dl
  · rw [em1 (·.md) em]
    exact e _ _ s2 h.ml
  · rcases sp j p hp with ⟨_, rfl⟩ | ⟨c, hp⟩
    · exact hU
    · exact (h.at_ j p hp).frame e (fun x hx => h.dj j i p _ hp hi c x hx) k
  · rcases sp j p hp with ⟨_, rfl⟩ | ⟨c, hp⟩
    · exact ⟨g, l, b⟩
    · obtain ⟨g1, g2, g3⟩ := h.gd j p hp
      exact ⟨g1, g2, fun v hv => (g3 v hv).keeps k⟩
  · rcases sp j p hp with ⟨_, rfl⟩ | ⟨c, hp⟩
    · obtain ⟨dx, fs, hp0, _⟩ := h.lay
      exact ⟨fun z => (nw _ z).elim s1 (by rw [h.dl]; exact fun z => nomatch z), fun z => (nw _ z).elim s2 (by rw [h.ml]; exact fun z => nomatch z), fun z => (nw _ z).elim s3 (by rw [hp0]; exact fun z => nomatch z)⟩
    · exact h.st j p hp
  · rcases sp j1 p hp with ⟨e1, rfl⟩ | ⟨c1, hp⟩
    · rcases sp j2 q hq with ⟨e2, rfl⟩ | ⟨c2, hq⟩
      · exact hn (e1.trans e2.symm)
      · exact (nw x hx).elim (fun z => h.dj i j2 _ q hi hq (fun z => c2 z.symm) x z hx2) (live j2 q hq x hx2)
    · rcases sp j2 q hq with ⟨e2, rfl⟩ | ⟨c2, hq⟩
      · exact (nw x hx2).elim (fun z => h.dj j1 i p _ hp hi c1 x hx z) (live j1 p hp x hx)
      · exact h.dj j1 j2 p q hp hq hn x hx hx2
theorem Sys.add {K : PySem.W.Frag} {C CL : Addr} {L : Lay} {n : Nat} {H H' : Hp} {DL ML lp : Addr} {ps : List (UN × DevM)} {u : UN} {m : DevM} (h : Sys K C CL L n H DL ML lp ps)
    (e : ExL [DL, ML] H H') (k : Keeps H H') (hU : UAt C H' u m) (nw : ∀ x ∈ fpU u, H x = none) (g : GdM n m) (l : m.lay = lp) (b : ∀ v, v ∈ m.shown ∨ v ∈ m.sure → Bk K H' v)
    (hd : H' DL = some (.lst ((ps.map fun p => .ref p.1.d) ++ [.ref u.d]))) (hm : H' ML = some (.lst ((ps.map fun p => .ref p.1.md) ++ [.ref u.md]))) (lx : lp ≠ DL ∧ lp ≠ ML) : Sys K C CL L n H' DL ML lp (ps ++ [(u, m)]) := by
  have live : ∀ (j : Nat) p, ps[j]? = some p → ∀ x ∈ fpU p.1, H x ≠ none := fun j p hp => (h.at_ j p hp).live
  have sp : ∀ (j : Nat) p, (ps ++ [(u, m)])[j]? = some p → ps[j]? = some p ∨ (j = ps.length ∧ p = (u, m)) := fun j p hp => by
    rcases Nat.lt_or_ge j ps.length with c | c
    · rw [List.getElem?_append_left c] at hp
      exact .inl hp
    · rw [List.getElem?_append_right c] at hp
      have hj := (List.getElem?_eq_some_iff.mp hp).1
      have j0 : j - ps.length = 0 := by simpa using hj
      rw [j0] at hp
      cases hp
      exact .inr ⟨by omega, rfl⟩
  obtain ⟨dx, fs, hp0, hF⟩ := h.lay
  refine ⟨by rw [hd, List.map_append]; rfl, by rw [hm, List.map_append]; rfl, h.ne, h.lay.ex e (by simp only [List.mem_cons, List.not_mem_nil, or_false, not_or]; exact lx), fun j p hp => ?_, fun j p hp => ?_, fun j p hp => ?_, fun j1 j2 p q hp hq hn x hx hx2 => ?_⟩
  · rcases sp j p hp with hp | ⟨_, rfl⟩
    · obtain ⟨s1, s2, _⟩ := h.st j p hp
      exact (h.at_ j p hp).frame e (fun x hx => by
        simp only [List.mem_cons, List.not_mem_nil, or_false, not_or]
        exact ⟨fun z => s1 (z ▸ hx), fun z => s2 (z ▸ hx)⟩) k
    · exact hU
  · rcases sp j p hp with hp | ⟨_, rfl⟩
    · obtain ⟨g1, g2, g3⟩ := h.gd j p hp
      exact ⟨g1, g2, fun v hv => (g3 v hv).keeps k⟩
    · exact ⟨g, l, b⟩
  · rcases sp j p hp with hp | ⟨_, rfl⟩
    · exact h.st j p hp
    · have n1 : ∀ {x : Addr} {o : HO}, H x = some o → x ∉ fpU u := fun q z => by rw [nw _ z] at q; cases q
      exact ⟨n1 h.dl, n1 h.ml, n1 hp0⟩
  · rcases sp j1 p hp with hp | ⟨e1, rfl⟩
    · rcases sp j2 q hq with hq | ⟨e2, rfl⟩
      · exact h.dj j1 j2 p q hp hq hn x hx hx2
      · exact live j1 p hp x hx (nw x hx2)
    · rcases sp j2 q hq with hq | ⟨e2, rfl⟩
      · exact live j2 q hq x hx2 (nw x hx)
      · exact hn (e1.trans e2.symm)
theorem step_bk {n : Nat} {m : DevM} (h : GdM n m) {kd a num : Int} {v x : V} (hx : x ∈ (stepF m kd a num v).shown ∨ x ∈ (stepF m kd a num v).sure) (a0 : 0 ≤ a) (a1 : a < n) : x ∈ m.shown ∨ x ∈ m.sure ∨ x = v := by
  obtain ⟨e1, e2, e3, e4⟩ := takeF_lists m
  unfold stepF at hx
  split at hx
  · have c : (cutF m num).shown = m.shown ∧ (cutF m num).sure = m.sure := by
      unfold cutF
      split <;> exact ⟨rfl, rfl⟩
    rw [c.1, c.2] at hx
    exact hx.imp id .inl
  split at hx
  · unfold barrierF at hx
    split at hx
    · rw [e1, e2] at hx
      exact hx.imp id .inl
    · rename_i o
      have o' : (takeF m).off = false := by simpa using o
      have c := h.take.co o'
      rw [e1, e2, e3] at c
      dsimp only at hx
      rw [e2, c] at hx
      exact hx.elim .inl .inl
  · unfold writeF at hx
    dsimp only at hx
    rw [putB_in a0 (by rw [h.ls]; exact a1), e1] at hx
    rcases hx with hx | hx
    · exact (List.mem_or_eq_of_mem_set hx).imp id .inr
    · exact .inr (.inl hx)
theorem step_lay {m : DevM} {kd a num : Int} {v : V} : (stepF m kd a num v).lay = m.lay := by
  obtain ⟨e1, e2, e3, e4⟩ := takeF_lists m
  unfold stepF
  split
  · unfold cutF
    split <;> rfl
  split
  · unfold barrierF
    split <;> exact e4
  · exact e4
theorem step_wait {m : DevM} {kd a num : Int} {v : V} : (stepF m kd a num v).wait.length ≤ m.wait.length + 1 := by
  obtain ⟨e1, e2, e3, e4⟩ := takeF_lists m
  unfold stepF
  split
  · unfold cutF
    split <;> exact Nat.le_succ _
  split
  · unfold barrierF
    split
    · rw [e3]; exact Nat.le_succ _
    · exact Nat.zero_le _
  · show (if (takeF m).off = true then m.wait else m.wait ++ [(a, v)]).length ≤ _
    split
    · exact Nat.le_succ _
    · rw [List.length_append]; exact Nat.le_refl _

/-! ### dict displays with texts as keys -/
def kP3 (x y : V) (Q : List (V × V) → Hp → Prop) : List (V × V) → Hp → Prop := fun ps H3 => Q ((x, y) :: ps) H3
def kP2 (x : V) (r : List (TE × TE)) (σ : L2.St) (Q : List (V × V) → Hp → Prop) : V → Hp → Prop := fun y H2 => tPairs r σ H2 (kP3 x y Q)
def kP1 (tv : TE) (r : List (TE × TE)) (σ : L2.St) (Q : List (V × V) → Hp → Prop) : V → Hp → Prop := fun x H1 => tv σ H1 (kP2 x r σ Q)
def kDisp (p : Addr) (Q : V → Hp → Prop) : List (V × V) → Hp → Prop := fun ps H2 => H2 p = some (.dK []) ∧ ∃ kvs : List (Key × V), ps = kvs.map (fun kv => (kV kv.1, kv.2)) ∧ kvs.length ≤ 15 ∧ Q (.ref p) (upd H2 p (.dK (mergeK [] kvs)))
theorem r_disp {trs : List (TE × TE)} {σ : L2.St} {H : Hp} {Q : V → Hp → Prop} (h : ∀ p, H p = none → (fun H' => tPairs trs σ H' (kDisp p Q)) (upd H p (.dK []))) : tDisp trs σ H Q := h
theorem r_pcons {tk tv : TE} {r : List (TE × TE)} {σ : L2.St} {H : Hp} {Q : List (V × V) → Hp → Prop} (h : tk σ H (kP1 tv r σ Q)) : tPairs ((tk, tv) :: r) σ H Q := h
theorem r_pnil {σ : L2.St} {H : Hp} {Q : List (V × V) → Hp → Prop} (h : Q [] H) : tPairs [] σ H Q := h
theorem r_kp1 {x : V} {tv : TE} {r : List (TE × TE)} {σ : L2.St} {H : Hp} {Q : List (V × V) → Hp → Prop} (h : tv σ H (kP2 x r σ Q)) : kP1 tv r σ Q x H := h
theorem r_kp2 {x y : V} {r : List (TE × TE)} {σ : L2.St} {H : Hp} {Q : List (V × V) → Hp → Prop} (h : tPairs r σ H (kP3 x y Q)) : kP2 x r σ Q y H := h
theorem r_kp3 {x y : V} {ps : List (V × V)} {H : Hp} {Q : List (V × V) → Hp → Prop} (h : Q ((x, y) :: ps) H) : kP3 x y Q ps H := h
theorem r_kdisp {p : Addr} {kvs : List (Key × V)} {ps : List (V × V)} {H : Hp} {Q : V → Hp → Prop} (h : H p = some (.dK [])) (e : ps = kvs.map (fun kv => (kV kv.1, kv.2))) (hl : kvs.length ≤ 15) (em : mergeK [] kvs = kvs) (q : ∀ H', upd H p (.dK kvs) = H' → H' p = some (.dK kvs) → Q (.ref p) H') : kDisp p Q ps H :=
  ⟨h, kvs, e, hl, by rw [em]; exact q _ rfl upd_same⟩
local macro_rules | `(tactic| walk_at "rd1") => `(tactic| with_reducible (first | refine' Sg.r_pcons ?_ | refine' Sg.r_pnil ?_ | refine' Sg.r_kp1 ?_ | refine' Sg.r_kp2 ?_ | refine' Sg.r_kp3 ?_))
theorem putK_new {kvs : List (Key × V)} {t : Str} {v : V} (h : valV kvs (.inr t) = none) : putK kvs (.inr t) v = kvs ++ [(.inr t, v)] := by
  unfold putK
  rw [valV_any, h]
  rfl
theorem put3 {a b c d : V} : putK (md3 a b c) (.inr "fuse") d = md4 a b c d := putK_new (by rw [md3, val_ne (by decide +kernel), val_ne (by decide +kernel), val_ne (by decide +kernel)]; rfl)
theorem put4 {a b c d e : V} : putK (md4 a b c d) (.inr "cut") e = mdR a b c d e := putK_new (by rw [md4, val_ne (by decide +kernel), val_ne (by decide +kernel), val_ne (by decide +kernel), val_ne (by decide +kernel)]; rfl)
def kS (t : Str) : Key := .inr t
theorem merge3 {a b c : V} : mergeK [] (md3 a b c) = md3 a b c := by
  have e1 : putK ([] : List (Key × V)) (kS "seen") a = [(kS "seen", a)] := putK_new rfl
  have e2 : putK [(kS "seen", a)] (kS "sure") b = [(kS "seen", a), (kS "sure", b)] := putK_new (val_ne (by decide +kernel))
  have e3 : putK [(kS "seen", a), (kS "sure", b)] (kS "waiting") c = [(kS "seen", a), (kS "sure", b), (kS "waiting", c)] := putK_new ((val_ne (by decide +kernel)).trans (val_ne (by decide +kernel)))
  show putK (putK (putK [] (kS "seen") a) (kS "sure") b) (kS "waiting") c = _
  rw [e1, e2, e3]
  rfl
theorem merge5 {a b c d e : V} : mergeK [] (mdR a b c d e) = mdR a b c d e := by
  show putK (putK (mergeK [] (md3 a b c)) (kS "fuse") d) (kS "cut") e = _
  rw [merge3]
  have e1 := put3 (a := a) (b := b) (c := c) (d := d)
  have e2 := put4 (a := a) (b := b) (c := c) (d := d) (e := e)
  show putK (putK (md3 a b c) (.inr "fuse") d) (.inr "cut") e = _
  rw [e1, e2]

theorem r_listG {tg : TGen} {σ : L2.St} {H : Hp} {Q : V → Hp → Prop} (h : tg σ H fun out H2 => ∀ p, H2 p = none → Q (.ref p) (upd H2 p (.lst out))) : tListG tg σ H Q := h
/-- [e for i in range if b i], its items anything -/
theorem r_lcRX {lo : Int} {n slot : Nat} {vs : List Nat} {tt : TT} {te : TE} {σ : L2.St} {H : Hp} {Q : V → Hp → Prop} (b : Nat → Bool) (P : Nat → List V → Hp → Prop) (hn : n ≤ 100000) (hv : vs = [slot])
    (h0 : P 0 [] H)
    (ht : ∀ (i : Nat) (H' : Hp), i < n → L2.Same H H' → ∀ R : Bool → Hp → Prop, R (b i) H' → tt ((wipe σ vs).set slot (some (.int (lo + i)))) H' R)
    (hk : ∀ (i : Nat) (acc : List V) (H' : Hp), i < n → b i = false → P i acc H' → P (i + 1) acc H')
    (hs : ∀ (i : Nat) (acc : List V) (H0 H' : Hp), i < n → b i = true → L2.Same H H0 → P i acc H0 → L2.Same H0 H' → ∀ R : V → Hp → Prop,
      (∀ (v : V) (H'' : Hp), L2.Same H' H'' → (∀ D, H0 D = none → H' D = some (.lst acc) → P (i + 1) (acc ++ [v]) (hid D H'')) → R v H'') → te ((wipe σ vs).set slot (some (.int (lo + i)))) H' R)
    (q : ∀ (H' : Hp) (l : Addr) (acc : List V), L2.Same H H' → H l = none → H' l = some (.lst acc) → acc.length ≤ n → P n acc (hid l H') → Q (.ref l) H') :
    kLc (gName slot) tt te vs σ Q (Itr lo n) H := by
  intro L hL
  have hw : ∀ (τ : L2.St) (x : V), wipe (τ.set slot (some x)) [slot] = wipe τ [slot] := fun τ x => by simp [wipe, List.set_set]
  have hw2 : wipe (wipe σ vs) vs = wipe σ vs := by subst hv; simp [wipe, List.set_set]
  refine lc_range (fun i H' => ∃ acc : List V, acc.length ≤ i ∧ H' L = some (.lst acc) ∧ L2.Same H H' ∧ P i acc (hid L H')) ⟨[], Nat.le_refl _, upd_same, fun b o e => by rw [upd_ne (ne_of_none e hL)]; exact e, by rw [hid_upd, hid_none hL]; exact h0⟩ ?_ ?_
  · rintro i H' hi ⟨acc, el, eL, s, hp⟩
    refine ⟨?_, ?_⟩
    · subst hv
      rw [hw]
      exact hw2
    · show tt ((wipe σ vs).set slot (some (.int (lo + i)))) H' _
      refine ht i H' hi s _ ?_
      refine to_ite (fun hb => ?_) (fun hb => ?_)
      · refine hs i acc (hid L H') H' hi hb (same_hid s hL) hp hid_same _ fun v H'' s2 hP => ⟨acc, s2 _ _ eL, ?_, acc ++ [v], ?_, upd_same, ?_, ?_⟩
        · rw [sz]
          omega
        · rw [List.length_append]
          exact Nat.succ_le_succ el
        · intro b o e
          rw [upd_ne (ne_of_none e hL)]
          exact s2 _ _ (s _ _ e)
        · rw [hid_upd]
          exact hP L hid_at eL
      · exact ⟨acc, Nat.le_succ_of_le el, eL, s, hk i acc _ hi (by simpa using hb) hp⟩
  · rintro H' ⟨acc, el, eL, s, hp⟩
    exact q H' L acc s hL eL el hp
/-- pairs of an int and a block, as data -/
theorem pairs_dp {K : PySem.W.Frag} {H : Hp} : ∀ {ps : List (Int × V)}, (∀ p ∈ ps, Bk K H p.2) → ∃ ds, (∀ d ∈ ds, Fl 4 d) ∧ ∀ rs : List Addr, PairsAt H rs ps → DpAll K H (rs.map V.ref) ds
  | [], _ => ⟨[], (fun d hd => by cases hd), fun rs h => by cases h; exact .nil⟩
  | p :: ps, h => by
    obtain ⟨d, h1, h2, _⟩ := h p (List.mem_cons_self ..)
    obtain ⟨ds, g1, g2⟩ := pairs_dp (ps := ps) (fun v hv => h v (List.mem_cons_of_mem _ hv))
    refine ⟨.tuple [.int p.1, d] :: ds, fun e he => ?_, fun rs hr => ?_⟩
    · rcases List.mem_cons.mp he with rfl | he
      · exact Fl.tup (fun e he => by
          simp only [List.mem_cons, List.not_mem_nil, or_false] at he
          rcases he with rfl | rfl
          · exact Fl.int _ _
          · exact h2)
      · exact g1 _ he
    · cases hr with
      | cons r t => exact .cons (.tup (.of r) (.cons (.int _) (.cons h1 .nil))) (g2 _ t)
theorem r_neP {K : PySem.W.Frag} {H : Hp} {a b : Addr} {rs ts : List Addr} {ps : List (Int × V)} {Q : V → Hp → Prop} (ha : SqL K H a (rs.map V.ref)) (hb : SqL K H b (ts.map V.ref)) (h1 : PairsAt H rs ps) (h2 : PairsAt H ts ps) (h : ∀ p ∈ ps, Bk K H p.2) (q : Q (.bl false) H) : rNeD K (.ref a) (.ref b) H Q := by
  obtain ⟨ds, g1, g2⟩ := pairs_dp h
  have f := Fl.lst g1
  refine r_ned (.lst ha (g2 _ h1)) (.lst hb (g2 _ h2)) f.shaped f.shaped ?_
  rw [f.self]
  exact q
theorem wrt_mem {xs : List V} {n : Nat} {p : Int × V} (h : p ∈ wrt xs n) (hn : n ≤ xs.length) : p.2 ∈ xs := by
  unfold wrt at h
  obtain ⟨i, hi, rfl⟩ := List.mem_map.mp h
  have := List.mem_range.mp (List.mem_filter.mp hi).1
  show xs.getD i .non ∈ xs
  rw [List.getD_eq_getElem?_getD, List.getElem?_eq_getElem (by omega)]
  exact List.getElem_mem _
theorem pairs_hid {H : Hp} {D : Addr} {rs : List Addr} {ps : List (Int × V)} {xs : List V} (h : PairsAt H rs ps) (hd : H D = some (.lst xs)) : PairsAt (hid D H) rs ps := by
  induction h with
  | nil => exact .nil
  | cons r _ ih => exact .cons (by rw [hid_ne (ne_of r hd (by intro z; cases z))]; exact r) ih
theorem getD_at {xs : List V} {i : Nat} (h : i < xs.length) : xs[i]? = some (xs.getD i .non) := by
  rw [List.getD_eq_getElem?_getD, List.getElem?_eq_getElem h]
  rfl

def spLawK (K : PySem.W.Frag) : Sp := fun vs H Q _ => ∃ (a : Addr) (ns : List Int), vs = [.ref a] ∧ Scr K H a ns ∧ ns.length ≤ 63 ∧ ∀ H', Q (.bl true) H'
theorem i_rowS {K : PySem.W.Frag} {args_ : List V} {H H0 : Hp} {Q : V → Hp → Prop} {E : XK} {a : Addr} {ns : List Int} {k : Int} (ev : args_ = [.ref a, .int k]) (hS : Scr K H0 a ns) (hk : Keeps H0 H) (h63 : ns.length ≤ 63) (k0 : 0 ≤ k) (k1 : k ≤ 1000) (q : ∀ z : Int, 0 ≤ z → Q (.int z) H) : sp_row K args_ H Q E :=
  ⟨a, ns, k, ev, hS H hk, h63, k0, k1, q⟩
theorem i_fork {C CL : Addr} {args_ : List V} {H : Hp} {Q : V → Hp → Prop} {E : XK} {d su sh un : Addr} {m : DevM} {L : Lay} (ev : args_ = [.ref d]) (hD : DevQ C H d su sh un m) (hL : LayAt CL L H m.lay)
    (q : ∀ (H' : Hp) (d' su' sh' un' : Addr), Same H H' → DevQ C H' d' su' sh' un' m → (∀ x ∈ [d', su', sh', un'], H x = none) → Q (.ref d') H') : sp_fork C CL args_ H Q E :=
  ⟨_, d, m, L, ev, hD.toIn, hL, fun H' d' h => by
    obtain ⟨s0, n0, dx, fs, su', sh', un', us, h1, h2, h3, h4, h5, h6, h7, h8, h9, h10, h11, h12⟩ := h
    refine q H' d' su' sh' un' s0 ⟨dx, fs, us, h1, h2, h6, h7, h8, h9, h10, h11, h12⟩ fun x hx => ?_
    simp only [List.mem_cons, List.not_mem_nil, or_false] at hx
    rcases hx with rfl | rfl | rfl | rfl
    · exact n0
    · exact h3
    · exact h4
    · exact h5⟩
local macro_rules | `(tactic| walk_at "ca1") => `(tactic| with_reducible (refine' Sg.i_fork ?ev ?hD ?hL ?_; (case ev => (with_unfolding_all rfl)); (case hD => assumption); (case hL => assumption); intros))
local macro_rules | `(tactic| walk_at "ca1") => `(tactic| with_reducible (refine' Sg.i_rowS ?ev ?hS ?hk ?h63 ?k0 ?k1 ?_; (case ev => (with_unfolding_all rfl)); (case hS => assumption); (case hk => assumption); (case h63 => assumption); (case k0 => omega); (case k1 => omega); intros))
theorem ok_law (T : Txt K mg) : FnOk P w K mg base CX0 5 T.a_law T.fd_law ["script"] (spLawK K) := by
  refine T.F_law.ok sc_law (fun vs H Q E h => ?_) (fun cdv A outer s H vs Q E hr h => ?_)
  · obtain ⟨a, ns, rfl, _⟩ := h
    rfl
  · refine ⟨_, (pss_cons (ps_set (i := 1) sc_law.nd rfl (Or.inl rfl) (pe_call (ok_law_layout T) (hr.mono (by decide)) rfl T.m_law_layout T.F_law_layout.kp T.b_law_layout .nil pass0 (pa_cons (pe_call (ok_law_row T) (hr.mono (by decide)) rfl T.m_law_row T.F_law_row.kp T.b_law_row .nil pass0 (pa_cons (pv 0) (pa_cons pe_int pa_nil))) pa_nil)))
       (pss_cons (ps_set (i := 2) sc_law.nd rfl (Or.inl rfl) (pe_fld (pv 1) rfl))
       (pss_cons (ps_asg (pe_call (ok_law_digits T) (hr.mono (by decide)) rfl T.m_law_digits T.F_law_digits.kp T.b_law_digits .nil pass0 (pa_cons (pe_call (ok_law_row T) (hr.mono (by decide)) rfl T.m_law_row T.F_law_row.kp T.b_law_row .nil pass0 (pa_cons (pv 0) (pa_cons pe_int pa_nil))) (pa_cons (pe_lst (pa_cons pe_int (pa_cons pe_int pa_nil))) pa_nil))) (pg_unl (by rfl) (pgs_cons (pg_name (i := 3) sc_law.nd rfl (Or.inl rfl)) (pgs_cons (pg_name (i := 4) sc_law.nd rfl (Or.inl rfl)) pgs_nil))))
       (pss_cons (ps_set (i := 5) sc_law.nd rfl (Or.inl rfl) (pe_op op_rep (pe_lst (pa_cons pe_non pa_nil)) (pv 2)))
       (pss_cons (ps_set (i := 6) sc_law.nd rfl (Or.inl rfl) (pe_lst (pa_cons (pe_make T.M_Device (ok_Device___init T) (hr.mono (by decide)) rfl T.m_Device T.b_Device___init_2 T.v_Device___init_2 pass0 (pa_cons (pv 1) pa_nil)) pa_nil)))
       (pss_cons (ps_set (i := 7) sc_law.nd rfl (Or.inl rfl) (pe_lst (pa_cons (pe_disp (pps_cons pe_str (pe_callTy c_list (by rfl) T.n_list (by decide +kernel) (pa_cons (pv 5) pa_nil)) (pps_cons pe_str (pe_callTy c_list (by rfl) T.n_list (by decide +kernel) (pa_cons (pv 5) pa_nil)) (pps_cons pe_str pe_int (pps_cons pe_str (pe_un un_neg pe_int) (pps_cons pe_str pe_bl pps_nil))))) rfl rfl (by decide) (by decide)) pa_nil)))
       (pss_cons (ps_for PassesOwn.never rfl (pi_range1 rfl T.n_range (pa_cons pe_int pa_nil)) (pg_name (i := 8) sc_law.nd rfl (Or.inl rfl))
       (pss_cons (ps_set (i := 9) sc_law.nd rfl (Or.inl rfl) (pe_call (ok_law_row T) (hr.mono (by decide)) rfl T.m_law_row T.F_law_row.kp T.b_law_row .nil pass0 (pa_cons (pv 0) (pa_cons (pe_op op_add pe_int (pv 8)) pa_nil))))
       (pss_cons (ps_asg (pe_call (ok_law_digits T) (hr.mono (by decide)) rfl T.m_law_digits T.F_law_digits.kp T.b_law_digits .nil pass0 (pa_cons (pv 9) (pa_cons (pe_lst (pa_cons pe_int (pa_cons pe_int (pa_cons pe_int (pa_cons (pv 2) (pa_cons (pv 2) (pa_cons pe_int (pa_cons (pe_op op_pow pe_int pe_int) pa_nil)))))))) pa_nil))) (pg_unl (by rfl) (pgs_cons (pg_name (i := 10) sc_law.nd rfl (Or.inl rfl)) (pgs_cons (pg_name (i := 11) sc_law.nd rfl (Or.inl rfl)) (pgs_cons (pg_name (i := 12) sc_law.nd rfl (Or.inl rfl)) (pgs_cons (pg_name (i := 13) sc_law.nd rfl (Or.inl rfl)) (pgs_cons (pg_name (i := 14) sc_law.nd rfl (Or.inl rfl)) (pgs_cons (pg_name (i := 15) sc_law.nd rfl (Or.inl rfl)) (pgs_cons (pg_name (i := 16) sc_law.nd rfl (Or.inl rfl)) pgs_nil)))))))))
       (C8.pss_cut (ps_if (pt_cmpR op_eq (pv 12) pe_int (nomark _))
       (pss_one (ps_set (i := 13) sc_law.nd rfl (Or.inl rfl) (pe_op op_mod (pv 13) pe_int)))
       pss_nil)
       (C8.pss_cut (ps_if (PW.pt (pw_and (pt_cmpR op_eq (pv 11) pe_int (nomark _)) (pw_and (pt_cmpR op_eq (pv 4) pe_int (nomark _)) (pw_and1 (pt_cmpR op_gt (pe_op op_mod (pv 8) pe_int) pe_int (nomark _))))))
       (pss_one (ps_set (i := 11) sc_law.nd rfl (Or.inl rfl) pe_int))
       pss_nil)
       (C8.pss_cut (ps_if (pt_cmpR op_eq (pv 8) (pv 3) (nomark _))
       (pss_cons (ps_set (i := 17) sc_law.nd rfl (Or.inl rfl) (pe_ix ix_list (pv 7) pe_int (fun _ _ => rfl)))
       (pss_cons (ps_expr (pe_bm PySem.F.plainAttrs_list PySem.F.slot_list_append PySem.F.type_list_append mt_append (pv 6) (pa_cons (pe_meth0 (pe_ix ix_list (pv 6) pe_int (fun _ _ => rfl)) T.cl_Device T.me_Device_fork (ok_Device_fork T) (hr.mono (by decide)) T.b_Device_fork .nil pass0) pa_nil)))
       (pss_cons (ps_set (i := 18) sc_law.nd rfl (Or.inl rfl) (pe_disp (pps_cons pe_str (pe_callTy c_list (by rfl) T.n_list (by decide +kernel) (pa_cons (pe_dget (hu_of hr) (pv 17) pe_str (fun _ _ => rfl)) pa_nil)) (pps_cons pe_str (pe_callTy c_list (by rfl) T.n_list (by decide +kernel) (pa_cons (pe_dget (hu_of hr) (pv 17) pe_str (fun _ _ => rfl)) pa_nil)) (pps_cons pe_str (pe_dget (hu_of hr) (pv 17) pe_str (fun _ _ => rfl)) pps_nil))) rfl rfl (by decide) (by decide)))
       (pss_cons (ps_dput (hu_of hr) (pv 18) pe_str (pe_dget (hu_of hr) (pv 17) pe_str (fun _ _ => rfl)) rfl)
       (pss_cons (ps_dput (hu_of hr) (pv 18) pe_str (pe_dget (hu_of hr) (pv 17) pe_str (fun _ _ => rfl)) rfl)
       (pss_one (ps_expr (pe_bm PySem.F.plainAttrs_list PySem.F.slot_list_append PySem.F.type_list_append mt_append (pv 7) (pa_cons (pv 18) pa_nil)))))))))
       pss_nil)
       (pss_cons (ps_set (i := 10) sc_law.nd rfl (Or.inl rfl) (pe_op op_mod (pv 10) (pe_callB (c_len) (by rfl) T.n_len (by decide +kernel) (pa_cons (pv 6) pa_nil))))
       (pss_cons (ps_expr (pe_call (ok_law_step T) (hr.mono (by decide)) rfl T.m_law_step T.F_law_step.kp T.b_law_step .nil pass0 (pa_cons (pe_ix ix_list (pv 6) (pv 10) (fun _ _ => rfl)) (pa_cons (pe_ix ix_list (pv 7) (pv 10) (fun _ _ => rfl)) (pa_cons (pv 11) (pa_cons (pv 13) (pa_cons (pe_call (ok_law_block T) (hr.mono (by decide)) rfl T.m_law_block T.F_law_block.kp T.b_law_block .nil pass0 (pa_cons (pv 1) (pa_cons (pv 16) (pa_cons (pe_op op_add pe_int (pv 8)) pa_nil)))) (pa_cons (pv 15) pa_nil))))))))
       (pss_one (ps_for PassesOwn.never rfl (pi_range1 rfl T.n_range (pa_cons (pe_callB (c_len) (by rfl) T.n_len (by decide +kernel) (pa_cons (pv 6) pa_nil)) pa_nil)) (pg_name (i := 19) sc_law.nd rfl (Or.inl rfl))
       (pss_one (ps_if (pt_not (pt_val (pe_call (ok_law_agrees T) (hr.mono (by decide)) rfl T.m_law_agrees T.F_law_agrees.kp T.b_law_agrees .nil pass0 (pa_cons (pe_ix ix_list (pv 6) (pv 19) (fun _ _ => rfl)) (pa_cons (pe_ix ix_list (pv 7) (pv 19) (fun _ _ => rfl)) (pa_cons (pe_lst (pa_cons (pv 13) (pa_cons (pv 14) pa_nil))) pa_nil))))))
       (pss_one (ps_ret pe_bl))
       pss_nil))))))))))))
       (pss_cons (ps_for PassesOwn.never rfl (pi_range1 rfl T.n_range (pa_cons (pe_callB (c_len) (by rfl) T.n_len (by decide +kernel) (pa_cons (pv 6) pa_nil)) pa_nil)) (pg_name (i := 19) sc_law.nd rfl (Or.inl rfl))
       (pss_cons (ps_set (i := 20) sc_law.nd rfl (Or.inr rfl) (pe_dget (hu_of hr) (pe_ix ix_list (pv 7) (pv 19) (fun _ _ => rfl)) pe_str (fun _ _ => rfl)))
       (C8.pss_cut (ps_if (PW.pt (pw_or (pt_not (pt_val (pe_call (ok_law_agrees T) (hr.mono (by decide)) rfl T.m_law_agrees T.F_law_agrees.kp T.b_law_agrees .nil pass0 (pa_cons (pe_ix ix_list (pv 6) (pv 19) (fun _ _ => rfl)) (pa_cons (pe_ix ix_list (pv 7) (pv 19) (fun _ _ => rfl)) (pa_cons (pe_lc (own := [("at", 21)]) (g := gName 21) (tt := tYes) rfl sc_law.nd (pi_range1 rfl T.n_range (pa_cons (pv 2) pa_nil)) (blkOk_by (own := [("at", 21)]) (N := n_law) (sc := defScope s_law) (by decide +kernel)) (fun _ _ _ _ _ => pg_name (i := 21) sc_law.nd rfl (Or.inl rfl)) (fun _ _ _ _ _ => pts_nil) (fun _ _ _ _ _ => (pv 21))) pa_nil)))))) (pw_or1 (pt_cmpR (op_neD hr.units) (pe_meth0 (pe_ix ix_list (pv 6) (pv 19) (fun _ _ => rfl)) T.cl_Device T.me_Device_sure_blocks (ok_Device_sure_blocks T) (hr.mono (by decide)) T.b_Device_sure_blocks .nil pass0) (pe_dget (hu_of hr) (pe_ix ix_list (pv 7) (pv 19) (fun _ _ => rfl)) pe_str (fun _ _ => rfl)) (nomark _)))))
       (pss_one (ps_ret pe_bl))
       pss_nil)
       (pss_one (ps_if (pt_cmpR (op_neD hr.units) (pe_listG (pgen_meth0 (pe_ix ix_list (pv 6) (pv 19) (fun _ _ => rfl)) T.cl_Device T.me_Device_written_blocks (ok_Device_written_blocks T) (hr.mono (by decide)) T.b_Device_written_blocks .nil) passG noStop0 (hr.mono (by decide)) rfl T.n_list rfl) (pe_lc (own := [("at", 21)]) (g := gName 21)  rfl sc_law.nd (pi_range1 rfl T.n_range (pa_cons (pv 2) pa_nil)) (blkOk_by (own := [("at", 21)]) (N := n_law) (sc := defScope s_law) (by decide +kernel)) (fun _ _ _ _ _ => pg_name (i := 21) sc_law.nd rfl (Or.inl rfl)) (fun _ _ _ _ _ => pts_one (pt_cmp (pc_notN (pe_ix (ix_listK K rfl) (pv 20) (pv 21) (fun _ _ => rfl))) rfl)) (fun _ _ _ _ _ => (pe_tup (pa_cons (pv 21) (pa_cons (pe_ix (ix_listK K rfl) (pv 20) (pv 21) (fun _ _ => rfl)) pa_nil))))) (nomark _))
       (pss_one (ps_ret pe_bl))
       pss_nil)))))
       (pss_one (ps_ret pe_bl)))))))))), ?_⟩
    try dsimp only [cxOf, Cx.nox, Cx.wish]
    obtain ⟨a, ns, rfl, hS, h63, q⟩ := h
    have hS0 : SqL K H a (ns.map V.int) := hS H (Keeps.refl H)
    have clL := T.cl_Layout
    have naL := T.na_Layout_device_blocks
    have hK0 := Keeps.refl H
    walk_at "go"
    rename_i z0 z00 L H1 lp hC s1 nlp hL
    obtain ⟨dx, fs, hlp, F⟩ := id hL
    have lkd := F.dev
    have d0 := hC.d0
    have d1 := hC.d1
    have hK1 : Keeps H H1 := Keeps.of s1
    clear hK0 s1
    walk_at "go"
    rename_i z1 _ t1 nt1 J1 j1 _ mo mo0 mo1 of_ of0 of1 J2 t2 j2 _ _ t3 nt3 J3 j3 _ el nel J4 j4 g4 d J5 hDI DL nDL J6 j6 g6
    have s4 : Same H1 J4 := j1.trans (j2.trans (j3.trans j4))
    have hL4 := hL.mono s4
    have hK4 : Keeps H J4 := hK1.trans (Keeps.of s4)
    obtain ⟨s5, nd, dx5, fs5, su, sh, un, us, h1, h2, h3, h4, h5, h6, h7, h8, h9, h10, h11, h12⟩ := hDI
    have hD5 : DevQ T.A_Device J5 d su sh un (newM lp (List.replicate L.dev.toNat .non)) := ⟨dx5, fs5, us, h1, h2, h6, h7, h8, h9, h10, h11, h12⟩
    clear h1 h2 h9 h10 h11 h12 h6 h7 h8 s4 j1 j2 j3 j4 hL hlp hK1 nt1 nt3
    refine r_disp ?_
    walk_at "al"
    rename_i md nmd J7 j7 g7
    have hel := j7 _ _ (j6 _ _ (s5 _ _ g4))
    dsimp only
    walk_at "go"
    rename_i sn nsn J8 j8 g8 sr nsr J9 j9 g9
    refine r_kdisp (kvs := mdR (.ref sn) (.ref sr) (.int 0) (.int (-1)) (.bl false)) (j9 _ _ (j8 _ _ g7)) rfl (by show 5 ≤ 15; decide) merge5 ?_
    intro J10 hJ10 g10
    walk_at "go"
    rename_i ML nML J11 j11 g11
    have hSys : Sys K T.A_Device T.A_Layout L L.dev.toNat J11 DL ML lp [(⟨d, su, sh, un, md, sn, sr⟩, newM lp (List.replicate L.dev.toNat .non))] ∧ Keeps H J11 := by
      have md5 : J5 md = none := j6.free nmd
      have S9 : Same J5 J9 := j6.trans (j7.trans (j8.trans j9))
      have S10 : Same J5 J10 := Sg.Same.old S9 md5 hJ10
      have S11 : Same J5 J11 := S10.trans j11
      have hD11 : DevQ T.A_Device J11 d su sh un (newM lp (List.replicate L.dev.toNat .non)) := hD5.frame (fun x _ o q => S11 _ _ q) (Keeps.of S11)
      have m9 : J9 md = some (.dK []) := j9 _ _ (j8 _ _ g7)
      have on : ∀ {x : Addr} {xs : List V}, J9 x = some (.lst xs) → J11 x = some (.lst xs) := fun q => j11 _ _ (Sg.at_keep hJ10 q m9 (by intro z; cases z))
      have n11 := on (j9 _ _ g8)
      have r11 := on g9
      obtain ⟨_, _, _, q1, _, _, _, _, q9, q10, q11, _⟩ := id hD5
      have live : ∀ {x : Addr}, x ∈ [d, su, sh, un] → J5 x ≠ none := fun hx => by
        simp only [List.mem_cons, List.not_mem_nil, or_false] at hx
        rcases hx with rfl | rfl | rfl | rfl
        · rw [q1]; exact fun z => nomatch z
        · rw [q9]; exact fun z => nomatch z
        · rw [q10]; exact fun z => nomatch z
        · rw [q11]; exact fun z => nomatch z
      have S7 : Same J5 J7 := j6.trans j7
      have sn5 : J5 sn = none := S7.free nsn
      have sr5 : J5 sr = none := (S7.trans j8).free nsr
      have nsr' : sn ≠ sr := fun z => by rw [← z, g8] at nsr; cases nsr
      have out : ∀ {x : Addr}, J5 x = none → x ∉ [su, sh, un] := fun h z => live (List.mem_cons_of_mem _ z) h
      have hU : UAt T.A_Device J11 ⟨d, su, sh, un, md, sn, sr⟩ (newM lp (List.replicate L.dev.toNat .non)) := ⟨hD11, j11 _ _ g10, n11, r11, nodup7 hD11 (j11 _ _ g10) n11 r11 (out sn5) (out sr5) nsr'⟩
      have one : ∀ {i : Nat} {p : UN × DevM} {x : UN × DevM}, [x][i]? = some p → p = x := fun {i p x} h => by
        have hi := (List.getElem?_eq_some_iff.mp h).1
        have : i = 0 := by simpa using hi
        subst this
        cases h
        rfl
      have lf : ∀ x ∈ fpU ⟨d, su, sh, un, md, sn, sr⟩, x ≠ DL ∧ x ≠ ML ∧ x ≠ lp := fun x hx => by
        have l11 := hU.live x hx
        obtain ⟨dxL, fsL, hlp4, _⟩ := hL4
        have hDL : J11 DL = some (.lst [.ref d]) := on (j9 _ _ (j8 _ _ (j7 _ _ g6)))
        have hx10 : J10 x ≠ none := fun z => by
          have : ∀ y ∈ fpU ⟨d, su, sh, un, md, sn, sr⟩, J10 y ≠ none := fun y hy => by
            simp only [fpU, List.mem_cons, List.not_mem_nil, or_false] at hy
            have lv : ∀ {y : Addr}, J5 y ≠ none → J10 y ≠ none := fun {y} h => by
              cases e : J5 y with
              | none => exact absurd e h
              | some o => rw [S10 _ _ e]; exact fun z => nomatch z
            rcases hy with rfl | rfl | rfl | rfl | rfl | rfl | rfl
            · exact lv (live (by simp))
            · exact lv (live (by simp))
            · exact lv (live (by simp))
            · exact lv (live (by simp))
            · rw [g10]; exact fun z => nomatch z
            · rw [Sg.at_keep hJ10 (j9 _ _ g8) m9 (by intro z; cases z)]; exact fun z => nomatch z
            · rw [Sg.at_keep hJ10 g9 m9 (by intro z; cases z)]; exact fun z => nomatch z
          exact this x hx z
        refine ⟨fun z => ?_, fun z => hx10 (by rw [z]; exact nML), fun z => ?_⟩
        · simp only [fpU, List.mem_cons, List.not_mem_nil, or_false] at hx
          have dl5 := nDL
          rcases hx with h | h | h | h | h | h | h
          · exact live (x := x) (by simp [h]) (by rw [z]; exact dl5)
          · exact live (x := x) (by simp [h]) (by rw [z]; exact dl5)
          · exact live (x := x) (by simp [h]) (by rw [z]; exact dl5)
          · exact live (x := x) (by simp [h]) (by rw [z]; exact dl5)
          · rw [← h, z, g6] at nmd; cases nmd
          · rw [← h, z, j7 _ _ g6] at nsn; cases nsn
          · rw [← h, z, j8 _ _ (j7 _ _ g6)] at nsr; cases nsr
        · simp only [fpU, List.mem_cons, List.not_mem_nil, or_false] at hx
          have l5 := s5 _ _ hlp4
          rcases hx with h | h | h | h | h | h | h
          · rw [← h, z, hlp4] at nd; cases nd
          · rw [← h, z, hlp4] at h3; cases h3
          · rw [← h, z, hlp4] at h4; cases h4
          · rw [← h, z, hlp4] at h5; cases h5
          · rw [← h, z, l5] at md5; cases md5
          · rw [← h, z, l5] at sn5; cases sn5
          · rw [← h, z, l5] at sr5; cases sr5
      refine ⟨⟨on (j9 _ _ (j8 _ _ (j7 _ _ g6))), g11, fun z => ?_, (hL4.mono s5).mono S11, fun i p hp => ?_, fun i p hp => ?_, fun i p hp => ?_, fun i j p q hp hq hn => ?_⟩, hK4.trans (Keeps.of (s5.trans S11))⟩
      · rw [← z, Sg.at_keep hJ10 (j9 _ _ (j8 _ _ (j7 _ _ g6))) m9 (by intro z; cases z)] at nML
        cases nML
      · rw [one hp]
        exact hU
      · rw [one hp]
        exact ⟨⟨List.length_replicate, List.length_replicate, fun _ => rfl, fun k hk => by cases hk⟩, rfl, fun v hv => by rw [List.eq_of_mem_replicate (hv.elim id id)]; exact Bk.non⟩
      · rw [one hp]
        exact ⟨fun z => (lf _ z).1 rfl, fun z => (lf _ z).2.1 rfl, fun z => (lf _ z).2.2 rfl⟩
      · have hi := (List.getElem?_eq_some_iff.mp hp).1
        have hj := (List.getElem?_eq_some_iff.mp hq).1
        simp only [List.length_singleton] at hi hj
        omega
    obtain ⟨hSys, hK11⟩ := hSys
    clear hD5 h3 h4 h5 s5 hL4 hK4 g4 j6 g6 nd nmd j7 g7 hel nsn j8 g8 nsr j9 g9 hJ10 g10 nML j11 g11 nel nDL
    refine r_forR (fun i σ' H' => ∃ (ps : List (UN × DevM)) (v8 v9 v10 v11 v12 v13 v14 v15 v16 v17 v18 v19 : Option V), σ' = [some (.ref a), some (.ref lp), some (.int L.dev), some (.int mo), some (.int of_), some (.ref el), some (.ref DL), some (.ref ML), v8, v9, v10, v11, v12, v13, v14, v15, v16, v17, v18, v19, none, none] ∧ Sys K T.A_Device T.A_Layout L L.dev.toNat H' DL ML lp ps ∧ 1 ≤ ps.length ∧ ps.length ≤ i + 1 ∧ (∀ (j : Nat) p, ps[j]? = some p → p.2.wait.length ≤ i) ∧ Keeps H H') ⟨_, _, _, _, _, _, _, _, _, _, _, _, _, rfl, hSys, Nat.le_refl _, Nat.le_refl _, fun j p hp => ?_, hK11⟩ ?_ ?_
    · have hi := (List.getElem?_eq_some_iff.mp hp).1
      have : j = 0 := by simpa using hi
      subst this
      cases hp
      exact Nat.le_refl _
    · rintro i σ' H2 hi ⟨ps, v8, v9, v10, v11, v12, v13, v14, v15, v16, v17, v18, v19, rfl, hY, p1, p2, hw, hK⟩
      have hi40 : i < 40 := hi
      walk_at "go"
      rename_i row _ t1 nt1 K1 k1 _ wh wh0 wh1 kd kd0 kd1 nr nr0 nr1 ad ad0 ad1 ot ot0 ot1 nu nu0 nu1 rs rs0 rs1 K2 t2 k2 _ g2
      have hY2 := hY.mono (k1.trans k2)
      have hK2 := hK.trans (Keeps.of (k1.trans k2))
      clear hY k1 k2 g2 nt1 hK
      refine r_cut (fun σ' H' => ∃ ad' : Int, σ' = [some (.ref a), some (.ref lp), some (.int L.dev), some (.int mo), some (.int of_), some (.ref el), some (.ref DL), some (.ref ML), some (.int (0 + (i : Int))), some (.int row), some (.int wh), some (.int kd), some (.int nr), some (.int ad'), some (.int ot), some (.int nu), some (.int rs), v17, v18, v19, none, none] ∧ K2 = H' ∧ 0 ≤ ad' ∧ ad' < L.dev) ?_ ?_
      · walk_at "go"
        refine to_ite (fun hc => ?_) (fun hc => ?_)
        · walk_at "go"
          rename_i y hy y0 y1
          exact ⟨_, rfl, rfl, y0, by omega⟩
        · walk_at "go"
          exact ⟨_, rfl, rfl, ad0, ad1⟩
      clear ad0 ad1
      rintro σ' H' ⟨ad', rfl, rfl, ad0, ad1⟩
      refine r_cut (fun σ' H' => ∃ kd' : Int, σ' = [some (.ref a), some (.ref lp), some (.int L.dev), some (.int mo), some (.int of_), some (.ref el), some (.ref DL), some (.ref ML), some (.int (0 + (i : Int))), some (.int row), some (.int wh), some (.int kd'), some (.int nr), some (.int ad'), some (.int ot), some (.int nu), some (.int rs), v17, v18, v19, none, none] ∧ K2 = H') ?_ ?_
      · walk_at "go"
        refine to_ite (fun hc => ?_) (fun hc => ?_)
        · walk_at "go"
          refine to_ite (fun hc2 => ?_) (fun hc2 => ?_)
          · walk_at "go"
            rename_i y hy y0 y1
            refine to_ite (fun hc3 => ?_) (fun hc3 => ?_)
            · walk_at "go"
              exact ⟨_, rfl, rfl⟩
            · walk_at "go"
              exact ⟨_, rfl, rfl⟩
          · walk_at "go"
            exact ⟨_, rfl, rfl⟩
        · walk_at "go"
          exact ⟨_, rfl, rfl⟩
      rintro σ' H' ⟨kd', rfl, rfl⟩
      refine r_cut (fun σ' H' => ∃ (ps' : List (UN × DevM)) (v17' v18' : Option V), σ' = [some (.ref a), some (.ref lp), some (.int L.dev), some (.int mo), some (.int of_), some (.ref el), some (.ref DL), some (.ref ML), some (.int (0 + (i : Int))), some (.int row), some (.int wh), some (.int kd'), some (.int nr), some (.int ad'), some (.int ot), some (.int nu), some (.int rs), v17', v18', v19, none, none] ∧ Sys K T.A_Device T.A_Layout L L.dev.toNat H' DL ML lp ps' ∧ 1 ≤ ps'.length ∧ ps'.length ≤ i + 2 ∧ (∀ (j : Nat) p, ps'[j]? = some p → p.2.wait.length ≤ i) ∧ Keeps H H') ?_ ?_
      · walk_at "go"
        refine to_ite (fun hc => ?_) (fun hc => ?_)
        · obtain ⟨⟨u, m⟩, rest, rfl⟩ : ∃ p rest, ps = p :: rest := by
            cases ps with
            | nil => exact absurd p1 (by decide)
            | cons p r => exact ⟨p, r, rfl⟩
          have hml := hY2.ml
          have hdl := hY2.dl
          have hU := hY2.at_ 0 _ rfl
          obtain ⟨gG, gl, gb⟩ := hY2.gd 0 _ rfl
          obtain ⟨st1, st2, st3⟩ := hY2.st 0 _ rfl
          dsimp only at hU gG gl gb st1 st2 st3
          obtain ⟨hD, hd, hs, hr', nd⟩ := id hU
          obtain ⟨dxu, fsu, usu, hu1, Fu, _⟩ := id hD
          have nK := Fu.nK
          have hLy := hY2.lay
          rw [← gl] at hLy
          unfold mdK at hd
          rw [List.map_cons] at hml hdl
          dsimp only at hml hdl
          have rl : rest.length ≤ 40 := by
            have : rest.length + 1 ≤ i + 1 := p2
            omega
          walk_at "go"
          refine r_ixl (.of hml) (atI_nat (j := 0) rfl) ?_
          walk_at "go"
          refine r_ixl (.of hdl) (atI_nat (j := 0) rfl) ?_
          walk_at "go"
          rename_i H3 d' su' sh' un' s3 hD3 n3 H4 h4 g4
          have hdl3 := s3 _ _ hdl
          have hd4 := Sg.at_keep h4 (s3 _ _ hd) hdl3 (by intro z; cases z)
          have neD : ∀ {x : Addr}, x ∈ fpU u → x ≠ DL ∧ x ≠ ML := fun hx => ⟨fun z => st1 (by rw [← z]; exact hx), fun z => st2 (by rw [← z]; exact hx)⟩
          have hs4 : H4 u.sn = some (.lst m.shown) := by rw [← h4, upd_ne (neD (by simp [fpU])).1]; exact s3 _ _ hs
          have hr4 : H4 u.sr = some (.lst m.sure) := by rw [← h4, upd_ne (neD (by simp [fpU])).1]; exact s3 _ _ hr'
          have hml4 : H4 ML = some (.lst (V.ref u.md :: rest.map fun p => V.ref p.1.md)) := by rw [← h4, upd_ne (Ne.symm hY2.ne)]; exact s3 _ _ hml
          refine r_disp ?_
          walk_at "al"
          rename_i md' nmd' H5 s5 g5
          dsimp only
          have hd5 := s5 _ _ hd4
          have hs5 := s5 _ _ hs4
          have hr5 := s5 _ _ hr4
          walk_at "go"
          rename_i sn' nsn' H6 s6 g6 sr' nsr' H7 s7 g7
          refine r_kdisp (kvs := md3 (.ref sn') (.ref sr') (.int m.wait.length)) (s7 _ _ (s6 _ _ g5)) rfl (by show 3 ≤ 15; decide) merge3 ?_
          intro H8 h8 g8
          have mdn : u.md ≠ md' := fun z => by rw [← z, hd4] at nmd'; cases nmd'
          have hd8 : H8 u.md = some (.dK (mdR (.ref u.sn) (.ref u.sr) (.int m.wait.length) (.int (fuseI m)) (.bl m.off))) := by rw [← h8, upd_ne mdn]; exact s7 _ _ (s6 _ _ hd5)
          walk_at "go"
          rename_i H9 h9 o9
          rw [put3] at o9
          have hd9 : H9 u.md = some (.dK (mdR (.ref u.sn) (.ref u.sr) (.int m.wait.length) (.int (fuseI m)) (.bl m.off))) := by rw [← h9, upd_ne mdn]; exact hd8
          walk_at "go"
          rename_i H10 h10 o10 H11 h11 g11
          rw [put4] at o10
          have g7' : H7 md' = some (.dK []) := s7 _ _ (s6 _ _ g5)
          have on : ∀ {x : Addr} {xs : List V}, H7 x = some (.lst xs) → H10 x = some (.lst xs) := fun q => Sg.at_keep h10 (Sg.at_keep h9 (Sg.at_keep h8 q g7' (by intro z; cases z)) g8 (by intro z; cases z)) o9 (by intro z; cases z)
          have hml10 := on (s7 _ _ (s6 _ _ (s5 _ _ hml4)))
          have e1 : ExL [DL, ML] K2 H4 := (ExL.of s3).trans (ExL.put (ms := [DL, ML]) (by simp) h4) (fun x hx => .inl hx)
          have bk4 : ∀ {x : Addr}, H4 x = none → K2 x = none := ExL.back e1 (fun y hy => by
            simp only [List.mem_cons, List.not_mem_nil, or_false] at hy
            rcases hy with rfl | rfl
            · rw [g4]; exact fun z => nomatch z
            · rw [hml4]; exact fun z => nomatch z)
          have nk : K2 md' = none := bk4 nmd'
          have nks : K2 sn' = none := bk4 (s5.free nsn')
          have nkr : K2 sr' = none := bk4 ((s5.trans s6).free nsr')
          have pm : ∀ x ∈ [md'], x ∈ [DL, ML] ∨ K2 x = none := fun x hx => .inr (by rw [List.mem_singleton.mp hx]; exact nk)
          have e11 : ExL [DL, ML] K2 H11 := ((((e1.trans (ExL.of (ms := []) (s5.trans (s6.trans s7))) (fun x hx => nomatch hx)).trans (ExL.put (ms := [md']) (by simp) h8) pm).trans (ExL.put (ms := [md']) (by simp) h9) pm).trans (ExL.put (ms := [md']) (by simp) h10) pm).trans (ExL.put (ms := [DL, ML]) (by simp) h11) (fun x hx => .inl hx)
          have dKF : ∀ {kvs : List (Key × V)}, ¬ Fixed (.dK kvs) := fun z => z
          have k3 : Keeps H3 H11 := (Keeps.upd hdl3 lstNF h4).trans ((Keeps.of (s5.trans (s6.trans s7))).trans ((Keeps.upd g7' dKF h8).trans ((Keeps.upd g8 dKF h9).trans ((Keeps.upd o9 dKF h10).trans (Keeps.upd hml10 lstNF h11)))))
          have k11 : Keeps K2 H11 := (Keeps.of s3).trans k3
          have ne2 : ∀ {x : Addr}, K2 x = none → x ≠ DL ∧ x ≠ ML := fun hx => ⟨(fun z => by
            rw [z, hdl] at hx
            cases hx), (fun z => by
            rw [z, hml] at hx
            cases hx)⟩
          have on11 : ∀ {x : Addr} {xs : List V}, K2 x = none → H7 x = some (.lst xs) → H11 x = some (.lst xs) := fun hx q => by rw [← h11, upd_ne (ne2 hx).2]; exact on q
          obtain ⟨_, _, _, w1, _, _, _, _, w9, w10, w11, _⟩ := id hD3
          have up4 : ∀ {x : Addr} {o : HO}, x ≠ DL → H3 x = some o → H4 x = some o := fun hx q => by rw [← h4, upd_ne hx]; exact q
          have nD : ∀ x ∈ [d', su', sh', un'], x ≠ DL ∧ x ≠ ML := fun x hx => ne2 (n3 x hx)
          have l4 : ∀ x ∈ [d', su', sh', un'], H4 x ≠ none := fun x hx => by
            have hx1 := (nD x hx).1
            simp only [List.mem_cons, List.not_mem_nil, or_false] at hx
            rcases hx with rfl | rfl | rfl | rfl
            · rw [up4 hx1 w1]; exact fun z => nomatch z
            · rw [up4 hx1 w9]; exact fun z => nomatch z
            · rw [up4 hx1 w10]; exact fun z => nomatch z
            · rw [up4 hx1 w11]; exact fun z => nomatch z
          have hD11 : DevQ T.A_Device H11 d' su' sh' un' m := hD3.frame (fun x hx o q => by
            obtain ⟨hx1, hx2⟩ := nD x hx
            have hm : x ≠ md' := fun z => l4 x hx (by rw [z]; exact nmd')
            rw [← h11, upd_ne hx2, ← h10, upd_ne hm, ← h9, upd_ne hm, ← h8, upd_ne hm]
            exact s7 _ _ (s6 _ _ (s5 _ _ (up4 hx1 q)))) k3
          have o11 := Sg.at_keep h11 o10 hml10 (by intro z; cases z)
          have n11 := on11 nks (s7 _ _ g6)
          have r11 := on11 nkr g7
          have outs : ∀ {x : Addr}, H4 x = none → x ∉ [su', sh', un'] := fun h z => l4 _ (List.mem_cons_of_mem _ z) h
          have nsr2 : sn' ≠ sr' := fun z => by
            rw [← z, g6] at nsr'
            cases nsr'
          have hU11 : UAt T.A_Device H11 ⟨d', su', sh', un', md', sn', sr'⟩ m := ⟨hD11, o11, n11, r11, nodup7 hD11 o11 n11 r11 (outs (s5.free nsn')) (outs ((s5.trans s6).free nsr')) nsr2⟩
          have hdl11 : H11 DL = some (.lst (V.ref u.d :: (rest.map fun p => V.ref p.1.d) ++ [V.ref d'])) := by
            rw [← h11, upd_ne hY2.ne]
            exact on (s7 _ _ (s6 _ _ (s5 _ _ g4)))
          have lx : lp ≠ DL ∧ lp ≠ ML := by
            obtain ⟨_, _, q, _⟩ := hY2.lay
            exact ⟨(fun z => by
              rw [z, hdl] at q
              cases q), (fun z => by
              rw [z, hml] at q
              cases q)⟩
          have hSy := hY2.add e11 k11 hU11 (fun x hx => by
            simp only [fpU, List.mem_cons, List.not_mem_nil, or_false] at hx
            rcases hx with rfl | rfl | rfl | rfl | rfl | rfl | rfl
            · exact n3 _ (by simp)
            · exact n3 _ (by simp)
            · exact n3 _ (by simp)
            · exact n3 _ (by simp)
            · exact nk
            · exact nks
            · exact nkr) gG gl (fun v hv => (gb v hv).keeps k11) hdl11 g11 lx
          refine ⟨_, _, _, rfl, hSy, by rw [List.length_append]; exact Nat.le_add_left _ _, by rw [List.length_append]; show _ + 1 ≤ _; omega, fun j p hp => ?_, hK2.trans k11⟩
          rcases Nat.lt_or_ge j ((u, m) :: rest).length with c | c
          · rw [List.getElem?_append_left c] at hp
            exact hw j p hp
          · rw [List.getElem?_append_right c] at hp
            have hj := (List.getElem?_eq_some_iff.mp hp).1
            have j0 : j - ((u, m) :: rest).length = 0 := by simpa using hj
            rw [j0] at hp
            cases hp
            exact hw 0 (u, m) rfl
        · walk_at "go"
          exact ⟨ps, _, _, rfl, hY2, p1, by omega, hw, hK2⟩
      clear hY2 p1 p2 hw hK2 ps
      rintro σ' H3 ⟨ps, v17', v18', rfl, hY3, p1, p2, hw, hK3⟩
      have hdl := hY3.dl
      have hml := hY3.ml
      have lm : (ps.map fun p => V.ref p.1.d).length = ps.length := List.length_map _
      walk_at "go"
      rename_i y hy y0 y1
      rw [lm] at y1
      obtain ⟨⟨u, m⟩, hp⟩ : ∃ p, ps[y.toNat]? = some p := ⟨_, List.getElem?_eq_getElem (by omega)⟩
      have at1 : ∀ f : UN × DevM → V, atI (ps.map f) y = some (f (u, m)) := fun f => by
        rw [show y = ((y.toNat : Nat) : Int) by omega]
        refine atI_nat ?_
        rw [List.getElem?_map, hp]
        rfl
      refine r_ixl (.of hdl) (at1 _) ?_
      walk_at "go"
      refine r_ixl (.of hml) (at1 _) ?_
      walk_at "go"
      refine ⟨lp, L, _, _, rfl, hY3.lay, ⟨hC.l0, hC.l1, hC.d0, hC.d1, hC.z0, hC.z1, hC.f0, hC.f1⟩, fun H4 blk s4 hblk => ?_⟩
      have hY4 := hY3.mono s4
      have hU := hY4.at_ _ _ hp
      obtain ⟨gG, gl, gb⟩ := hY4.gd _ _ hp
      have gw := hw _ _ hp
      dsimp only at hU gG gl gb gw
      have hw1000 : m.wait.length ≤ 1000 := by omega
      have hK4 := hK3.trans (Keeps.of s4)
      clear hY3 hdl hml s4 hK3
      walk_at "go"
      rename_i H5 u' e5 k5 hU5 ed em nw5
      have hY5 := hY4.step hp e5 k5 hU5 ed em nw5 (gG.step kd' ad' nu blk nu0) (step_lay.trans gl) (fun v hv => by
        rcases step_bk gG hv ad0 (by omega) with h | h | rfl
        · exact (gb v (.inl h)).keeps k5
        · exact (gb v (.inr h)).keeps k5
        · exact hblk.keeps k5)
      have hK5 := hK4.trans k5
      have wl : (stepF m kd' ad' nu blk).wait.length ≤ i + 1 := Nat.le_trans step_wait (by omega)
      have hw5 : ∀ (j : Nat) p, (ps.set y.toNat (u', stepF m kd' ad' nu blk))[j]? = some p → p.2.wait.length ≤ i + 1 := fun j p hj => by
        by_cases c : j = y.toNat
        · rw [c, List.getElem?_set_self (by omega)] at hj
          cases hj
          exact wl
        · rw [List.getElem?_set_ne (fun z => c z.symm)] at hj
          have := hw j p hj
          omega
      have l5 : (ps.set y.toNat (u', stepF m kd' ad' nu blk)).length = ps.length := List.length_set
      generalize ps.set y.toNat (u', stepF m kd' ad' nu blk) = qs at hY5 hw5 l5
      clear hU gG gb gl gw hw1000 hY4 hK4 hblk e5 k5 hU5 ed em nw5 wl hw at1 hp lm hy
      have hdl := hY5.dl
      have hml := hY5.ml
      walk_at "go"
      rw [List.length_map]
      refine r_forR (fun j σ' H' => ∃ (v19 : Option V), σ' = [some (.ref a), some (.ref lp), some (.int L.dev), some (.int mo), some (.int of_), some (.ref el), some (.ref DL), some (.ref ML), some (.int (0 + (i : Int))), some (.int row), some (.int y), some (.int kd'), some (.int nr), some (.int ad'), some (.int ot), some (.int nu), some (.int rs), v17', v18', v19, none, none] ∧ Same H5 H') ⟨_, rfl, Same.refl _⟩ ?_ ?_
      · rintro j σ' H6 hj ⟨v19, rfl, s6⟩
        have hY6 := hY5.mono s6
        obtain ⟨⟨u, m⟩, hp⟩ : ∃ p, qs[j]? = some p := ⟨_, List.getElem?_eq_getElem (by omega)⟩
        have at1 : ∀ f : UN × DevM → V, atI (qs.map f) (0 + (j : Int)) = some (f (u, m)) := fun f => by
          rw [Int.zero_add]
          refine atI_nat ?_
          rw [List.getElem?_map, hp]
          rfl
        walk_at "go"
        refine r_ixl (.of hY6.dl) (at1 _) ?_
        walk_at "go"
        refine r_ixl (.of hY6.ml) (at1 _) ?_
        walk_at "go"
        rename_i lq nlq H7 s7 g7
        have hY7 := hY6.mono s7
        have hU := hY7.at_ _ _ hp
        obtain ⟨gG, gl, gb⟩ := hY7.gd _ _ hp
        refine i_law_agrees (n := L.dev.toNat) (as := [ad', ot]) rfl hU gG (.of g7) (fun x hx => ?_) (fun v hv => gb v (.inl hv)) ?_
        · simp only [List.mem_cons, List.not_mem_nil, or_false] at hx
          rcases hx with rfl | rfl
          · exact ⟨ad0, by omega⟩
          · exact ⟨ot0, by omega⟩
        walk_at "go"
        exact ⟨_, rfl, s6.trans s7⟩
      · rintro σ' H6 ⟨v19, rfl, s6⟩
        exact ⟨qs, _, _, _, _, _, _, _, _, _, _, _, _, rfl, hY5.mono s6, by omega, by omega, hw5, hK5.trans (Keeps.of s6)⟩
    · rintro σ' H2 ⟨ps, v8, v9, v10, v11, v12, v13, v14, v15, v16, v17, v18, v19, rfl, hY, p1, p2, hw, hK⟩
      have hdl := hY.dl
      have hml := hY.ml
      have pl : ps.length ≤ 41 := p2
      walk_at "go"
      rw [List.length_map]
      refine r_forR (fun j σ' H' => ∃ (v19 v20 : Option V), σ' = [some (.ref a), some (.ref lp), some (.int L.dev), some (.int mo), some (.int of_), some (.ref el), some (.ref DL), some (.ref ML), v8, v9, v10, v11, v12, v13, v14, v15, v16, v17, v18, v19, v20, none] ∧ Same H2 H') ⟨_, _, rfl, Same.refl _⟩ ?_ ?_
      · rintro j σ' H6 hj ⟨v19, v20, rfl, s6⟩
        have hY6 := hY.mono s6
        obtain ⟨⟨u, m⟩, hp⟩ : ∃ p, ps[j]? = some p := ⟨_, List.getElem?_eq_getElem (by omega)⟩
        have at1 : ∀ f : UN × DevM → V, atI (ps.map f) (0 + (j : Int)) = some (f (u, m)) := fun f => by
          rw [Int.zero_add]
          refine atI_nat ?_
          rw [List.getElem?_map, hp]
          rfl
        have hU6 := hY6.at_ _ _ hp
        obtain ⟨_, hd6, hs6, _, _⟩ := id hU6
        unfold mdK at hd6
        dsimp only at hd6 hs6
        walk_at "go"
        refine r_ixl (.of hY6.ml) (at1 _) ?_
        walk_at "go"
        obtain ⟨gG, gl, gb⟩ := hY6.gd _ _ hp
        dsimp only at gG gb
        have ln : m.shown.length = L.dev.toNat := gG.ls
        refine r_cut (fun σ' H' => σ' = [some (.ref a), some (.ref lp), some (.int L.dev), some (.int mo), some (.int of_), some (.ref el), some (.ref DL), some (.ref ML), v8, v9, v10, v11, v12, v13, v14, v15, v16, v17, v18, some (.int (0 + (j : Int))), some (.ref u.sn), none] ∧ Same H6 H') ?_ ?_
        · walk_at "go"
          refine r_ixl (.of hY6.dl) (at1 _) ?_
          walk_at "go"
          refine r_ixl (.of hY6.ml) (at1 _) ?_
          walk_at "go"
          refine r_lcI (fun i z => z = (i : Int)) (by omega) rfl (fun i H' hi s R hR => ?_) ?_
          · walk_at "go"
            exact hR _ (by omega)
          intro H7 lq zs s7 nlq g7 lz pz
          have hY7 := hY6.mono s7
          have hU7 := hY7.at_ _ _ hp
          obtain ⟨_, _, gb7⟩ := hY7.gd _ _ hp
          dsimp only at hU7 gb7
          refine i_law_agrees (E := E0) (n := L.dev.toNat) (as := zs) rfl hU7 gG (.of g7) (fun x hx => ?_) (fun v hv => gb7 v (.inl hv)) ?_
          · obtain ⟨i, hi, e⟩ := List.getElem_of_mem hx
            have := pz i x (by rw [← e]; exact List.getElem?_eq_getElem hi)
            omega
          walk_at "go"
          refine r_ixl (.of hY7.dl) (at1 _) ?_
          obtain ⟨hD7, hd7, _, hr7, _⟩ := id hU7
          obtain ⟨dxu, fsu, usu, hu1, Fu, _⟩ := id hD7
          have nS := Fu.nS
          unfold mdK at hd7
          walk_at "go"
          refine ⟨_, u.d, m, rfl, hD7.toIn, fun l H8 nl hl => ?_⟩
          have s8 : Same H7 H8 := Sg.Same.of_new hl nl
          have gl8 : H8 l = some (.lst m.sure) := Sg.at_new hl
          have hY8 := hY7.mono s8
          have hd8 := s8 _ _ hd7
          have hr8 := s8 _ _ hr7
          obtain ⟨_, _, gb8⟩ := hY8.gd _ _ hp
          dsimp only at gb8
          walk_at "go"
          refine r_ixl (.of hY8.ml) (at1 _) ?_
          walk_at "go"
          refine r_neL (.of gl8) (.of hr8) (fun v hv => gb8 v (.inr hv)) ?_
          walk_at "go"
          exact ⟨rfl, s7.trans s8⟩
        rintro σ' H7 ⟨rfl, s7⟩
        have hY7 := hY6.mono s7
        have hU7 := hY7.at_ _ _ hp
        obtain ⟨hD7, _, hs7, _, _⟩ := id hU7
        obtain ⟨_, _, gb7⟩ := hY7.gd _ _ hp
        dsimp only at hU7 gb7 hD7 hs7
        obtain ⟨dxu, fsu, usu, hu1, Fu, _⟩ := id hD7
        walk_at "go"
        refine r_listG ?_
        show tOp _ _ _ _ _ _
        walk_at "go"
        refine r_ixl (.of hY7.dl) (at1 _) ?_
        refine ⟨u.d, dxu, fsu, rfl, hu1, Fu.nG, ?_⟩
        refine r_nil ?_
        refine ⟨_, u.d, m, rfl, hD7.toIn, by omega, fun H8 rs s8 hrs np nnp => ?_⟩
        generalize hH9 : upd H8 np _ = H9
        have s9 : Same H8 H9 := Sg.Same.of_new hH9 nnp
        have g9 : H9 np = some (.lst (rs.map V.ref)) := Sg.at_new hH9
        have hs9 := s9 _ _ (s8 _ _ hs7)
        walk_at "go"
        refine r_lcRX (fun i => decide (m.shown.getD i .non ≠ .non)) (fun i acc H' => ∃ ts, acc = ts.map V.ref ∧ PairsAt H' ts (wrt m.shown i)) (by omega) rfl ⟨[], rfl, .nil⟩ (fun i H' hi s R hR => ?_) (fun i acc H' hi hb ⟨ts, e, hp⟩ => ?_) (fun i acc H0 H' hi hb s ⟨ts, e, hp⟩ s' R hR => ?_) ?_
        · have hs' := s _ _ hs9
          walk_at "go"
          refine r_ixl (.of hs') (at_vals (by omega) (by omega)) ?_
          walk_at "go"
          rw [show (0 + (i : Int)).toNat = i by omega, ← decide_not]
          exact hR
        · refine ⟨ts, e, ?_⟩
          rw [wrt_none (getD_at (by omega)) (by simpa using hb)]
          exact hp
        · have hs' := s' _ _ (s _ _ hs9)
          walk_at "go"
          refine r_ixl (.of hs') (at_vals (by omega) (by omega)) ?_
          walk_at "go"
          rename_i p np' H'' hs'' ho
          refine hR _ _ hs'' fun D hD hDl => ⟨ts ++ [p], by rw [e, List.map_append]; rfl, ?_⟩
          have hDl' := hs'' _ _ hDl
          rw [wrt_some (getD_at (by omega)) (by simpa using hb)]
          refine paired_snoc (pairs_hid (PairsAt.mono (s'.trans hs'') hp) hDl') ?_
          rw [hid_ne (ne_of ho hDl' (by intro z; cases z)), ho, show (0 + (i : Int)).toNat = i by omega, Int.zero_add]
        rintro H10 l acc s10 nl gl10 la ⟨ts, rfl, hts⟩
        have hts' := PairsAt.mono hid_same hts
        rw [← ln] at hts'
        refine r_neP (.of (s10 _ _ g9)) (.of gl10) (PairsAt.mono (s9.trans s10) hrs) hts' (fun p hp => (gb7 _ (.inl (wrt_mem hp (Nat.le_refl _)))).keeps (Keeps.of (s8.trans (s9.trans s10)))) ?_
        walk_at "go"
        exact ⟨_, _, rfl, s6.trans (s7.trans (s8.trans (s9.trans s10)))⟩
      · rintro σ' H6 ⟨v19, v20, rfl, s6⟩
        walk_at "go"
        exact q _

end
theorem all_mk {l : PySem.W.OpenLaw} {w : World} {K : PySem.W.Frag} {h : Heap} {mg : Str → Option Value} {fa C_Device C_Layout f_Device___init f_Device_read f_Device_write f_Device_barrier f_Device_cut_after f_Device_was_cut f_Device_pending f_Device_sure_blocks f_Device_written_blocks f_Device_fork f_Device__takes_place f_put_block f_Layout___init f_parts_of f_law_row f_law_digits f_law_layout f_law_block f_law_step f_law_agrees f_law k_BLOCK_SIZES dT_Device___init : Addr} (X : K.In h) (G : h.Ns mainGlobals mg) (hfa : mg "law" = some (.ref fa))
    {od_Device___init an_Device___init od_Device_read an_Device_read od_Device_write an_Device_write od_Device_barrier an_Device_barrier od_Device_cut_after an_Device_cut_after od_Device_was_cut an_Device_was_cut od_Device_pending an_Device_pending od_Device_sure_blocks an_Device_sure_blocks od_Device_written_blocks an_Device_written_blocks od_Device_fork an_Device_fork od_Device__takes_place an_Device__takes_place od_put_block an_put_block od_Layout___init an_Layout___init od_parts_of an_parts_of od_law_row an_law_row od_law_digits an_law_digits od_law_layout an_law_layout od_law_block an_law_block od_law_step an_law_step od_law_agrees an_law_agrees od_law an_law : Option Addr} {sl_Device___init sl_Device_read sl_Device_write sl_Device_barrier sl_Device_cut_after sl_Device_was_cut sl_Device_pending sl_Device_sure_blocks sl_Device_written_blocks sl_Device_fork sl_Device__takes_place sl_put_block sl_Layout___init sl_parts_of sl_law_row sl_law_digits sl_law_layout sl_law_block sl_law_step sl_law_agrees sl_law : Array (Option Value)} {oc_Device___init kV_Device___init dc_Device___init pm_Device___init cd_Device___init ct_Device___init oc_Device_read kV_Device_read dc_Device_read pm_Device_read cd_Device_read ct_Device_read oc_Device_write kV_Device_write dc_Device_write pm_Device_write cd_Device_write ct_Device_write oc_Device_barrier kV_Device_barrier dc_Device_barrier pm_Device_barrier cd_Device_barrier ct_Device_barrier oc_Device_cut_after kV_Device_cut_after dc_Device_cut_after pm_Device_cut_after cd_Device_cut_after ct_Device_cut_after oc_Device_was_cut kV_Device_was_cut dc_Device_was_cut pm_Device_was_cut cd_Device_was_cut ct_Device_was_cut oc_Device_pending kV_Device_pending dc_Device_pending pm_Device_pending cd_Device_pending ct_Device_pending oc_Device_sure_blocks kV_Device_sure_blocks dc_Device_sure_blocks pm_Device_sure_blocks cd_Device_sure_blocks ct_Device_sure_blocks oc_Device_written_blocks kV_Device_written_blocks dc_Device_written_blocks pm_Device_written_blocks cd_Device_written_blocks ct_Device_written_blocks oc_Device_fork kV_Device_fork dc_Device_fork pm_Device_fork cd_Device_fork ct_Device_fork oc_Device__takes_place kV_Device__takes_place dc_Device__takes_place pm_Device__takes_place cd_Device__takes_place ct_Device__takes_place oc_put_block kV_put_block dc_put_block pm_put_block cd_put_block ct_put_block oc_Layout___init kV_Layout___init dc_Layout___init pm_Layout___init cd_Layout___init ct_Layout___init oc_parts_of kV_parts_of dc_parts_of pm_parts_of cd_parts_of ct_parts_of oc_law_row kV_law_row dc_law_row pm_law_row cd_law_row ct_law_row oc_law_digits kV_law_digits dc_law_digits pm_law_digits cd_law_digits ct_law_digits oc_law_layout kV_law_layout dc_law_layout pm_law_layout cd_law_layout ct_law_layout oc_law_block kV_law_block dc_law_block pm_law_block cd_law_block ct_law_block oc_law_step kV_law_step dc_law_step pm_law_step cd_law_step ct_law_step oc_law_agrees kV_law_agrees dc_law_agrees pm_law_agrees cd_law_agrees ct_law_agrees oc_law kV_law dc_law pm_law cd_law ct_law : Value}
    {dd_Device___init : Option Addr} {dn_Device___init : Nat} {dsl_Device___init : Array (Option Value)}
    {t_SUMMARY_HEAD yt_BLOCK_SIZES_0 yt_BLOCK_SIZES_1 yt_BLOCK_SIZES_2 : Tok}
    {yd_BLOCK_SIZES : Option Addr} {yn_BLOCK_SIZES : Nat} {ys_BLOCK_SIZES : Array (Option Value)}
    (mC_Device : PySem.W.nsIn K mainGlobals "Device" = some (some (.ref C_Device)))
    (pg_Device : PySem.W.plainGet K C_Device Str.empty = true)
    (hd_Device : PySem.W.hasDictIn K C_Device = true)
    (po_Device : PySem.W.plainOver K C_Device = true)
    (sa_Device : PySem.W.findIn K (.ref C_Device) "__setattr__" = some (some (.builtin "object.__setattr__")))
    (mk_Device : PySem.W.makesIn K C_Device = true)
    (kc_Device : PySem.W.keepIn K (.ref C_Device) = true)
    (na_Device_layout : PySem.W.findIn K (.ref C_Device) "layout" = some none)
    (na_Device__sure : PySem.W.findIn K (.ref C_Device) "_sure" = some none)
    (na_Device__shown : PySem.W.findIn K (.ref C_Device) "_shown" = some none)
    (na_Device__unsure : PySem.W.findIn K (.ref C_Device) "_unsure" = some none)
    (na_Device__commands_left : PySem.W.findIn K (.ref C_Device) "_commands_left" = some none)
    (na_Device__power_is_off : PySem.W.findIn K (.ref C_Device) "_power_is_off" = some none)
    (mC_Layout : PySem.W.nsIn K mainGlobals "Layout" = some (some (.ref C_Layout)))
    (pg_Layout : PySem.W.plainGet K C_Layout Str.empty = true)
    (hd_Layout : PySem.W.hasDictIn K C_Layout = true)
    (po_Layout : PySem.W.plainOver K C_Layout = true)
    (sa_Layout : PySem.W.findIn K (.ref C_Layout) "__setattr__" = some (some (.builtin "object.__setattr__")))
    (mk_Layout : PySem.W.makesIn K C_Layout = true)
    (kc_Layout : PySem.W.keepIn K (.ref C_Layout) = true)
    (na_Layout_segments : PySem.W.findIn K (.ref C_Layout) "segments" = some none)
    (na_Layout_segment_blocks : PySem.W.findIn K (.ref C_Layout) "segment_blocks" = some none)
    (na_Layout_block_size : PySem.W.findIn K (.ref C_Layout) "block_size" = some none)
    (na_Layout_payload : PySem.W.findIn K (.ref C_Layout) "payload" = some none)
    (na_Layout_limit : PySem.W.findIn K (.ref C_Layout) "limit" = some none)
    (na_Layout_last_id : PySem.W.findIn K (.ref C_Layout) "last_id" = some none)
    (na_Layout_fan : PySem.W.findIn K (.ref C_Layout) "fan" = some none)
    (na_Layout_region_blocks : PySem.W.findIn K (.ref C_Layout) "region_blocks" = some none)
    (na_Layout_device_blocks : PySem.W.findIn K (.ref C_Layout) "device_blocks" = some none)
    (a_Device___init : PySem.W.findIn K (.ref C_Device) "__init__" = some (some (.ref f_Device___init)))
    (i_Device___init : PySem.W.isFn K (.ref f_Device___init) = true)
    (l_Device___init : K.lookup f_Device___init = some ⟨oc_Device___init, od_Device___init, .func (PySem.W.fnOf "__init__" "Device.__init__" (defArgs s_Device___init) (defBody s_Device___init) (defScope s_Device___init) (.ref dT_Device___init) kV_Device___init dc_Device___init pm_Device___init an_Device___init cd_Device___init ct_Device___init), sl_Device___init⟩)
    (dl_Device___init : K.lookup dT_Device___init = some ⟨.type "tuple", dd_Device___init, .seq #[Value.none] dn_Device___init, dsl_Device___init⟩)
    (c_Device___init : PySem.W.codeIn K cd_Device___init "Device.__init__" = true)
    (k_Device___init : PySem.W.keepIn K (.ref f_Device___init) = true)
    (a_Device_read : PySem.W.findIn K (.ref C_Device) "read" = some (some (.ref f_Device_read)))
    (i_Device_read : PySem.W.isFn K (.ref f_Device_read) = true)
    (l_Device_read : K.lookup f_Device_read = some ⟨oc_Device_read, od_Device_read, .func (PySem.W.fnOf "read" "Device.read" (defArgs s_Device_read) (defBody s_Device_read) (defScope s_Device_read) .none kV_Device_read dc_Device_read pm_Device_read an_Device_read cd_Device_read ct_Device_read), sl_Device_read⟩)
    (c_Device_read : PySem.W.codeIn K cd_Device_read "Device.read" = true)
    (k_Device_read : PySem.W.keepIn K (.ref f_Device_read) = true)
    (a_Device_write : PySem.W.findIn K (.ref C_Device) "write" = some (some (.ref f_Device_write)))
    (i_Device_write : PySem.W.isFn K (.ref f_Device_write) = true)
    (l_Device_write : K.lookup f_Device_write = some ⟨oc_Device_write, od_Device_write, .func (PySem.W.fnOf "write" "Device.write" (defArgs s_Device_write) (defBody s_Device_write) (defScope s_Device_write) .none kV_Device_write dc_Device_write pm_Device_write an_Device_write cd_Device_write ct_Device_write), sl_Device_write⟩)
    (c_Device_write : PySem.W.codeIn K cd_Device_write "Device.write" = true)
    (k_Device_write : PySem.W.keepIn K (.ref f_Device_write) = true)
    (a_Device_barrier : PySem.W.findIn K (.ref C_Device) "barrier" = some (some (.ref f_Device_barrier)))
    (i_Device_barrier : PySem.W.isFn K (.ref f_Device_barrier) = true)
    (l_Device_barrier : K.lookup f_Device_barrier = some ⟨oc_Device_barrier, od_Device_barrier, .func (PySem.W.fnOf "barrier" "Device.barrier" (defArgs s_Device_barrier) (defBody s_Device_barrier) (defScope s_Device_barrier) .none kV_Device_barrier dc_Device_barrier pm_Device_barrier an_Device_barrier cd_Device_barrier ct_Device_barrier), sl_Device_barrier⟩)
    (c_Device_barrier : PySem.W.codeIn K cd_Device_barrier "Device.barrier" = true)
    (k_Device_barrier : PySem.W.keepIn K (.ref f_Device_barrier) = true)
    (a_Device_cut_after : PySem.W.findIn K (.ref C_Device) "cut_after" = some (some (.ref f_Device_cut_after)))
    (i_Device_cut_after : PySem.W.isFn K (.ref f_Device_cut_after) = true)
    (l_Device_cut_after : K.lookup f_Device_cut_after = some ⟨oc_Device_cut_after, od_Device_cut_after, .func (PySem.W.fnOf "cut_after" "Device.cut_after" (defArgs s_Device_cut_after) (defBody s_Device_cut_after) (defScope s_Device_cut_after) .none kV_Device_cut_after dc_Device_cut_after pm_Device_cut_after an_Device_cut_after cd_Device_cut_after ct_Device_cut_after), sl_Device_cut_after⟩)
    (c_Device_cut_after : PySem.W.codeIn K cd_Device_cut_after "Device.cut_after" = true)
    (k_Device_cut_after : PySem.W.keepIn K (.ref f_Device_cut_after) = true)
    (a_Device_was_cut : PySem.W.findIn K (.ref C_Device) "was_cut" = some (some (.ref f_Device_was_cut)))
    (i_Device_was_cut : PySem.W.isFn K (.ref f_Device_was_cut) = true)
    (l_Device_was_cut : K.lookup f_Device_was_cut = some ⟨oc_Device_was_cut, od_Device_was_cut, .func (PySem.W.fnOf "was_cut" "Device.was_cut" (defArgs s_Device_was_cut) (defBody s_Device_was_cut) (defScope s_Device_was_cut) .none kV_Device_was_cut dc_Device_was_cut pm_Device_was_cut an_Device_was_cut cd_Device_was_cut ct_Device_was_cut), sl_Device_was_cut⟩)
    (c_Device_was_cut : PySem.W.codeIn K cd_Device_was_cut "Device.was_cut" = true)
    (k_Device_was_cut : PySem.W.keepIn K (.ref f_Device_was_cut) = true)
    (a_Device_pending : PySem.W.findIn K (.ref C_Device) "pending" = some (some (.ref f_Device_pending)))
    (i_Device_pending : PySem.W.isFn K (.ref f_Device_pending) = true)
    (l_Device_pending : K.lookup f_Device_pending = some ⟨oc_Device_pending, od_Device_pending, .func (PySem.W.fnOf "pending" "Device.pending" (defArgs s_Device_pending) (defBody s_Device_pending) (defScope s_Device_pending) .none kV_Device_pending dc_Device_pending pm_Device_pending an_Device_pending cd_Device_pending ct_Device_pending), sl_Device_pending⟩)
    (c_Device_pending : PySem.W.codeIn K cd_Device_pending "Device.pending" = true)
    (k_Device_pending : PySem.W.keepIn K (.ref f_Device_pending) = true)
    (a_Device_sure_blocks : PySem.W.findIn K (.ref C_Device) "sure_blocks" = some (some (.ref f_Device_sure_blocks)))
    (i_Device_sure_blocks : PySem.W.isFn K (.ref f_Device_sure_blocks) = true)
    (l_Device_sure_blocks : K.lookup f_Device_sure_blocks = some ⟨oc_Device_sure_blocks, od_Device_sure_blocks, .func (PySem.W.fnOf "sure_blocks" "Device.sure_blocks" (defArgs s_Device_sure_blocks) (defBody s_Device_sure_blocks) (defScope s_Device_sure_blocks) .none kV_Device_sure_blocks dc_Device_sure_blocks pm_Device_sure_blocks an_Device_sure_blocks cd_Device_sure_blocks ct_Device_sure_blocks), sl_Device_sure_blocks⟩)
    (c_Device_sure_blocks : PySem.W.codeIn K cd_Device_sure_blocks "Device.sure_blocks" = true)
    (k_Device_sure_blocks : PySem.W.keepIn K (.ref f_Device_sure_blocks) = true)
    (a_Device_written_blocks : PySem.W.findIn K (.ref C_Device) "written_blocks" = some (some (.ref f_Device_written_blocks)))
    (i_Device_written_blocks : PySem.W.isFn K (.ref f_Device_written_blocks) = true)
    (l_Device_written_blocks : K.lookup f_Device_written_blocks = some ⟨oc_Device_written_blocks, od_Device_written_blocks, .func (PySem.W.fnOf "written_blocks" "Device.written_blocks" (defArgs s_Device_written_blocks) (defBody s_Device_written_blocks) (defScope s_Device_written_blocks) .none kV_Device_written_blocks dc_Device_written_blocks pm_Device_written_blocks an_Device_written_blocks cd_Device_written_blocks ct_Device_written_blocks), sl_Device_written_blocks⟩)
    (c_Device_written_blocks : PySem.W.codeIn K cd_Device_written_blocks "Device.written_blocks" = true)
    (k_Device_written_blocks : PySem.W.keepIn K (.ref f_Device_written_blocks) = true)
    (a_Device_fork : PySem.W.findIn K (.ref C_Device) "fork" = some (some (.ref f_Device_fork)))
    (i_Device_fork : PySem.W.isFn K (.ref f_Device_fork) = true)
    (l_Device_fork : K.lookup f_Device_fork = some ⟨oc_Device_fork, od_Device_fork, .func (PySem.W.fnOf "fork" "Device.fork" (defArgs s_Device_fork) (defBody s_Device_fork) (defScope s_Device_fork) .none kV_Device_fork dc_Device_fork pm_Device_fork an_Device_fork cd_Device_fork ct_Device_fork), sl_Device_fork⟩)
    (c_Device_fork : PySem.W.codeIn K cd_Device_fork "Device.fork" = true)
    (k_Device_fork : PySem.W.keepIn K (.ref f_Device_fork) = true)
    (a_Device__takes_place : PySem.W.findIn K (.ref C_Device) "_takes_place" = some (some (.ref f_Device__takes_place)))
    (i_Device__takes_place : PySem.W.isFn K (.ref f_Device__takes_place) = true)
    (l_Device__takes_place : K.lookup f_Device__takes_place = some ⟨oc_Device__takes_place, od_Device__takes_place, .func (PySem.W.fnOf "_takes_place" "Device._takes_place" (defArgs s_Device__takes_place) (defBody s_Device__takes_place) (defScope s_Device__takes_place) .none kV_Device__takes_place dc_Device__takes_place pm_Device__takes_place an_Device__takes_place cd_Device__takes_place ct_Device__takes_place), sl_Device__takes_place⟩)
    (c_Device__takes_place : PySem.W.codeIn K cd_Device__takes_place "Device._takes_place" = true)
    (k_Device__takes_place : PySem.W.keepIn K (.ref f_Device__takes_place) = true)
    (a_put_block : PySem.W.nsIn K mainGlobals "_put_block" = some (some (.ref f_put_block)))
    (l_put_block : K.lookup f_put_block = some ⟨oc_put_block, od_put_block, .func (PySem.W.fnOf "_put_block" "_put_block" (defArgs s_put_block) (defBody s_put_block) (defScope s_put_block) .none kV_put_block dc_put_block pm_put_block an_put_block cd_put_block ct_put_block), sl_put_block⟩)
    (c_put_block : PySem.W.codeIn K cd_put_block "_put_block" = true)
    (k_put_block : PySem.W.keepIn K (.ref f_put_block) = true)
    (a_Layout___init : PySem.W.findIn K (.ref C_Layout) "__init__" = some (some (.ref f_Layout___init)))
    (i_Layout___init : PySem.W.isFn K (.ref f_Layout___init) = true)
    (l_Layout___init : K.lookup f_Layout___init = some ⟨oc_Layout___init, od_Layout___init, .func (PySem.W.fnOf "__init__" "Layout.__init__" (defArgs s_Layout___init) (defBody s_Layout___init) (defScope s_Layout___init) .none kV_Layout___init dc_Layout___init pm_Layout___init an_Layout___init cd_Layout___init ct_Layout___init), sl_Layout___init⟩)
    (c_Layout___init : PySem.W.codeIn K cd_Layout___init "Layout.__init__" = true)
    (k_Layout___init : PySem.W.keepIn K (.ref f_Layout___init) = true)
    (a_parts_of : PySem.W.nsIn K mainGlobals "parts_of" = some (some (.ref f_parts_of)))
    (l_parts_of : K.lookup f_parts_of = some ⟨oc_parts_of, od_parts_of, .func (PySem.W.fnOf "parts_of" "parts_of" (defArgs s_parts_of) (defBody s_parts_of) (defScope s_parts_of) .none kV_parts_of dc_parts_of pm_parts_of an_parts_of cd_parts_of ct_parts_of), sl_parts_of⟩)
    (c_parts_of : PySem.W.codeIn K cd_parts_of "parts_of" = true)
    (k_parts_of : PySem.W.keepIn K (.ref f_parts_of) = true)
    (a_law_row : PySem.W.nsIn K mainGlobals "_law_row" = some (some (.ref f_law_row)))
    (l_law_row : K.lookup f_law_row = some ⟨oc_law_row, od_law_row, .func (PySem.W.fnOf "_law_row" "_law_row" (defArgs s_law_row) (defBody s_law_row) (defScope s_law_row) .none kV_law_row dc_law_row pm_law_row an_law_row cd_law_row ct_law_row), sl_law_row⟩)
    (c_law_row : PySem.W.codeIn K cd_law_row "_law_row" = true)
    (k_law_row : PySem.W.keepIn K (.ref f_law_row) = true)
    (a_law_digits : PySem.W.nsIn K mainGlobals "_law_digits" = some (some (.ref f_law_digits)))
    (l_law_digits : K.lookup f_law_digits = some ⟨oc_law_digits, od_law_digits, .func (PySem.W.fnOf "_law_digits" "_law_digits" (defArgs s_law_digits) (defBody s_law_digits) (defScope s_law_digits) .none kV_law_digits dc_law_digits pm_law_digits an_law_digits cd_law_digits ct_law_digits), sl_law_digits⟩)
    (c_law_digits : PySem.W.codeIn K cd_law_digits "_law_digits" = true)
    (k_law_digits : PySem.W.keepIn K (.ref f_law_digits) = true)
    (a_law_layout : PySem.W.nsIn K mainGlobals "_law_layout" = some (some (.ref f_law_layout)))
    (l_law_layout : K.lookup f_law_layout = some ⟨oc_law_layout, od_law_layout, .func (PySem.W.fnOf "_law_layout" "_law_layout" (defArgs s_law_layout) (defBody s_law_layout) (defScope s_law_layout) .none kV_law_layout dc_law_layout pm_law_layout an_law_layout cd_law_layout ct_law_layout), sl_law_layout⟩)
    (c_law_layout : PySem.W.codeIn K cd_law_layout "_law_layout" = true)
    (k_law_layout : PySem.W.keepIn K (.ref f_law_layout) = true)
    (a_law_block : PySem.W.nsIn K mainGlobals "_law_block" = some (some (.ref f_law_block)))
    (l_law_block : K.lookup f_law_block = some ⟨oc_law_block, od_law_block, .func (PySem.W.fnOf "_law_block" "_law_block" (defArgs s_law_block) (defBody s_law_block) (defScope s_law_block) .none kV_law_block dc_law_block pm_law_block an_law_block cd_law_block ct_law_block), sl_law_block⟩)
    (c_law_block : PySem.W.codeIn K cd_law_block "_law_block" = true)
    (k_law_block : PySem.W.keepIn K (.ref f_law_block) = true)
    (a_law_step : PySem.W.nsIn K mainGlobals "_law_step" = some (some (.ref f_law_step)))
    (l_law_step : K.lookup f_law_step = some ⟨oc_law_step, od_law_step, .func (PySem.W.fnOf "_law_step" "_law_step" (defArgs s_law_step) (defBody s_law_step) (defScope s_law_step) .none kV_law_step dc_law_step pm_law_step an_law_step cd_law_step ct_law_step), sl_law_step⟩)
    (c_law_step : PySem.W.codeIn K cd_law_step "_law_step" = true)
    (k_law_step : PySem.W.keepIn K (.ref f_law_step) = true)
    (a_law_agrees : PySem.W.nsIn K mainGlobals "_law_agrees" = some (some (.ref f_law_agrees)))
    (l_law_agrees : K.lookup f_law_agrees = some ⟨oc_law_agrees, od_law_agrees, .func (PySem.W.fnOf "_law_agrees" "_law_agrees" (defArgs s_law_agrees) (defBody s_law_agrees) (defScope s_law_agrees) .none kV_law_agrees dc_law_agrees pm_law_agrees an_law_agrees cd_law_agrees ct_law_agrees), sl_law_agrees⟩)
    (c_law_agrees : PySem.W.codeIn K cd_law_agrees "_law_agrees" = true)
    (k_law_agrees : PySem.W.keepIn K (.ref f_law_agrees) = true)
    (a_law : PySem.W.nsIn K mainGlobals "law" = some (some (.ref f_law)))
    (l_law : K.lookup f_law = some ⟨oc_law, od_law, .func (PySem.W.fnOf "law" "law" (defArgs s_law) (defBody s_law) (defScope s_law) .none kV_law dc_law pm_law an_law cd_law ct_law), sl_law⟩)
    (c_law : PySem.W.codeIn K cd_law "law" = true)
    (k_law : PySem.W.keepIn K (.ref f_law) = true)
    (q_BLOCK_SIZES : PySem.W.nsIn K mainGlobals "BLOCK_SIZES" = some (some (.ref k_BLOCK_SIZES)))
    (y_BLOCK_SIZES : K.lookup k_BLOCK_SIZES = some ⟨.type "tuple", yd_BLOCK_SIZES, .seq #[.int 64 yt_BLOCK_SIZES_0, .int 128 yt_BLOCK_SIZES_1, .int 256 yt_BLOCK_SIZES_2] yn_BLOCK_SIZES, ys_BLOCK_SIZES⟩)
    (q_SUMMARY_HEAD : PySem.W.nsIn K mainGlobals "SUMMARY_HEAD" = some (some (.int 16 t_SUMMARY_HEAD)))
    (n_enumerate : PySem.W.nsIn K mainGlobals "enumerate" = some none)
    (n_int : PySem.W.nsIn K mainGlobals "int" = some none)
    (n_len : PySem.W.nsIn K mainGlobals "len" = some none)
    (n_list : PySem.W.nsIn K mainGlobals "list" = some none)
    (n_range : PySem.W.nsIn K mainGlobals "range" = some none)
    : ∃ fd : FuncData, (∀ (s : Shared) (v : Value), BindsTo s fd ⟨[v], []⟩ [("script", v)]) ∧ ∀ base : Heap, K.In base → base.Ns mainGlobals mg → FnOk l.prog w K mg base CX0 5 fa fd ["script"] (spLawK K) := by
  have e := hfa.symm.trans (PySem.W.mg_of X G a_law)
  cases e
  have F_Device___init : FunD K "__init__" "Device.__init__" (defArgs s_Device___init) (defBody s_Device___init) (defScope s_Device___init) [V.non] [] f_Device___init _ := ⟨⟨_, _, _, _, _, _, _, _, _, _, rfl, l_Device___init, c_Device___init, .inr ⟨by simp, _, _, _, _, rfl, dl_Device___init, rfl, (.cons rfl .nil)⟩, .inl rfl⟩, k_Device___init⟩
  obtain ⟨ds_Device___init_2, v_Device___init_2, b_Device___init_2⟩ := F_Device___init.binds1 (ps := ["self", "layout", "blocks"]) 2 0 (by simp) rfl fun _ _ _ _ _ _ _ us its hl hi => match us, its, hl, hi with | [_, _], [_], _, _ => ⟨_, rfl, rfl⟩
  obtain ⟨ds_Device___init_3, v_Device___init_3, b_Device___init_3⟩ := F_Device___init.binds1 (ps := ["self", "layout", "blocks"]) 3 1 (by simp) rfl fun _ _ _ _ _ _ _ us its hl hi => match us, its, hl, hi with | [_, _, _], [_], _, _ => ⟨_, rfl, rfl⟩
  cases v_Device___init_3
  have F_Device_read := fun_mk (st := s_Device_read) l_Device_read c_Device_read k_Device_read
  have b_Device_read := F_Device_read.binds (ps := ["self", "address"]) fun _ _ _ _ _ _ us hl => match us, hl with | [_, _], _ => rfl
  have F_Device_write := fun_mk (st := s_Device_write) l_Device_write c_Device_write k_Device_write
  have b_Device_write := F_Device_write.binds (ps := ["self", "address", "block"]) fun _ _ _ _ _ _ us hl => match us, hl with | [_, _, _], _ => rfl
  have F_Device_barrier := fun_mk (st := s_Device_barrier) l_Device_barrier c_Device_barrier k_Device_barrier
  have b_Device_barrier := F_Device_barrier.binds (ps := ["self"]) fun _ _ _ _ _ _ us hl => match us, hl with | [_], _ => rfl
  have F_Device_cut_after := fun_mk (st := s_Device_cut_after) l_Device_cut_after c_Device_cut_after k_Device_cut_after
  have b_Device_cut_after := F_Device_cut_after.binds (ps := ["self", "count"]) fun _ _ _ _ _ _ us hl => match us, hl with | [_, _], _ => rfl
  have F_Device_was_cut := fun_mk (st := s_Device_was_cut) l_Device_was_cut c_Device_was_cut k_Device_was_cut
  have b_Device_was_cut := F_Device_was_cut.binds (ps := ["self"]) fun _ _ _ _ _ _ us hl => match us, hl with | [_], _ => rfl
  have F_Device_pending := fun_mk (st := s_Device_pending) l_Device_pending c_Device_pending k_Device_pending
  have b_Device_pending := F_Device_pending.binds (ps := ["self"]) fun _ _ _ _ _ _ us hl => match us, hl with | [_], _ => rfl
  have F_Device_sure_blocks := fun_mk (st := s_Device_sure_blocks) l_Device_sure_blocks c_Device_sure_blocks k_Device_sure_blocks
  have b_Device_sure_blocks := F_Device_sure_blocks.binds (ps := ["self"]) fun _ _ _ _ _ _ us hl => match us, hl with | [_], _ => rfl
  have F_Device_written_blocks := fun_mk (st := s_Device_written_blocks) l_Device_written_blocks c_Device_written_blocks k_Device_written_blocks
  have b_Device_written_blocks := F_Device_written_blocks.binds (ps := ["self"]) fun _ _ _ _ _ _ us hl => match us, hl with | [_], _ => rfl
  have F_Device_fork := fun_mk (st := s_Device_fork) l_Device_fork c_Device_fork k_Device_fork
  have b_Device_fork := F_Device_fork.binds (ps := ["self"]) fun _ _ _ _ _ _ us hl => match us, hl with | [_], _ => rfl
  have F_Device__takes_place := fun_mk (st := s_Device__takes_place) l_Device__takes_place c_Device__takes_place k_Device__takes_place
  have b_Device__takes_place := F_Device__takes_place.binds (ps := ["self"]) fun _ _ _ _ _ _ us hl => match us, hl with | [_], _ => rfl
  have F_put_block := fun_mk (st := s_put_block) l_put_block c_put_block k_put_block
  have b_put_block := F_put_block.binds (ps := ["blocks", "address", "block"]) fun _ _ _ _ _ _ us hl => match us, hl with | [_, _, _], _ => rfl
  have F_Layout___init := fun_mk (st := s_Layout___init) l_Layout___init c_Layout___init k_Layout___init
  have b_Layout___init := F_Layout___init.binds (ps := ["self", "segments", "segment_blocks", "block_size"]) fun _ _ _ _ _ _ us hl => match us, hl with | [_, _, _, _], _ => rfl
  have F_parts_of := fun_mk (st := s_parts_of) l_parts_of c_parts_of k_parts_of
  have b_parts_of := F_parts_of.binds (ps := ["number", "size"]) fun _ _ _ _ _ _ us hl => match us, hl with | [_, _], _ => rfl
  have F_law_row := fun_mk (st := s_law_row) l_law_row c_law_row k_law_row
  have b_law_row := F_law_row.binds (ps := ["script", "k"]) fun _ _ _ _ _ _ us hl => match us, hl with | [_, _], _ => rfl
  have F_law_digits := fun_mk (st := s_law_digits) l_law_digits c_law_digits k_law_digits
  have b_law_digits := F_law_digits.binds (ps := ["row", "sizes"]) fun _ _ _ _ _ _ us hl => match us, hl with | [_, _], _ => rfl
  have F_law_layout := fun_mk (st := s_law_layout) l_law_layout c_law_layout k_law_layout
  have b_law_layout := F_law_layout.binds (ps := ["row"]) fun _ _ _ _ _ _ us hl => match us, hl with | [_], _ => rfl
  have F_law_block := fun_mk (st := s_law_block) l_law_block c_law_block k_law_block
  have b_law_block := F_law_block.binds (ps := ["layout", "row", "sequence"]) fun _ _ _ _ _ _ us hl => match us, hl with | [_, _, _], _ => rfl
  have F_law_step := fun_mk (st := s_law_step) l_law_step c_law_step k_law_step
  have b_law_step := F_law_step.binds (ps := ["device", "model", "kind", "address", "block", "number"]) fun _ _ _ _ _ _ us hl => match us, hl with | [_, _, _, _, _, _], _ => rfl
  have F_law_agrees := fun_mk (st := s_law_agrees) l_law_agrees c_law_agrees k_law_agrees
  have b_law_agrees := F_law_agrees.binds (ps := ["device", "model", "addresses"]) fun _ _ _ _ _ _ us hl => match us, hl with | [_, _, _], _ => rfl
  have F_law := fun_mk (st := s_law) l_law c_law k_law
  have b_law := F_law.binds (ps := ["script"]) fun _ _ _ _ _ _ us hl => match us, hl with | [_], _ => rfl
  let T : Txt K mg := {
    a_Device___init := f_Device___init,
    fd_Device___init := _,
    F_Device___init := F_Device___init,
    b_Device___init := b_Device___init_3,
    ds_Device___init_2 := ds_Device___init_2,
    v_Device___init_2 := v_Device___init_2,
    b_Device___init_2 := b_Device___init_2,
    a_Device_read := f_Device_read,
    fd_Device_read := _,
    F_Device_read := F_Device_read,
    b_Device_read := b_Device_read,
    me_Device_read := ⟨a_Device_read, i_Device_read, k_Device_read⟩,
    a_Device_write := f_Device_write,
    fd_Device_write := _,
    F_Device_write := F_Device_write,
    b_Device_write := b_Device_write,
    me_Device_write := ⟨a_Device_write, i_Device_write, k_Device_write⟩,
    a_Device_barrier := f_Device_barrier,
    fd_Device_barrier := _,
    F_Device_barrier := F_Device_barrier,
    b_Device_barrier := b_Device_barrier,
    me_Device_barrier := ⟨a_Device_barrier, i_Device_barrier, k_Device_barrier⟩,
    a_Device_cut_after := f_Device_cut_after,
    fd_Device_cut_after := _,
    F_Device_cut_after := F_Device_cut_after,
    b_Device_cut_after := b_Device_cut_after,
    me_Device_cut_after := ⟨a_Device_cut_after, i_Device_cut_after, k_Device_cut_after⟩,
    a_Device_was_cut := f_Device_was_cut,
    fd_Device_was_cut := _,
    F_Device_was_cut := F_Device_was_cut,
    b_Device_was_cut := b_Device_was_cut,
    me_Device_was_cut := ⟨a_Device_was_cut, i_Device_was_cut, k_Device_was_cut⟩,
    a_Device_pending := f_Device_pending,
    fd_Device_pending := _,
    F_Device_pending := F_Device_pending,
    b_Device_pending := b_Device_pending,
    me_Device_pending := ⟨a_Device_pending, i_Device_pending, k_Device_pending⟩,
    a_Device_sure_blocks := f_Device_sure_blocks,
    fd_Device_sure_blocks := _,
    F_Device_sure_blocks := F_Device_sure_blocks,
    b_Device_sure_blocks := b_Device_sure_blocks,
    me_Device_sure_blocks := ⟨a_Device_sure_blocks, i_Device_sure_blocks, k_Device_sure_blocks⟩,
    a_Device_written_blocks := f_Device_written_blocks,
    fd_Device_written_blocks := _,
    F_Device_written_blocks := F_Device_written_blocks,
    b_Device_written_blocks := b_Device_written_blocks,
    me_Device_written_blocks := ⟨a_Device_written_blocks, i_Device_written_blocks, k_Device_written_blocks⟩,
    a_Device_fork := f_Device_fork,
    fd_Device_fork := _,
    F_Device_fork := F_Device_fork,
    b_Device_fork := b_Device_fork,
    me_Device_fork := ⟨a_Device_fork, i_Device_fork, k_Device_fork⟩,
    a_Device__takes_place := f_Device__takes_place,
    fd_Device__takes_place := _,
    F_Device__takes_place := F_Device__takes_place,
    b_Device__takes_place := b_Device__takes_place,
    me_Device__takes_place := ⟨a_Device__takes_place, i_Device__takes_place, k_Device__takes_place⟩,
    a_put_block := f_put_block,
    fd_put_block := _,
    F_put_block := F_put_block,
    b_put_block := b_put_block,
    m_put_block := PySem.W.mg_of X G a_put_block,
    a_Layout___init := f_Layout___init,
    fd_Layout___init := _,
    F_Layout___init := F_Layout___init,
    b_Layout___init := b_Layout___init,
    a_parts_of := f_parts_of,
    fd_parts_of := _,
    F_parts_of := F_parts_of,
    b_parts_of := b_parts_of,
    m_parts_of := PySem.W.mg_of X G a_parts_of,
    a_law_row := f_law_row,
    fd_law_row := _,
    F_law_row := F_law_row,
    b_law_row := b_law_row,
    m_law_row := PySem.W.mg_of X G a_law_row,
    a_law_digits := f_law_digits,
    fd_law_digits := _,
    F_law_digits := F_law_digits,
    b_law_digits := b_law_digits,
    m_law_digits := PySem.W.mg_of X G a_law_digits,
    a_law_layout := f_law_layout,
    fd_law_layout := _,
    F_law_layout := F_law_layout,
    b_law_layout := b_law_layout,
    m_law_layout := PySem.W.mg_of X G a_law_layout,
    a_law_block := f_law_block,
    fd_law_block := _,
    F_law_block := F_law_block,
    b_law_block := b_law_block,
    m_law_block := PySem.W.mg_of X G a_law_block,
    a_law_step := f_law_step,
    fd_law_step := _,
    F_law_step := F_law_step,
    b_law_step := b_law_step,
    m_law_step := PySem.W.mg_of X G a_law_step,
    a_law_agrees := f_law_agrees,
    fd_law_agrees := _,
    F_law_agrees := F_law_agrees,
    b_law_agrees := b_law_agrees,
    m_law_agrees := PySem.W.mg_of X G a_law_agrees,
    a_law := fa,
    fd_law := _,
    F_law := F_law,
    b_law := b_law,
    m_law := PySem.W.mg_of X G a_law,
    A_Device := C_Device,
    m_Device := PySem.W.mg_of X G mC_Device,
    cl_Device := ⟨pg_Device, hd_Device, po_Device, sa_Device⟩,
    M_Device := ⟨mk_Device, a_Device___init, i_Device___init, kc_Device⟩,
    na_Device_layout := na_Device_layout,
    na_Device__sure := na_Device__sure,
    na_Device__shown := na_Device__shown,
    na_Device__unsure := na_Device__unsure,
    na_Device__commands_left := na_Device__commands_left,
    na_Device__power_is_off := na_Device__power_is_off,
    A_Layout := C_Layout,
    m_Layout := PySem.W.mg_of X G mC_Layout,
    cl_Layout := ⟨pg_Layout, hd_Layout, po_Layout, sa_Layout⟩,
    M_Layout := ⟨mk_Layout, a_Layout___init, i_Layout___init, kc_Layout⟩,
    na_Layout_segments := na_Layout_segments,
    na_Layout_segment_blocks := na_Layout_segment_blocks,
    na_Layout_block_size := na_Layout_block_size,
    na_Layout_payload := na_Layout_payload,
    na_Layout_limit := na_Layout_limit,
    na_Layout_last_id := na_Layout_last_id,
    na_Layout_fan := na_Layout_fan,
    na_Layout_region_blocks := na_Layout_region_blocks,
    na_Layout_device_blocks := na_Layout_device_blocks,
    a_BLOCK_SIZES := k_BLOCK_SIZES,
    c_BLOCK_SIZES := PySem.W.mg_of X G q_BLOCK_SIZES,
    r_BLOCK_SIZES := rfl,
    v_BLOCK_SIZES := fun _ => .inr ⟨_, _, _, y_BLOCK_SIZES, rfl, rfl, Nat.le_of_ble_eq_true rfl, (.cons ⟨_, rfl⟩ (.cons ⟨_, rfl⟩ (.cons ⟨_, rfl⟩ .nil)))⟩,
    t_SUMMARY_HEAD := t_SUMMARY_HEAD,
    c_SUMMARY_HEAD := PySem.W.mg_of X G q_SUMMARY_HEAD,
    r_SUMMARY_HEAD := ⟨_, rfl⟩,
    n_enumerate := PySem.W.mg_none_of X G n_enumerate,
    n_int := PySem.W.mg_none_of X G n_int,
    n_len := PySem.W.mg_none_of X G n_len,
    n_list := PySem.W.mg_none_of X G n_list,
    n_range := PySem.W.mg_none_of X G n_range }
  exact ⟨_, fun s v => .of_eq rfl, fun base _ _ => ok_law T⟩
theorem walk {l : PySem.W.OpenLaw} {q : Program} {loose : List Str} {XP : (Str → Option Value) → Heap → Prop} {YP : World → Heap → Prop} {d : DefRec} {K : Params → PySem.W.Frag} (hn : l.most = some 63) (hdf : d.params.defaults = [])
    (hY : ∀ (w : World) (h : Heap), YP w h → (K w.params).In h)
    (F : ∀ (w : World) (mg : Str → Option Value) (fa : Addr) (h : Heap), (K w.params).In h → h.Ns mainGlobals mg → mg d.name = some (.ref fa) →
      ∃ fd : FuncData, (∀ (s : Shared) (u : Value), BindsTo s fd ⟨[u], []⟩ [("script", u)]) ∧ ∀ base : Heap, (K w.params).In base → base.Ns mainGlobals mg → FnOk l.prog w (K w.params) mg base CX0 5 fa fd ["script"] (spLawK (K w.params))) :
    PySem.W.WalkO q loose XP YP l.row.toRowW d [] (fun f vs => PySem.call f vs) :=
  L2.walk_of (n := 63) (k := 5) (x := "script") (CX := fun _ => CX0) (sp := fun w => spLawK (K w.params)) hn (by decide) hdf ⟨rfl, by decide, by decide⟩ hY F (fun _ _ a ns hl hO hS => ⟨a, ns, rfl, scr_of hO hS, hl, fun _ => rfl⟩) fun _ _ _ _ _ z => z
end Sg

open PySem PySem.W PyProof.Rows in
set_option maxRecDepth 100000 in
set_option maxHeartbeats 0 in
theorem PySem.Challenge.cw_segmentfs_k05_forks_of_a_device_holds : PySem.Challenge.rw_segmentfs_k05_forks_of_a_device.Holds := by
  w_on; o_law; k_head; (case hw => w_witness2)
  k_fill
  refine Sg.walk (l := PySem.Challenge.rw_segmentfs_k05_forks_of_a_device) rfl rfl (fun w h Y => PySem.W.kIn_of Y) ?F
  case F =>
    intro w mg fa h KX G hmg
    refine' Sg.all_mk KX G hmg ?mC_Device ?pg_Device ?hd_Device ?po_Device ?sa_Device ?mk_Device ?kc_Device ?na_Device_layout ?na_Device__sure ?na_Device__shown ?na_Device__unsure ?na_Device__commands_left ?na_Device__power_is_off ?mC_Layout ?pg_Layout ?hd_Layout ?po_Layout ?sa_Layout ?mk_Layout ?kc_Layout ?na_Layout_segments ?na_Layout_segment_blocks ?na_Layout_block_size ?na_Layout_payload ?na_Layout_limit ?na_Layout_last_id ?na_Layout_fan ?na_Layout_region_blocks ?na_Layout_device_blocks ?a_Device___init ?i_Device___init ?l_Device___init ?dl_Device___init ?c_Device___init ?k_Device___init ?a_Device_read ?i_Device_read ?l_Device_read ?c_Device_read ?k_Device_read ?a_Device_write ?i_Device_write ?l_Device_write ?c_Device_write ?k_Device_write ?a_Device_barrier ?i_Device_barrier ?l_Device_barrier ?c_Device_barrier ?k_Device_barrier ?a_Device_cut_after ?i_Device_cut_after ?l_Device_cut_after ?c_Device_cut_after ?k_Device_cut_after ?a_Device_was_cut ?i_Device_was_cut ?l_Device_was_cut ?c_Device_was_cut ?k_Device_was_cut ?a_Device_pending ?i_Device_pending ?l_Device_pending ?c_Device_pending ?k_Device_pending ?a_Device_sure_blocks ?i_Device_sure_blocks ?l_Device_sure_blocks ?c_Device_sure_blocks ?k_Device_sure_blocks ?a_Device_written_blocks ?i_Device_written_blocks ?l_Device_written_blocks ?c_Device_written_blocks ?k_Device_written_blocks ?a_Device_fork ?i_Device_fork ?l_Device_fork ?c_Device_fork ?k_Device_fork ?a_Device__takes_place ?i_Device__takes_place ?l_Device__takes_place ?c_Device__takes_place ?k_Device__takes_place ?a_put_block ?l_put_block ?c_put_block ?k_put_block ?a_Layout___init ?i_Layout___init ?l_Layout___init ?c_Layout___init ?k_Layout___init ?a_parts_of ?l_parts_of ?c_parts_of ?k_parts_of ?a_law_row ?l_law_row ?c_law_row ?k_law_row ?a_law_digits ?l_law_digits ?c_law_digits ?k_law_digits ?a_law_layout ?l_law_layout ?c_law_layout ?k_law_layout ?a_law_block ?l_law_block ?c_law_block ?k_law_block ?a_law_step ?l_law_step ?c_law_step ?k_law_step ?a_law_agrees ?l_law_agrees ?c_law_agrees ?k_law_agrees ?a_law ?l_law ?c_law ?k_law ?q_BLOCK_SIZES ?y_BLOCK_SIZES ?q_SUMMARY_HEAD ?n_enumerate ?n_int ?n_len ?n_list ?n_range
    (case mC_Device => k_is)
    (case pg_Device => k_is)
    (case hd_Device => k_is)
    (case po_Device => k_is)
    (case sa_Device => k_is)
    (case mk_Device => k_is)
    (case kc_Device => k_is)
    (case na_Device_layout => k_is)
    (case na_Device__sure => k_is)
    (case na_Device__shown => k_is)
    (case na_Device__unsure => k_is)
    (case na_Device__commands_left => k_is)
    (case na_Device__power_is_off => k_is)
    (case mC_Layout => k_is)
    (case pg_Layout => k_is)
    (case hd_Layout => k_is)
    (case po_Layout => k_is)
    (case sa_Layout => k_is)
    (case mk_Layout => k_is)
    (case kc_Layout => k_is)
    (case na_Layout_segments => k_is)
    (case na_Layout_segment_blocks => k_is)
    (case na_Layout_block_size => k_is)
    (case na_Layout_payload => k_is)
    (case na_Layout_limit => k_is)
    (case na_Layout_last_id => k_is)
    (case na_Layout_fan => k_is)
    (case na_Layout_region_blocks => k_is)
    (case na_Layout_device_blocks => k_is)
    (case a_Device___init => k_is)
    (case i_Device___init => k_is)
    (case l_Device___init => k_is)
    (case dl_Device___init => k_is)
    (case c_Device___init => k_is)
    (case k_Device___init => k_is)
    (case a_Device_read => k_is)
    (case i_Device_read => k_is)
    (case l_Device_read => k_is)
    (case c_Device_read => k_is)
    (case k_Device_read => k_is)
    (case a_Device_write => k_is)
    (case i_Device_write => k_is)
    (case l_Device_write => k_is)
    (case c_Device_write => k_is)
    (case k_Device_write => k_is)
    (case a_Device_barrier => k_is)
    (case i_Device_barrier => k_is)
    (case l_Device_barrier => k_is)
    (case c_Device_barrier => k_is)
    (case k_Device_barrier => k_is)
    (case a_Device_cut_after => k_is)
    (case i_Device_cut_after => k_is)
    (case l_Device_cut_after => k_is)
    (case c_Device_cut_after => k_is)
    (case k_Device_cut_after => k_is)
    (case a_Device_was_cut => k_is)
    (case i_Device_was_cut => k_is)
    (case l_Device_was_cut => k_is)
    (case c_Device_was_cut => k_is)
    (case k_Device_was_cut => k_is)
    (case a_Device_pending => k_is)
    (case i_Device_pending => k_is)
    (case l_Device_pending => k_is)
    (case c_Device_pending => k_is)
    (case k_Device_pending => k_is)
    (case a_Device_sure_blocks => k_is)
    (case i_Device_sure_blocks => k_is)
    (case l_Device_sure_blocks => k_is)
    (case c_Device_sure_blocks => k_is)
    (case k_Device_sure_blocks => k_is)
    (case a_Device_written_blocks => k_is)
    (case i_Device_written_blocks => k_is)
    (case l_Device_written_blocks => k_is)
    (case c_Device_written_blocks => k_is)
    (case k_Device_written_blocks => k_is)
    (case a_Device_fork => k_is)
    (case i_Device_fork => k_is)
    (case l_Device_fork => k_is)
    (case c_Device_fork => k_is)
    (case k_Device_fork => k_is)
    (case a_Device__takes_place => k_is)
    (case i_Device__takes_place => k_is)
    (case l_Device__takes_place => k_is)
    (case c_Device__takes_place => k_is)
    (case k_Device__takes_place => k_is)
    (case a_put_block => k_is)
    (case l_put_block => k_is)
    (case c_put_block => k_is)
    (case k_put_block => k_is)
    (case a_Layout___init => k_is)
    (case i_Layout___init => k_is)
    (case l_Layout___init => k_is)
    (case c_Layout___init => k_is)
    (case k_Layout___init => k_is)
    (case a_parts_of => k_is)
    (case l_parts_of => k_is)
    (case c_parts_of => k_is)
    (case k_parts_of => k_is)
    (case a_law_row => k_is)
    (case l_law_row => k_is)
    (case c_law_row => k_is)
    (case k_law_row => k_is)
    (case a_law_digits => k_is)
    (case l_law_digits => k_is)
    (case c_law_digits => k_is)
    (case k_law_digits => k_is)
    (case a_law_layout => k_is)
    (case l_law_layout => k_is)
    (case c_law_layout => k_is)
    (case k_law_layout => k_is)
    (case a_law_block => k_is)
    (case l_law_block => k_is)
    (case c_law_block => k_is)
    (case k_law_block => k_is)
    (case a_law_step => k_is)
    (case l_law_step => k_is)
    (case c_law_step => k_is)
    (case k_law_step => k_is)
    (case a_law_agrees => k_is)
    (case l_law_agrees => k_is)
    (case c_law_agrees => k_is)
    (case k_law_agrees => k_is)
    (case a_law => k_is)
    (case l_law => k_is)
    (case c_law => k_is)
    (case k_law => k_is)
    (case q_BLOCK_SIZES => k_is)
    (case y_BLOCK_SIZES => k_is)
    (case q_SUMMARY_HEAD => k_is)
    (case n_enumerate => k_is)
    (case n_int => k_is)
    (case n_len => k_is)
    (case n_list => k_is)
    (case n_range => k_is)

